import PyProof.Rows.All
import Wide.All
import OpenK.AllK
import Wide.FinOn
import Lean
import PyProof.EqAt
import PyProof.EqKinds
import PyProof.TupleCall
import PyProof.NeKinds
import PyProof.ListMulAny
import PyProof.Rows.CallKwBuiltin
import PyProof.MinMaxWalk
import PyProof.SeqI3
import PyProof.Rows.TupAdd
import PyProof.MeetsDict
import PyProof.DictList
import PyProof.ZipIter
import PyProof.Rows.ZipGen
import PyProof.ListRange
import PyProof.TupleOfStr
import PyProof.Rows.FStr
import PyProof.Rows.StrJoin2
import PyProof.Rows.Range3
import PyProof.EnumMake
import PyProof.EnumFor
import PyProof.EnumStmt
import KE.KUnpackStar
import KE.KDictList
import PyProof.Rows.SortWalk
import KE.RegKIsAll
import PyProof.NsDelKeeps
import PyProof.Rows.CountFlat
import KE.KRevIter
import PyProof.Draws
import PyProof.ExcInit
import PyProof.InstStoreFacts
import PyProof.DictCompW
import PyProof.DictIter
import PyProof.DictWalks
import PyProof.Rows.SetFrom
import PyProof.SetRoads
import KE.KDictOf
import PySem.Challenge.RW_fewjoins_k64_fewest_steps
set_option Elab.async false
set_option linter.all false
set_option maxRecDepth 100000
namespace L2
open PySem PySem.Spec PyProof.Rows
abbrev Key := Sum Int Str
def keyIs : Key → Value → Bool
  | .inl k, v => Value.isInt k v
  | .inr x, v => Value.isStrOf x v
def keyH (w : World) : Key → Int
  | .inl k => hashInt k
  | .inr x => hashStr w x
theorem keyIs_shape : ∀ {k : Key} {v : Value}, keyIs k v = true → (∃ i t, k = Sum.inl i ∧ v = Value.int i t) ∨ (∃ x t, k = Sum.inr x ∧ v = Value.str x t)
  | .inl i, v, h => by
    obtain ⟨t, e⟩ := Value.isInt_shape (k := i) (v := v) h
    exact .inl ⟨i, t, rfl, e⟩
  | .inr x, v, h => by
    obtain ⟨t, e⟩ := Value.isStrOf_shape (x := x) (v := v) h
    exact .inr ⟨x, t, rfl, e⟩
theorem keyIs_int (i : Int) (t : Tok) : keyIs (.inl i) (.int i t) = true := by simp [keyIs, Value.isInt]
theorem keyIs_str (x : Str) (t : Tok) : keyIs (.inr x) (.str x t) = true := by simp [keyIs, Value.isStrOf]
theorem key_ll (a b : Int) : decide ((Sum.inl a : Key) = Sum.inl b) = (a == b) := by
  by_cases e : a = b
  · subst e; simp
  · have h : ¬ (Sum.inl a : Key) = Sum.inl b := fun q => e (Sum.inl.inj q)
    rw [decide_eq_false h]
    exact (beq_eq_false_iff_ne.mpr e).symm
theorem key_rr (a b : Str) : decide ((Sum.inr a : Key) = Sum.inr b) = decide (a = b) := by
  by_cases e : a = b
  · subst e; simp
  · have h : ¬ (Sum.inr a : Key) = Sum.inr b := fun q => e (Sum.inr.inj q)
    rw [decide_eq_false h, decide_eq_false e]
theorem key_lr (a : Int) (b : Str) : decide ((Sum.inl a : Key) = Sum.inr b) = false := decide_eq_false (fun q => nomatch q)
theorem key_rl (a : Str) (b : Int) : decide ((Sum.inr a : Key) = Sum.inl b) = false := decide_eq_false (fun q => nomatch q)
def mixKind (prog : Program) (w : World) : PySem.KeyKind prog w Key where
  is := keyIs
  hash := keyH w
  inj := fun v a b ha hb => by
    rcases keyIs_shape ha with ⟨i, t, rfl, rfl⟩ | ⟨x, t, rfl, rfl⟩
    · rcases keyIs_shape hb with ⟨j, u, rfl, e⟩ | ⟨y, u, rfl, e⟩
      · injection e with e1 _; rw [e1]
      · exact nomatch e
    · rcases keyIs_shape hb with ⟨j, u, rfl, e⟩ | ⟨y, u, rfl, e⟩
      · exact nomatch e
      · injection e with e1 _; rw [e1]
  byValue := fun k v h => by
    rcases keyIs_shape h with ⟨i, t, rfl, rfl⟩ | ⟨x, t, rfl, rfl⟩ <;> rfl
  pyHash := fun hv h => by
    rcases keyIs_shape hv with ⟨i, t, rfl, rfl⟩ | ⟨x, t, rfl, rfl⟩
    · exact wpAny_pyHash_int h
    · exact wpAny_pyHash_str h
  eqBool := fun hu hv h => by
    rcases keyIs_shape hu with ⟨i, t, rfl, rfl⟩ | ⟨x, t, rfl, rfl⟩
    · rcases keyIs_shape hv with ⟨j, u, rfl, rfl⟩ | ⟨y, u, rfl, rfl⟩
      · rw [key_ll] at h; exact wpAny_eqBool_int h
      · rw [key_lr] at h; exact SeqAt.EqAt.int_str i t y u _ _ _ _ h
    · rcases keyIs_shape hv with ⟨j, u, rfl, rfl⟩ | ⟨y, u, rfl, rfl⟩
      · rw [key_rl] at h; exact SeqAt.EqAt.str_int x t j u _ _ _ _ h
      · rw [key_rr] at h; exact wpAny_eqBool_str h
  «strs» := fun k x t v h => by
    rcases keyIs_shape h with ⟨i, u, rfl, e⟩ | ⟨y, u, rfl, e⟩
    · exact nomatch e
    · injection e with e1 _
      subst e1
      cases v <;> rfl
theorem mixKind_int (prog : Program) (w : World) (i : Int) (t : Tok) : (mixKind prog w).is (.inl i) (.int i t) = true := keyIs_int i t
theorem mixKind_str (prog : Program) (w : World) (x : Str) (t : Tok) : (mixKind prog w).is (.inr x) (.str x t) = true := keyIs_str x t
end L2
namespace L2
open PySem PySem.Spec PyProof.Rows
inductive V where
  | non | bl (b : Bool) | int (i : Int) | str (x : Str) | byt (b : Array UInt8) | flt (b : UInt64) | ref (a : Addr) | ty (n : String)
  deriving DecidableEq
def RelV : V → Value → Prop
  | .non, u => u = Value.none
  | .bl b, u => u = Value.bool b
  | .int i, u => ∃ t, u = Value.int i t
  | .str x, u => ∃ t, u = Value.str x t
  | .byt b, u => ∃ t, u = Value.bytes b t
  | .flt b, u => ∃ t, u = Value.float b t
  | .ref a, u => u = Value.ref a
  | .ty n, u => u = Value.type n
abbrev Vals : List V → List Value → Prop := Paired RelV
theorem Vals.length {xs : List V} {us : List Value} (r : Vals xs us) : xs.length = us.length := Paired.length r
theorem Vals.get : ∀ {xs : List V} {us : List Value} {i : Nat} {x : V}, Vals xs us → xs[i]? = some x → ∃ u, us[i]? = some u ∧ RelV x u
  | _, _, _, _, .nil, e => by simp at e
  | _, _, 0, _, .cons r _, e => by simp at e; subst e; exact ⟨_, rfl, r⟩
  | _, _, i + 1, x, .cons _ t, e => by
    obtain ⟨u, h1, h2⟩ := Vals.get (i := i) (x := x) t (by simpa using e)
    exact ⟨u, by simpa using h1, h2⟩
theorem Vals.set {x : V} {u : Value} (r : RelV x u) : ∀ {xs : List V} {us : List Value} (i : Nat), Vals xs us → Vals (xs.set i x) (us.set i u)
  | _, _, _, .nil => .nil
  | _, _, 0, .cons _ t => .cons r t
  | _, _, i + 1, .cons q t => .cons q (Vals.set r i t)
theorem Vals.append : ∀ {xs ys : List V} {us ws : List Value}, Vals xs us → Vals ys ws → Vals (xs ++ ys) (us ++ ws)
  | _, _, _, _, .nil, s => s
  | _, _, _, _, .cons r t, s => .cons r (Vals.append t s)
theorem Vals.take : ∀ {xs : List V} {us : List Value} (n : Nat), Vals xs us → Vals (xs.take n) (us.take n)
  | _, _, 0, _ => .nil
  | _, _, _ + 1, .nil => .nil
  | _, _, n + 1, .cons r t => .cons r (Vals.take n t)
theorem Vals.drop : ∀ {xs : List V} {us : List Value} (n : Nat), Vals xs us → Vals (xs.drop n) (us.drop n)
  | _, _, 0, r => r
  | _, _, _ + 1, .nil => .nil
  | _, _, n + 1, .cons _ t => Vals.drop n t
def RelO : Option V → Option Value → Prop
  | some v, some u => RelV v u
  | none, none => True
  | _, _ => False
def KV {κ : Type} : List (κ × V) → List (κ × Value) → Prop := Paired fun (p : κ × V) (q : κ × Value) => p.1 = q.1 ∧ RelV p.2 q.2
def kV : Key → V
  | .inl i => .int i
  | .inr x => .str x
inductive HO where
  | lst (xs : List V)
  | tup (xs : List V)
  | dK (kvs : List (Key × V)) | dT (kvs : List (List Key × V))
  | set (S : Int → Bool) (n : Nat)
  | ins (C dx : Addr) (fs : List (Str × V))
  | own (x : Addr)
  | xd (fs : List (Str × V))
  | met (f x : Addr)
  | rng (lo hi : Int)
  | frz (o : Obj) (u : HO)
  | tbl (ps : Array Value)
  | ext (φ : Heap → Prop)
abbrev Hp := Addr → Option HO
def upd (H : Hp) (a : Addr) (o : HO) : Hp := fun b => if b = a then some o else H b
theorem upd_same {H : Hp} {a : Addr} {o : HO} : upd H a o a = some o := by unfold upd; rw [if_pos rfl]
theorem upd_ne {H : Hp} {a b : Addr} {o : HO} (h : b ≠ a) : upd H a o b = H b := by unfold upd; rw [if_neg h]
theorem upd_upd {H : Hp} {a : Addr} {o u : HO} : upd (upd H a o) a u = upd H a u := by
  funext b; unfold upd; split <;> rfl
theorem ne_of {H : Hp} {a b : Addr} {o u : HO} (h : H a = some o) (h' : H b = some u) (d : o ≠ u) : a ≠ b := by
  intro e; subst e; rw [h] at h'; exact d (Option.some.inj h')
theorem ne_of_none {H : Hp} {a b : Addr} {o : HO} (h : H a = some o) (h' : H b = none) : a ≠ b := by
  intro e; subst e; rw [h] at h'; cases h'
section
variable (P : Program) (w : World)
def ObjOk (H : Hp) (h : Heap) (a : Addr) : HO → Prop
  | .lst xs => xs.length ≤ sizeLine ∧ ∃ (its : List Value) (n : Nat), Vals xs its ∧ h.get? a = some { cls := .type "list", data := .seq its.toArray n }
  | .tup xs => xs.length ≤ sizeLine ∧ ∃ its : List Value, Vals xs its ∧ IsTup h a its.toArray
  | .dK kvs => kvs.length ≤ sizeLine ∧ (a == sysModules) = false ∧ ∃ vs, KV kvs vs ∧ h.DictOf (mixKind P w) a vs
  | .dT kvs => kvs.length ≤ sizeLine ∧ (a == sysModules) = false ∧ ∃ xs : List (List Key × Addr × Value),
      Paired (fun (p : List Key × V) (q : List Key × Addr × Value) => p.1 = q.1 ∧ H q.2.1 = some (.tup (p.1.map kV)) ∧ RelV p.2 q.2.2) kvs xs ∧
      ∃ o es ep, h.get? a = some o ∧ o.ExactDict ∧ o.data = .dict es ep ∧ es.toList = xs.map (entryOfKey (tupleKind (mixKind P w))) ∧ (xs.map (·.1)).Nodup
  | .set S n => h.SetOf (intKind P w) a S n
  | .ins C dx fs => H dx = some (.own a) ∧ fs.length ≤ 1000 ∧ dx ≠ a ∧ h.get? a = some (PySem.W.instObj C dx) ∧
      ∃ mA, h.Ns1 dx mA ∧ (∀ f, RelO (fs.lookup f) (mA f)) ∧ PySem.Within mA (fs.map (·.1))
  | .own _ => ∃ o, h.get? a = some o
  | .xd fs => ∃ mA, h.Ns1 a mA ∧ ∀ f, RelO (fs.lookup f) (mA f)
  | .rng lo hi => ∃ t u v, h.get? a = some { cls := .type "range", data := .fields #[.int lo t, .int hi u, .int 1 v] }
  | .frz o u => h.get? a = some o ∧ ObjOk H h a u
  | .tbl ps => h.get? a = some { cls := .none, data := .fields ps }
  | .met f x => h.get? a = some (PySem.W.methodObj (.ref f) (.ref x))
  | .ext φ => φ h ∧ (∃ o, h.get? a = some o) ∧ ∀ h1 h2 : Heap, φ h1 → (∀ o, h1.get? a = some o → h2.get? a = some o) → φ h2
def HOk (H : Hp) (h : Heap) : Prop := ∀ a o, H a = some o → ObjOk P w H h a o
end
section
variable {P : Program} {w : World} {H H' : Hp} {h h' : Heap} {a : Addr} {o : HO}
theorem ObjOk.lt (x : ObjOk P w H h a o) : a < h.objs.size := by
  cases o with
  | lst xs => obtain ⟨_, _, _, _, e⟩ := x; exact Heap.lt_size e
  | tup xs => obtain ⟨_, _, _, p⟩ := x; exact p.lt
  | dK kvs => obtain ⟨_, _, _, _, o, _, _, e, _⟩ := x; exact Heap.lt_size e
  | dT kvs => obtain ⟨_, _, _, _, o, _, _, e, _⟩ := x; exact Heap.lt_size e
  | set S n => obtain ⟨o, _, _, _, e, _⟩ := x; exact Heap.lt_size e
  | ins C dx fs => obtain ⟨_, _, _, e, _⟩ := x; exact Heap.lt_size e
  | own y => obtain ⟨_, e⟩ := x; exact Heap.lt_size e
  | xd fs => obtain ⟨_, ⟨_, _, _, e, _⟩, _⟩ := x; exact Heap.lt_size e
  | rng lo hi => obtain ⟨_, _, _, e⟩ := x; exact Heap.lt_size e
  | frz ob u => obtain ⟨e, _⟩ := x; exact Heap.lt_size e
  | tbl ps => exact Heap.lt_size (show h.get? a = some _ from x)
  | met f y => exact Heap.lt_size (show h.get? a = some _ from x)
  | ext φ => obtain ⟨_, ⟨_, e⟩, _⟩ := x; exact Heap.lt_size e
theorem Paired.mapP {α β : Type} {F G : α → β → Prop} : ∀ {l₁ : List α} {l₂ : List β}, Paired F l₁ l₂ → (∀ a b, F a b → G a b) → Paired G l₁ l₂
  | _, _, .nil, _ => .nil
  | _, _, .cons r t, f => .cons (f _ _ r) (Paired.mapP t f)
theorem ObjOk.stay (x : ObjOk P w H h a o) (k : ∀ b u, (b = a ∨ H b = some (.own a)) → h.get? b = some u → h'.get? b = some u)
    (ho : ∀ b, H b = some (.own a) → H' b = some (.own a)) (ht : ∀ b xs, H b = some (.tup xs) → H' b = some (.tup xs)) : ObjOk P w H' h' a o := by
  induction o with
  | lst xs => obtain ⟨z, its, n, r, e⟩ := x; exact ⟨z, its, n, r, k _ _ (.inl rfl) e⟩
  | tup xs => obtain ⟨z, its, r, ob, e, c⟩ := x; exact ⟨z, its, r, ob, k _ _ (.inl rfl) e, c⟩
  | dK kvs => obtain ⟨z, y, vs, r, ob, es, ep, e, c⟩ := x; exact ⟨z, y, vs, r, ob, es, ep, k _ _ (.inl rfl) e, c⟩
  | dT kvs =>
    obtain ⟨z, y, xs, r, ob, es, ep, e, c⟩ := x
    exact ⟨z, y, xs, Paired.mapP r fun p q z => ⟨z.1, ht _ _ z.2.1, z.2.2⟩, ob, es, ep, k _ _ (.inl rfl) e, c⟩
  | set S n => obtain ⟨ob, es, ep, t, e, c⟩ := x; exact ⟨ob, es, ep, t, k _ _ (.inl rfl) e, c⟩
  | ins C dx fs =>
    obtain ⟨d, z, ne, e, mA, ⟨od, es, ep, e2, c⟩, r⟩ := x
    exact ⟨ho _ d, z, ne, k _ _ (.inl rfl) e, mA, ⟨od, es, ep, k _ _ (.inr d) e2, c⟩, r⟩
  | own y => obtain ⟨ob, e⟩ := x; exact ⟨ob, k _ _ (.inl rfl) e⟩
  | xd fs => obtain ⟨mA, ⟨od, es, ep, e, c⟩, r⟩ := x; exact ⟨mA, ⟨od, es, ep, k _ _ (.inl rfl) e, c⟩, r⟩
  | rng lo hi => obtain ⟨t, u, v, e⟩ := x; exact ⟨t, u, v, k _ _ (.inl rfl) e⟩
  | frz ob u ih => obtain ⟨e, q⟩ := x; exact ⟨k _ _ (.inl rfl) e, ih q⟩
  | tbl ps =>
    have e : h.get? a = some { cls := .none, data := .fields ps } := x
    show h'.get? a = some { cls := .none, data := .fields ps }
    exact k a _ (.inl rfl) e
  | met f y =>
    have e : h.get? a = some (PySem.W.methodObj (.ref f) (.ref y)) := x
    show h'.get? a = some (PySem.W.methodObj (.ref f) (.ref y))
    exact k a _ (.inl rfl) e
  | ext φ => obtain ⟨p, ⟨o, e⟩, st⟩ := x; exact ⟨st _ _ p fun o q => k _ _ (.inl rfl) q, ⟨o, k _ _ (.inl rfl) e⟩, st⟩
theorem HOk.lt (x : HOk P w H h) (e : H a = some o) : a < h.objs.size := (x a o e).lt
theorem HOk.fresh (x : HOk P w H h) (e : h.objs.size ≤ a) : H a = none := by
  cases q : H a with
  | none => rfl
  | some u => exact absurd (Nat.lt_of_lt_of_le (x.lt q) e) (Nat.lt_irrefl _)
theorem HOk.kept (x : HOk P w H h) (k : ∀ b u, h.get? b = some u → h'.get? b = some u) : HOk P w H h' := fun a o e =>
  (x a o e).stay (fun b u _ q => k b u q) (fun _ q => q) fun _ _ q => q
theorem HOk.laid (x : HOk P w H h) (k : ∀ b u, h.get? b = some u → h'.get? b = some u) (hp : h.objs.size ≤ a) (new : ObjOk P w (upd H a o) h' a o) : HOk P w (upd H a o) h' := fun b u e => by
  have hn := x.fresh hp
  by_cases hb : b = a
  · subst hb; rw [upd_same] at e; cases e; exact new
  · rw [upd_ne hb] at e
    exact (x b u e).stay (fun c v _ q => k c v q) (fun c q => by rw [upd_ne (ne_of_none q hn)]; exact q) fun c xs q => by rw [upd_ne (ne_of_none q hn)]; exact q
end
def Rd (H : Hp) (a : Addr) (u : HO) : Prop := H a = some u ∨ ∃ o, H a = some (.frz o u)
theorem Rd.of {H : Hp} {a : Addr} {u : HO} (h : H a = some u) : Rd H a u := .inl h
theorem Rd.ok {P : Program} {w : World} {H : Hp} {h : Heap} {a : Addr} {u : HO} (r : Rd H a u) (x : HOk P w H h) : ObjOk P w H h a u := by
  rcases r with r | ⟨o, r⟩
  · exact x a u r
  · obtain ⟨_, q⟩ := x a _ r
    exact q
def Mut : Option HO → Prop
  | some (.lst _) => True
  | some (.dK _) => True
  | some (.dT _) => True
  | some (.set _ _) => True
  | some (.ins _ _ _) => True
  | some (.ext _) => True
  | _ => False
section
variable {P : Program} {w : World} {H : Hp} {h h' : Heap} {x e : Addr} {o' : HO}
theorem HOk.write (ok : HOk P w H h) (mu : Mut (H x)) (he : e = x ∨ H e = some (.own x)) (k : ∀ b u, b ≠ e → h.get? b = some u → h'.get? b = some u) (heo : ∃ u, h'.get? e = some u)
    (new : ObjOk P w (upd H x o') h' x o') : HOk P w (upd H x o') h' := fun b u q => by
  have nown : ∀ c y, H c = some (.own y) → c ≠ x := fun c y r z => by subst z; rw [r] at mu; exact mu
  have ntup : ∀ c xs, H c = some (.tup xs) → c ≠ x := fun c xs r z => by subst z; rw [r] at mu; exact mu
  by_cases hb : b = x
  · subst hb; rw [upd_same] at q; cases q; exact new
  · rw [upd_ne hb] at q
    by_cases hbe : b = e
    · have q' : H b = some (.own x) := by
        rcases he with z | z
        · exact absurd (hbe.trans z) hb
        · rw [hbe]; exact z
      rw [q] at q'; cases q'
      obtain ⟨v, hv⟩ := heo
      exact ⟨v, by rw [hbe]; exact hv⟩
    · refine (ok b u q).stay (fun c v hc r => k c v ?_ r) (fun c r => by rw [upd_ne (nown c b r)]; exact r) fun c xs r => by rw [upd_ne (ntup c xs r)]; exact r
      rcases hc with rfl | hc
      · exact hbe
      · rintro rfl
        rcases he with z | z
        · exact nown c b hc z
        · rw [hc] at z; cases z; exact hb rfl
end
structure Un (fs ex : List Addr) (H H' : Hp) (h h' : Heap) : Prop where
  keep : ∀ b o, h.get? b = some o → H b = none → b ∉ fs → b ∉ ex → h'.get? b = some o
  slot : ∀ b o, h.get? b = some o → H b = none → b ∈ fs → b ∉ ex → ∃ sl, h'.get? b = some { o with slots := sl }
  free : ∀ b o, h.get? b = some o → H b = none → b ∉ ex → H' b = none
  there : ∀ b o, h.get? b = some o → b ∉ ex → ∃ o', h'.get? b = some o'
  tups : ∀ b xs, H b = some (.tup xs) → H' b = some (.tup xs)
  frzs : ∀ b o u, H b = some (.frz o u) → H' b = some (.frz o u)
  tbls : ∀ b ps, H b = some (.tbl ps) → ∃ more, H' b = some (.tbl (ps ++ more))
section
variable {fs fs' ex ex' : List Addr} {H H1 H2 : Hp} {h h1 h2 h' : Heap} {a x e : Addr} {o : HO}
theorem Un.any (u : Un fs ex H H1 h h1) {b : Addr} {ob : Obj} (q : h.get? b = some ob) (n : H b = none) (hx : b ∉ ex) : ∃ sl, h1.get? b = some { ob with slots := sl } := by
  by_cases hb : b ∈ fs
  · exact u.slot b ob q n hb hx
  · exact ⟨ob.slots, u.keep b ob q n hb hx⟩
theorem Un.trans (a : Un fs ex H H1 h h1) (b : Un fs ex H1 H2 h1 h2) : Un fs ex H H2 h h2 where
  keep := fun c ob q n hc hx => b.keep c ob (a.keep c ob q n hc hx) (a.free c ob q n hx) hc hx
  slot := fun c ob q n hc hx => by
    obtain ⟨sl, e1⟩ := a.slot c ob q n hc hx
    obtain ⟨sl', e2⟩ := b.slot c _ e1 (a.free c ob q n hx) hc hx
    exact ⟨sl', e2⟩
  free := fun c ob q n hx => by
    obtain ⟨o', e1⟩ := a.there c ob q hx
    exact b.free c o' e1 (a.free c ob q n hx) hx
  there := fun c ob q hx => by
    obtain ⟨o', e1⟩ := a.there c ob q hx
    exact b.there c o' e1 hx
  tups := fun c xs q => b.tups c xs (a.tups c xs q)
  frzs := fun c ob xs q => b.frzs c ob xs (a.frzs c ob xs q)
  tbls := fun c ps q => by
    obtain ⟨m1, e1⟩ := a.tbls c ps q
    obtain ⟨m2, e2⟩ := b.tbls c _ e1
    exact ⟨m1 ++ m2, by rw [e2, Array.append_assoc]⟩
theorem Un.kept (k : ∀ b u, h.get? b = some u → h'.get? b = some u) : Un fs ex H H h h' :=
  ⟨fun b ob q _ _ _ => k b ob q, fun b ob q _ _ _ => ⟨ob.slots, k b ob q⟩, fun _ _ _ n _ => n, fun b ob q _ => ⟨ob, k b ob q⟩, fun _ _ q => q, fun _ _ _ q => q, fun _ ps q => ⟨#[], by rw [q]; simp⟩⟩
theorem Un.refl : Un fs ex H H h h := Un.kept fun _ _ q => q
theorem Un.laid (k : ∀ b u, h.get? b = some u → h'.get? b = some u) (hp : h.objs.size ≤ a) (hn : H a = none) : Un fs ex H (upd H a o) h h' where
  keep := fun b u q _ _ _ => k b u q
  slot := fun b u q _ _ _ => ⟨u.slots, k b u q⟩
  free := fun b u q n _ => by rw [upd_ne (Nat.ne_of_lt (Nat.lt_of_lt_of_le (Heap.lt_size q) hp))]; exact n
  there := fun b u q _ => ⟨u, k b u q⟩
  tups := fun b xs q => by rw [upd_ne (ne_of_none q hn)]; exact q
  frzs := fun b u xs q => by rw [upd_ne (ne_of_none q hn)]; exact q
  tbls := fun b ps q => ⟨#[], by rw [upd_ne (ne_of_none q hn), q]; simp⟩
theorem Un.write (mu : Mut (H x)) (he : e = x ∨ H e = some (.own x)) (k : ∀ b u, b ≠ e → h.get? b = some u → h'.get? b = some u) (heo : ∃ u, h'.get? e = some u) : Un fs ex H (upd H x o) h h' := by
  have hx : ∀ b, H b = none → b ≠ x := fun b n z => by subst z; rw [n] at mu; exact mu
  have hb : ∀ b, H b = none → b ≠ e := fun b n z => by
    subst z
    rcases he with r | r
    · exact hx b n r
    · rw [n] at r; cases r
  have hm : ∀ b u, H b = some u → ¬ Mut (some u) → b ≠ x := fun b u q nm z => by subst z; rw [q] at mu; exact nm mu
  refine ⟨fun b u q n _ _ => k b u (hb b n) q, fun b u q n _ _ => ⟨u.slots, k b u (hb b n) q⟩, fun b u q n _ => by rw [upd_ne (hx b n)]; exact n, fun b u q _ => ?_,
    fun b xs q => by rw [upd_ne (hm b _ q fun z => z)]; exact q, fun b u xs q => by rw [upd_ne (hm b _ q fun z => z)]; exact q, fun b ps q => ⟨#[], by rw [upd_ne (hm b _ q fun z => z), q]; simp⟩⟩
  by_cases hbe : b = e
  · subst hbe; exact heo
  · exact ⟨u, k b u hbe q⟩
theorem Un.mono (u : Un fs ex H H1 h h1) (hs : ∀ b ∈ fs, b ∈ fs') (hx : ∀ b ∈ ex, b ∈ ex') : Un fs' ex' H H1 h h1 :=
  ⟨fun b ob q n hb he => u.keep b ob q n (fun z => hb (hs b z)) fun z => he (hx b z), fun _ _ q n _ he => u.any q n fun z => he (hx _ z), fun b ob q n he => u.free b ob q n fun z => he (hx b z), fun b ob q he => u.there b ob q fun z => he (hx b z), u.tups, u.frzs, u.tbls⟩
end
def trk (h : Heap) (H : Hp) : List Addr := (List.range h.objs.size).filter fun a => (H a).isSome
def hidT (h : Heap) (H : Hp) : Heap := PySem.W.hideAll h (trk h H)
theorem hidT_size (h : Heap) (H : Hp) : (hidT h H).objs.size = h.objs.size := PySem.W.hideAll_size _ _
theorem hidT_get {h : Heap} {H : Hp} {b : Addr} {o : Obj} (e : h.get? b = some o) (n : H b = none) : (hidT h H).get? b = some o :=
  PySem.W.hideAll_get _ e fun hm => by
    have q : (H b).isSome = true := (List.mem_filter.mp hm).2
    rw [n] at q; simp at q
theorem of_hidT {h : Heap} {H : Hp} {b : Addr} {o : Obj} (e : (hidT h H).get? b = some o) : h.get? b = some o ∧ H b = none := by
  have e' : h.get? b = some o := PySem.W.of_hideAll (trk h H) e
  refine ⟨e', ?_⟩
  cases q : H b with
  | none => rfl
  | some x =>
    have hm : b ∈ trk h H := List.mem_filter.mpr ⟨List.mem_range.mpr (Heap.lt_size e'), by simp [q]⟩
    have z : (hidT h H).get? b = none := PySem.W.hideAll_none (trk h H) hm
    rw [z] at e; cases e
def allNews (g h : Heap) (L : Addr) : List (Addr × Obj) := (List.range h.objs.size).filterMap fun a => if a = L ∨ (g.get? a).isSome = true then none else (h.get? a).map fun o => (a, o)
def rest (g h : Heap) (L d : Addr) : List (Addr × Obj) := (allNews g h L).filter fun p => decide (p.1 ≠ d)
end L2
namespace L2
open PySem PySem.Spec PyProof.Rows
structure Mod (K : PySem.W.Frag) (mg : Str → Option Value) (base : Heap) : Prop where
  kin : K.In base
  glob : base.Ns mainGlobals mg
  blt : ∃ mb, base.Ns builtinsNs mb ∧ ∀ x : Str, x ≠ "__name__" → mb x = bootBuiltins x
  nolimit : base.NoLimit
structure Cx where
  prog : Program
  w : World
  K : PySem.W.Frag
  mg : Str → Option Value
  base : Heap
  A : Around
  N : List Str
  s₀ : Shared
  H₀ : Hp
  env : Env
  outer : List Env
  stack : List Env
  ex : List Addr
  fn : Str → Bool
  calm : Bool
  pn : List (Addr × Obj)
  xe : Value → Shared → Prop
def frs (l : List Env) : List Addr := l.filterMap (·.frame)
abbrev Cx.fs (X : Cx) : List Addr := frs X.outer
def Vis (sc : Scope) (x : Str) : Prop := sc.names.lookup x = some .local ∨ sc.names.lookup x = some .cell ∨ sc.names.lookup x = some .free
def Loc (sc : Scope) (x : Str) : Prop := sc.names.lookup x = some .local ∨ sc.names.lookup x = some .cell
def Look (env : Env) (h : Heap) (m : Str → Option Value) (x : Str) (u : Value) : Prop :=
  (env.kindOf x = some .local ∧ m x = some u) ∨ ((env.kindOf x = some .cell ∨ env.kindOf x = some .free) ∧ ∃ c, env.cells.lookup x = some c ∧ h.IsCell c (some u))
structure Cx.Ok (X : Cx) : Prop where
  mod : Mod X.K X.mg X.base
  kind : X.env.scope.kind = .function
  glob : X.env.globals = mainGlobals
  blt : X.env.builtins = builtinsNs
  above : X.s₀.heap.objs.size ≤ X.env.locals
  inj : ∀ x y c, X.env.cells.lookup x = some c → X.env.cells.lookup y = some c → x = y
  has : ∀ x, (X.env.kindOf x = some .cell ∨ X.env.kindOf x = some .free) → ∃ c, X.env.cells.lookup x = some c
  cab : ∀ x c, X.fn x = true → X.env.cells.lookup x = some c → X.s₀.heap.objs.size ≤ c
  hd : X.calm = true → X.A.handled = none
  frames : X.A.frames = some X.stack
  stk : X.stack = X.outer ∨ (X.stack = X.env :: X.outer ∧ X.env.frame = some X.env.locals)
  exf : ∀ b ∈ X.ex, b ≠ X.env.locals ∧ ∀ x c, X.env.cells.lookup x = some c → c ≠ b
  bs : ∀ b o, X.base.get? b = some o → X.s₀.heap.get? b = some o ∧ X.H₀ b = none
  bsz : X.base.objs.size ≤ X.s₀.heap.objs.size
  noex : ∀ b o, X.base.get? b = some o → b ∉ X.ex
  exfs : ∀ b ∈ X.ex, b ∉ X.fs
  funs : X.s₀.heap.FunFrames X.base X.outer
  frf : ∀ b ∈ X.fs, X.H₀ b = none
structure Inv (X : Cx) (pins : List (Addr × Obj)) (σ : List (Option V)) (H : Hp) (s : Shared) : Prop where
  ok : X.Ok
  os : s.os = X.s₀.os
  bare : AllBare s.gens
  base : Un X.fs X.ex X.H₀ H X.s₀.heap s.heap
  loc : ∃ m, s.heap.Ns X.env.locals m ∧ ∀ (i : Nat) (x : Str) (v : V), X.N[i]? = some x → σ[i]? = some (some v) → Vis X.env.scope x → ∃ u, RelV v u ∧ Look X.env s.heap m x u
  cell : ∀ x c, X.env.cells.lookup x = some c → ∃ v, s.heap.IsCell c v
  free : H X.env.locals = none
  freeC : ∀ x c, X.env.cells.lookup x = some c → H c = none
  pin : ∀ p ∈ X.pn ++ pins, s.heap.get? p.1 = some p.2 ∧ H p.1 = none ∧ p.1 ≠ X.env.locals ∧ p.1 ∉ X.fs ∧ ∀ v, p.2.data ≠ .cell v
  hok : HOk X.prog X.w H s.heap
  len : σ.length = X.N.length
section
variable {X : Cx} {pins : List (Addr × Obj)} {σ : List (Option V)} {H H' : Hp} {s : Shared} {h' : Heap}
theorem Cx.Ok.nofr (ok : X.Ok) {b : Addr} {o : Obj} (e : X.base.get? b = some o) : b ∉ X.fs := fun hb => by
  have := (ok.funs.mem hb).1
  rw [e] at this; cases this
theorem Inv.bs (I : Inv X pins σ H s) : ∀ b o, X.base.get? b = some o → s.heap.get? b = some o ∧ H b = none := fun b o e =>
  ⟨I.base.keep b o (I.ok.bs b o e).1 (I.ok.bs b o e).2 (I.ok.nofr e) (I.ok.noex b o e), I.base.free b o (I.ok.bs b o e).1 (I.ok.bs b o e).2 (I.ok.noex b o e)⟩
theorem Inv.bk (I : Inv X pins σ H s) : ∀ b o, X.base.get? b = some o → s.heap.get? b = some o := fun b o e => (I.bs b o e).1
theorem Inv.mod (I : Inv X pins σ H s) : Mod X.K X.mg X.base := I.ok.mod
theorem Inv.kIn (I : Inv X pins σ H s) : X.K.In s.heap := I.ok.mod.kin.keeps I.bk
theorem Inv.nolimit (I : Inv X pins σ H s) : s.heap.NoLimit := I.ok.mod.nolimit.keeps I.bk
theorem Inv.fr (I : Inv X pins σ H s) : ∃ m, Fr X.base X.env.locals s.heap m :=
  let ⟨m, hn, _⟩ := I.loc
  ⟨m, hn, I.bk, Nat.le_trans I.ok.bsz I.ok.above⟩
theorem Inv.lt (I : Inv X pins σ H s) : X.env.locals < s.heap.objs.size := let ⟨_, hn, _⟩ := I.loc; hn.lt
theorem Inv.sz (I : Inv X pins σ H s) : X.s₀.heap.objs.size ≤ s.heap.objs.size := Nat.le_trans I.ok.above (Nat.le_of_lt I.lt)
theorem Inv.nofs (I : Inv X pins σ H s) {a : Addr} (h : s.heap.objs.size ≤ a) : a ∉ X.fs := fun hb => by
  obtain ⟨_, o, ho, _⟩ := I.ok.funs.mem hb
  exact absurd (Nat.lt_of_lt_of_le (Heap.lt_size ho) (Nat.le_trans I.sz h)) (Nat.lt_irrefl _)
theorem Inv.cne (I : Inv X pins σ H s) : ∀ x c, X.env.cells.lookup x = some c → c ≠ X.env.locals := fun x c e z => by
  obtain ⟨v, o, ho, hd⟩ := I.cell x c e
  obtain ⟨m, ⟨o', es, ep, ho', hd', _⟩, _⟩ := I.loc
  rw [z, ho'] at ho; cases ho; rw [hd'] at hd; cases hd
theorem Inv.funs (I : Inv X pins σ H s) : s.heap.FunFrames X.base X.outer := by
  have all : ∀ (l : List Env), (∀ b ∈ frs l, b ∈ X.fs) → X.s₀.heap.FunFrames X.base l → s.heap.FunFrames X.base l := by
    intro l
    induction l with
    | nil => intro _ _; trivial
    | cons env r ih =>
      intro hs hl
      obtain ⟨hk, ⟨L, o, hf, hn, ho, hd⟩, hr⟩ := hl
      have hL : L ∈ X.fs := hs L (by unfold frs; rw [List.filterMap_cons, hf]; exact List.mem_cons_self)
      obtain ⟨sl, e⟩ := I.base.slot L o ho (I.ok.frf L hL) hL fun z => I.ok.exfs L z hL
      exact ⟨hk, ⟨L, _, hf, hn, e, hd⟩, ih (fun b hb => hs b (by unfold frs; rw [List.filterMap_cons, hf]; exact List.mem_cons_of_mem _ hb)) hr⟩
  exact all X.outer (fun _ hb => hb) I.ok.funs
theorem Inv.stack (I : Inv X pins σ H s) : s.heap.FunFrames X.base X.stack := by
  rcases I.ok.stk with e | ⟨e, hf⟩
  · rw [e]; exact I.funs
  · rw [e]
    obtain ⟨m, hn, _⟩ := I.loc
    refine .cons (by rw [I.ok.kind]; decide) hf hn ?_ I.funs
    exact Heap.get?_none_of_le (Nat.le_trans I.ok.bsz I.ok.above)
theorem Inv.stkSub (I : Inv X pins σ H s) : ∀ b ∈ frs X.stack, b ∈ X.env.locals :: X.fs := fun b hb => by
  rcases I.ok.stk with e | ⟨e, hf⟩
  · rw [e] at hb; exact List.mem_cons_of_mem _ hb
  · rw [e] at hb
    unfold frs at hb
    rw [List.filterMap_cons, hf] at hb
    exact hb
theorem Inv.stkFree (I : Inv X pins σ H s) : ∀ b ∈ frs X.stack, H b = none := fun b hb => by
  rcases List.mem_cons.mp (I.stkSub b hb) with e | hb
  · rw [e]; exact I.free
  · obtain ⟨_, o, ho, _⟩ := I.ok.funs.mem hb
    exact I.base.free b o ho (I.ok.frf b hb) fun z => I.ok.exfs b z hb
theorem Inv.step {g' : Array GenState} {t' : Nat} {d' : Drawn} {ch : List Addr} (I : Inv X pins σ H s)
    (hch : ∀ b ∈ ch, (b ∈ X.ex ∨ X.s₀.heap.objs.size ≤ b) ∧ b ≠ X.env.locals ∧ (∀ x c, X.env.cells.lookup x = some c → c ≠ b) ∧ ∀ p ∈ X.pn ++ pins, p.1 ≠ b)
    (keep : ∀ b o, b ≠ X.env.locals → b ∉ X.fs → b ∉ ch → s.heap.get? b = some o → H b = none → h'.get? b = some o)
    (slot : ∀ b o, b ≠ X.env.locals → b ∈ X.fs → b ∉ ch → s.heap.get? b = some o → H b = none → ∃ sl, h'.get? b = some { o with slots := sl }) (free : ∀ b o, b ∉ ch → s.heap.get? b = some o → H b = none → H' b = none)
    (there : ∀ b o, b ∉ ch → s.heap.get? b = some o → ∃ o', h'.get? b = some o')
    (tups : ∀ b xs, H b = some (.tup xs) → H' b = some (.tup xs)) (frzs : ∀ b o u, H b = some (.frz o u) → H' b = some (.frz o u)) (tbls : ∀ b ps, H b = some (.tbl ps) → ∃ more, H' b = some (.tbl (ps ++ more)))
    (ns : ∀ m, s.heap.Ns X.env.locals m → h'.Ns X.env.locals m) (hok : HOk X.prog X.w H' h') (hg : AllBare g') :
    Inv X pins σ H' { s with heap := h', gens := g', drawn := d', toks := t' } := by
  have neL : ∀ b o, X.s₀.heap.get? b = some o → b ≠ X.env.locals := fun b o e => Nat.ne_of_lt (Nat.lt_of_lt_of_le (Heap.lt_size e) I.ok.above)
  have neC : ∀ b o, X.s₀.heap.get? b = some o → b ∉ X.ex → b ∉ ch := fun b o e hx hb => by
    rcases (hch b hb).1 with z | z
    · exact hx z
    · exact absurd (Nat.lt_of_lt_of_le (Heap.lt_size e) z) (Nat.lt_irrefl _)
  have cellK : ∀ x c, X.env.cells.lookup x = some c → ∀ v, s.heap.IsCell c v → h'.IsCell c v := fun x c e v ⟨o, ho, hd⟩ => by
    have nch : c ∉ ch := fun z => (hch c z).2.2.1 x c e rfl
    by_cases hc : c ∈ X.fs
    · obtain ⟨sl, q⟩ := slot c o (I.cne x c e) hc nch ho (I.freeC x c e)
      exact ⟨_, q, hd⟩
    · exact ⟨o, keep c o (I.cne x c e) hc nch ho (I.freeC x c e), hd⟩
  refine ⟨I.ok, I.os, hg, ⟨fun b o e n hb hx => ?_, fun b o e n hb hx => ?_, fun b o e n hx => ?_, fun b o e hx => ?_, fun b xs e => tups b xs (I.base.tups b xs e), fun b o xs e => frzs b o xs (I.base.frzs b o xs e), fun b ps e => ?_⟩, ?_, fun x c e => ?_, ?_, fun x c e => ?_, fun p hp => ?_, hok, I.len⟩
  · exact keep b o (neL b o e) hb (neC b o e hx) (I.base.keep b o e n hb hx) (I.base.free b o e n hx)
  · obtain ⟨sl, e1⟩ := I.base.slot b o e n hb hx
    obtain ⟨sl', e2⟩ := slot b _ (neL b o e) hb (neC b o e hx) e1 (I.base.free b o e n hx)
    exact ⟨sl', e2⟩
  · obtain ⟨o', e1⟩ := I.base.there b o e hx
    exact free b o' (neC b o e hx) e1 (I.base.free b o e n hx)
  · obtain ⟨o', e1⟩ := I.base.there b o e hx
    exact there b o' (neC b o e hx) e1
  · obtain ⟨m1, e1⟩ := I.base.tbls b ps e
    obtain ⟨m2, e2⟩ := tbls b _ e1
    exact ⟨m1 ++ m2, by rw [e2, Array.append_assoc]⟩
  · obtain ⟨m, hn, hl⟩ := I.loc
    refine ⟨m, ns m hn, fun i x v e1 e2 e3 => ?_⟩
    obtain ⟨u, r, l⟩ := hl i x v e1 e2 e3
    refine ⟨u, r, ?_⟩
    rcases l with l | ⟨k, c, e, z⟩
    · exact .inl l
    · exact .inr ⟨k, c, e, cellK x c e _ z⟩
  · obtain ⟨v, z⟩ := I.cell x c e
    exact ⟨v, cellK x c e v z⟩
  · obtain ⟨m, ⟨o, _, _, ho, _⟩, _⟩ := I.loc
    exact free _ o (fun z => (hch _ z).2.1 rfl) ho I.free
  · obtain ⟨v, o, ho, hd⟩ := I.cell x c e
    exact free c o (fun z => (hch c z).2.2.1 x c e rfl) ho (I.freeC x c e)
  · obtain ⟨e, n, ne, nf, d⟩ := I.pin p hp
    have nch : p.1 ∉ ch := fun z => (hch p.1 z).2.2.2 p hp rfl
    exact ⟨keep p.1 p.2 ne nf nch e n, free p.1 p.2 nch e n, ne, nf, d⟩
theorem Inv.un {t' : Nat} (I : Inv X pins σ H s) (u : Un X.fs [] H H' s.heap h') (hok : HOk X.prog X.w H' h') : Inv X pins σ H' { s with heap := h', toks := t' } := by
  obtain ⟨m, ⟨o, es, ep, ho, r⟩, _⟩ := id I.loc
  obtain ⟨sl, hL⟩ := u.any ho I.free (by simp)
  exact I.step (g' := s.gens) (d' := s.drawn) (ch := []) (fun _ z => nomatch z) (fun b o _ hb _ e n => u.keep b o e n hb (by simp)) (fun b o _ hb _ e n => u.slot b o e n hb (by simp)) (fun b o _ e n => u.free b o e n (by simp)) (fun b o _ e => u.there b o e (by simp)) u.tups u.frzs u.tbls (fun m' hm => by
    obtain ⟨o', es', ep', ho', r'⟩ := hm
    rw [ho] at ho'; cases ho'
    exact ⟨_, es', ep', hL, r'⟩) hok I.bare
theorem Inv.call {g' : Array GenState} {t' : Nat} {d' : Drawn} {ch : List Addr} (I : Inv X pins σ H s) (u : Un (frs X.stack) ch H H' s.heap h') (hok : HOk X.prog X.w H' h') (hg : AllBare g')
    (hch : ∀ b ∈ ch, (b ∈ X.ex ∨ X.s₀.heap.objs.size ≤ b) ∧ b ≠ X.env.locals ∧ (∀ x c, X.env.cells.lookup x = some c → c ≠ b) ∧ ∀ p ∈ X.pn ++ pins, p.1 ≠ b) :
    Inv X pins σ H' { s with heap := h', gens := g', drawn := d', toks := t' } := by
  obtain ⟨m, ⟨o, es, ep, ho, r⟩, _⟩ := id I.loc
  obtain ⟨sl, hL⟩ := u.any ho I.free fun z => (hch _ z).2.1 rfl
  exact I.step (ch := ch) hch (fun b o hL hb hc e n => u.keep b o e n (fun z => (List.mem_cons.mp (I.stkSub b z)).elim hL hb) hc) (fun b o _ _ hc e n => u.any e n hc) (fun b o hc e n => u.free b o e n hc) (fun b o hc e => u.there b o e hc) u.tups u.frzs u.tbls (fun m' hm => by
    obtain ⟨o', es', ep', ho', r'⟩ := hm
    rw [ho] at ho'; cases ho'
    exact ⟨_, es', ep', hL, r'⟩) hok hg
theorem Inv.turned {t' : Nat} {it : Addr} (I : Inv X pins σ H s) (k : ∀ b o, b ≠ it → s.heap.get? b = some o → h'.get? b = some o) (hn : H it = none) (hL : it ≠ X.env.locals)
    (h1 : it ∈ X.ex ∨ X.s₀.heap.objs.size ≤ it) (h2 : ∀ x c, X.env.cells.lookup x = some c → c ≠ it) (h3 : ∀ p ∈ X.pn ++ pins, p.1 ≠ it) : Inv X pins σ H { s with heap := h', toks := t' } := by
  have nit : ∀ b u, H b = some u → b ≠ it := fun b u e z => by rw [z, hn] at e; cases e
  refine I.step (g' := s.gens) (d' := s.drawn) (ch := [it]) (fun b hb => ?_) (fun b o _ _ hc e _ => k b o (fun z => hc (by simp [z])) e) (fun b o _ _ hc e _ => ⟨o.slots, k b o (fun z => hc (by simp [z])) e⟩) (fun _ _ _ _ n => n)
    (fun b o hc e => ⟨o, k b o (fun z => hc (by simp [z])) e⟩) (fun _ _ e => e) (fun _ _ _ e => e) (fun b ps e => ⟨#[], by rw [e]; simp⟩) (fun m hm => ?_) (fun b u e => ?_) I.bare
  · have e : b = it := by simpa using hb
    subst e
    exact ⟨h1, hL, h2, h3⟩
  · obtain ⟨o, es, ep, ho, r⟩ := hm
    exact ⟨o, es, ep, k _ o (Ne.symm hL) ho, r⟩
  · refine (I.hok b u e).stay (fun c v hc q => k c v ?_ q) (fun _ q => q) fun _ _ q => q
    rcases hc with z | z
    · rw [z]; exact nit b u e
    · exact nit c _ z
theorem Inv.tok (I : Inv X pins σ H s) (t : Nat) : Inv X pins σ H { s with toks := t } := I.un (h' := s.heap) (t' := t) Un.refl I.hok
theorem Inv.kept {t' : Nat} (I : Inv X pins σ H s) (k : ∀ b u, s.heap.get? b = some u → h'.get? b = some u) : Inv X pins σ H { s with heap := h', toks := t' } := I.un (Un.kept k) (I.hok.kept k)
theorem Inv.laid {a : Addr} {o : HO} {t' : Nat} (I : Inv X pins σ H s) (k : ∀ b u, s.heap.get? b = some u → h'.get? b = some u) (hp : s.heap.objs.size ≤ a) (new : ObjOk X.prog X.w (upd H a o) h' a o) :
    Inv X pins σ (upd H a o) { s with heap := h', toks := t' } := I.un (Un.laid k hp (I.hok.fresh hp)) (I.hok.laid k hp new)
theorem Inv.write {x e : Addr} {o : HO} {t' : Nat} (I : Inv X pins σ H s) (mu : Mut (H x)) (he : e = x ∨ H e = some (.own x)) (k : ∀ b u, b ≠ e → s.heap.get? b = some u → h'.get? b = some u) (heo : ∃ u, h'.get? e = some u)
    (new : ObjOk X.prog X.w (upd H x o) h' x o) : Inv X pins σ (upd H x o) { s with heap := h', toks := t' } := I.un (Un.write mu he k heo) (I.hok.write mu he k heo new)
theorem Inv.weak {σ' : List (Option V)} (I : Inv X pins σ H s) (hl : σ'.length = σ.length) (w : ∀ (i : Nat) v, σ'[i]? = some (some v) → σ[i]? = some (some v)) : Inv X pins σ' H s :=
  ⟨I.ok, I.os, I.bare, I.base, let ⟨m, hn, hl'⟩ := I.loc; ⟨m, hn, fun i x v e1 e2 e3 => hl' i x v e1 (w i v e2) e3⟩, I.cell, I.free, I.freeC, I.pin, I.hok, hl.trans I.len⟩
theorem Inv.pins_of {pins' : List (Addr × Obj)} (I : Inv X pins σ H s) (h : ∀ p ∈ pins', s.heap.get? p.1 = some p.2 ∧ H p.1 = none ∧ p.1 ≠ X.env.locals ∧ p.1 ∉ X.fs ∧ ∀ v, p.2.data ≠ .cell v) : Inv X pins' σ H s :=
  ⟨I.ok, I.os, I.bare, I.base, I.loc, I.cell, I.free, I.freeC, fun p hp => (List.mem_append.mp hp).elim (fun z => I.pin p (List.mem_append_left _ z)) (h p), I.hok, I.len⟩
theorem nodup_ix {N : List Str} (hN : N.Nodup) {i j : Nat} {x : Str} (a : N[i]? = some x) (b : N[j]? = some x) : i = j := by
  obtain ⟨h1, e1⟩ := List.getElem?_eq_some_iff.mp a
  obtain ⟨h2, e2⟩ := List.getElem?_eq_some_iff.mp b
  exact (List.getElem_inj hN).mp (e1.trans e2.symm)
theorem store_ok2 {M : Model} {A : Around} {E : Value → Shared → Prop} {i : Nat} {x : Str} {v : V} {u : Value} {Q : Unit → Shared → Prop} (I : Inv X pins σ H s) (hN : X.N.Nodup) (hi : X.N[i]? = some x) (hx : Loc X.env.scope x) (r : RelV v u)
    (h : ∀ s', Inv X pins (σ.set i (some v)) H s' → (∃ a, Heap.SameBut a s.heap s'.heap ∧ (a = X.env.locals ∨ X.env.cells.lookup x = some a)) → Q () s') (hf : X.fn x = true ∨ X.env.scope.names.lookup x = some .local := by first | exact .inl rfl | exact .inr rfl | assumption) : wpAny M A (storeName X.env x u) Q E s := by
  obtain ⟨m, hn, hl⟩ := id I.loc
  have hcls : (X.env.scope.kind == .class || (X.env.scope.kind == .module && X.env.locals != X.env.globals)) = false := by rw [I.ok.kind]; rfl
  have hiσ : i < σ.length := by rw [I.len]; exact (List.getElem?_eq_some_iff.mp hi).1
  have cne := I.cne
  have tracked : ∀ {a : Addr} {h' : Heap}, (∃ o, s.heap.get? a = some o ∧ H a = none) → Heap.SameBut a s.heap h' → HOk X.prog X.w H h' := fun {a h'} ha hs b ob e => by
    obtain ⟨_, _, hfree⟩ := ha
    refine (I.hok b ob e).stay (fun c w' hc q => (hs.2 c ?_).trans q) (fun _ q => q) fun _ _ q => q
    rintro rfl
    rcases hc with rfl | hc
    · rw [hfree] at e; cases e
    · rw [hfree] at hc; cases hc
  rcases hx with hk | hk
  · refine wpAny_storeName_local hk hn (fun h' hn' hs => ?_) hcls
    obtain ⟨oL, _, _, hoL, _⟩ := id hn
    refine h _ ⟨I.ok, I.os, I.bare, ⟨fun b o e n hb hx => ?_, fun b o e n hb hx => ?_, I.base.free, fun b o e hx => ?_, I.base.tups, I.base.frzs, I.base.tbls⟩, ⟨_, hn', fun j y v' e1 e2 e3 => ?_⟩, fun y c e => ?_, I.free, I.freeC, fun p hp => ?_, tracked ⟨oL, hoL, I.free⟩ hs, by simpa using I.len⟩ ⟨_, hs, .inl rfl⟩
    · exact (hs.2 b (Nat.ne_of_lt (Nat.lt_of_lt_of_le (Heap.lt_size e) I.ok.above))).trans (I.base.keep b o e n hb hx)
    · obtain ⟨sl, e1⟩ := I.base.slot b o e n hb hx
      exact ⟨sl, (hs.2 b (Nat.ne_of_lt (Nat.lt_of_lt_of_le (Heap.lt_size e) I.ok.above))).trans e1⟩
    · obtain ⟨o', e1⟩ := I.base.there b o e hx
      exact ⟨o', (hs.2 b (Nat.ne_of_lt (Nat.lt_of_lt_of_le (Heap.lt_size e) I.ok.above))).trans e1⟩
    · by_cases hj : j = i
      · subst hj
        rw [hi] at e1; cases e1
        rw [List.getElem?_set_self hiσ] at e2
        cases e2
        exact ⟨u, r, .inl ⟨hk, by simp⟩⟩
      · rw [List.getElem?_set_ne (Ne.symm hj)] at e2
        obtain ⟨u', r', q⟩ := hl j y v' e1 e2 e3
        refine ⟨u', r', ?_⟩
        rcases q with ⟨k, e⟩ | ⟨k, c, e, z⟩
        · refine .inl ⟨k, ?_⟩
          have : y ≠ x := fun e => hj (nodup_ix hN e1 (e ▸ hi))
          simp [this, e]
        · exact .inr ⟨k, c, e, z.sameBut hs (cne y c e)⟩
    · obtain ⟨w', z⟩ := I.cell y c e
      exact ⟨w', z.sameBut hs (cne y c e)⟩
    · obtain ⟨e, n, ne, nf, d⟩ := I.pin p hp
      exact ⟨(hs.2 p.1 ne).trans e, n, ne, nf, d⟩
  · have hfn : X.fn x = true := by
      rcases hf with z | z
      · exact z
      · rw [z] at hk; cases hk
    obtain ⟨c, hc⟩ := I.ok.has x (.inl hk)
    obtain ⟨w', z⟩ := I.cell x c hc
    refine wpAny_storeName_cell I.ok.kind hk hc z (fun h' hc' hs => ?_)
    obtain ⟨oc, hoc, hocd⟩ := id z
    refine h { s with heap := h' } ⟨I.ok, I.os, I.bare, ⟨fun b o e n hb hx => ?_, fun b o e n hb hx => ?_, I.base.free, fun b o e hx => ?_, I.base.tups, I.base.frzs, I.base.tbls⟩, ⟨m, hn.sameBut hs (Ne.symm (cne x c hc)), fun j y v' e1 e2 e3 => ?_⟩, fun y c' e => ?_, I.free, I.freeC, fun p hp => ?_, tracked ⟨oc, hoc, I.freeC x c hc⟩ hs, by simpa using I.len⟩ ⟨c, hs, .inr hc⟩
    · exact (hs.2 b (Nat.ne_of_lt (Nat.lt_of_lt_of_le (Heap.lt_size e) (I.ok.cab x c hfn hc)))).trans (I.base.keep b o e n hb hx)
    · obtain ⟨sl, e1⟩ := I.base.slot b o e n hb hx
      exact ⟨sl, (hs.2 b (Nat.ne_of_lt (Nat.lt_of_lt_of_le (Heap.lt_size e) (I.ok.cab x c hfn hc)))).trans e1⟩
    · obtain ⟨o', e1⟩ := I.base.there b o e hx
      exact ⟨o', (hs.2 b (Nat.ne_of_lt (Nat.lt_of_lt_of_le (Heap.lt_size e) (I.ok.cab x c hfn hc)))).trans e1⟩
    · by_cases hj : j = i
      · subst hj
        rw [hi] at e1; cases e1
        rw [List.getElem?_set_self hiσ] at e2
        cases e2
        exact ⟨u, r, .inr ⟨.inl hk, c, hc, hc'⟩⟩
      · rw [List.getElem?_set_ne (Ne.symm hj)] at e2
        obtain ⟨u', r', q⟩ := hl j y v' e1 e2 e3
        refine ⟨u', r', ?_⟩
        rcases q with q | ⟨k, c', e, z'⟩
        · exact .inl q
        · refine .inr ⟨k, c', e, z'.sameBut hs ?_⟩
          rintro rfl
          exact hj (nodup_ix hN e1 (I.ok.inj _ _ _ e hc ▸ hi))
    · by_cases hcc : c' = c
      · subst hcc; exact ⟨_, hc'⟩
      · obtain ⟨w2, z2⟩ := I.cell y c' e
        exact ⟨w2, z2.sameBut hs hcc⟩
    · obtain ⟨e, n, ne, nf, d⟩ := I.pin p hp
      refine ⟨(hs.2 p.1 ?_).trans e, n, ne, nf, d⟩
      intro q
      rw [q, hoc] at e
      have q' : oc = p.2 := Option.some.inj e
      exact d w' (by rw [← q']; exact hocd)
theorem store_ok {M : Model} {A : Around} {E : Value → Shared → Prop} {i : Nat} {x : Str} {v : V} {u : Value} {Q : Unit → Shared → Prop} (I : Inv X pins σ H s) (hN : X.N.Nodup) (hi : X.N[i]? = some x) (hx : Loc X.env.scope x) (r : RelV v u)
    (h : ∀ s', Inv X pins (σ.set i (some v)) H s' → Q () s') (hf : X.fn x = true ∨ X.env.scope.names.lookup x = some .local := by first | exact .inl rfl | exact .inr rfl | assumption) : wpAny M A (storeName X.env x u) Q E s :=
  store_ok2 I hN hi hx r (fun s' I' _ => h s' I') hf
theorem Inv.call' {s' : Shared} {ch : List Addr} (I : Inv X pins σ H s) (ho : s'.os = s.os) (u : Un (frs X.stack) ch H H' s.heap s'.heap) (hok : HOk X.prog X.w H' s'.heap) (hg : AllBare s'.gens)
    (hch : ∀ b ∈ ch, (b ∈ X.ex ∨ X.s₀.heap.objs.size ≤ b) ∧ b ≠ X.env.locals ∧ (∀ x c, X.env.cells.lookup x = some c → c ≠ b) ∧ ∀ p ∈ X.pn ++ pins, p.1 ≠ b) : Inv X pins σ H' s' := by
  obtain ⟨h', g', d', t', o'⟩ := s'
  have e : o' = s.os := ho
  subst e
  exact I.call (g' := g') (t' := t') (d' := d') u hok hg hch
end
abbrev XK := Value → Option Addr → Hp → Prop
abbrev St := List (Option V)
abbrev VK := V → Hp → Prop
abbrev TE := St → Hp → VK → Prop
abbrev TT := St → Hp → (Bool → Hp → Prop) → Prop
abbrev TA := St → Hp → (List V → Hp → Prop) → Prop
structure Ends where
  nx : St → Hp → Prop
  rt : VK
  bk : St → Hp → Prop := fun _ _ => False
  ct : St → Hp → Prop := fun _ _ => False
abbrev TS := Ends → St → Hp → Prop
def EP (X : Cx) (pins : List (Addr × Obj)) (σ : St) (Q : VK) (u : Value) (s' : Shared) : Prop := ∃ v H', Inv X pins σ H' s' ∧ RelV v u ∧ Q v H'
def TP (X : Cx) (pins : List (Addr × Obj)) (σ : St) (Q : Bool → Hp → Prop) (b : Bool) (s' : Shared) : Prop := ∃ H', Inv X pins σ H' s' ∧ Q b H'
def AP (X : Cx) (pins : List (Addr × Obj)) (σ : St) (Q : List V → Hp → Prop) (us : List Value) (s' : Shared) : Prop := ∃ vs H', Inv X pins σ H' s' ∧ Vals vs us ∧ Q vs H'
def SP (X : Cx) (pins : List (Addr × Obj)) (D : Ends) (f : Flow) (s' : Shared) : Prop :=
  match f with
  | .next => ∃ σ' H', Inv X pins σ' H' s' ∧ D.nx σ' H'
  | .brk => ∃ σ' H', Inv X pins σ' H' s' ∧ D.bk σ' H'
  | .cont => ∃ σ' H', Inv X pins σ' H' s' ∧ D.ct σ' H'
  | .ret u => ∃ v σ' H', Inv X pins σ' H' s' ∧ RelV v u ∧ D.rt v H'
def PE (X : Cx) (e : Expr) (t : TE) : Prop :=
  ∀ (pins : List (Addr × Obj)) (s : Shared) (σ : St) (H : Hp) (Q : VK), Inv X pins σ H s → t σ H Q → wpAny (model X.prog X.w) X.A (eval e X.env) (EP X pins σ Q) X.xe s
def PT (X : Cx) (e : Expr) (t : TT) : Prop :=
  ∀ (pins : List (Addr × Obj)) (s : Shared) (σ : St) (H : Hp) (Q : Bool → Hp → Prop), Inv X pins σ H s → t σ H Q → wpAny (model X.prog X.w) X.A (isTrue e X.env (eval e X.env)) (TP X pins σ Q) X.xe s
def PW (X : Cx) (e : Expr) (t : TT) : Prop :=
  ∀ (whole : Sem Value) (pins : List (Addr × Obj)) (s : Shared) (σ : St) (H : Hp) (Q : Bool → Hp → Prop), Inv X pins σ H s → t σ H Q → wpAny (model X.prog X.w) X.A (isTrue e X.env whole) (TP X pins σ Q) X.xe s
theorem PW.pt {X : Cx} {e : Expr} {t : TT} (h : PW X e t) : PT X e t := h _
def PA (X : Cx) (es : List Expr) (t : TA) : Prop :=
  ∀ (pos : Pos) (pins : List (Addr × Obj)) (s : Shared) (σ : St) (H : Hp) (Q : List V → Hp → Prop), Inv X pins σ H s → t σ H Q → wpAny (model X.prog X.w) X.A (spliced (backTo pos (starEach es X.env))) (AP X pins σ Q) X.xe s
def PS (X : Cx) (st : Stmt) (t : TS) : Prop :=
  ∀ (pins : List (Addr × Obj)) (s : Shared) (σ : St) (H : Hp) (D : Ends), Inv X pins σ H s → t D σ H → wpAny (model X.prog X.w) X.A (exec st X.env) (SP X pins D) X.xe s
def PSs (X : Cx) (st : List Stmt) (t : TS) : Prop :=
  ∀ (pins : List (Addr × Obj)) (s : Shared) (σ : St) (H : Hp) (D : Ends), Inv X pins σ H s → t D σ H → wpAny (model X.prog X.w) X.A (execs st X.env) (SP X pins D) X.xe s
theorem thn {α : Type} {t : Sem α} {Q Q' : α → Shared → Prop} {M : Model} {A : Around} {E : Value → Shared → Prop} {s : Shared} (h : wpAny M A t Q E s) (hQ : ∀ a s, Q a s → Q' a s) : wpAny M A t Q' E s := wpAny_mono h hQ fun _ _ x => x
end L2
namespace L2
open PySem PySem.Spec PyProof.Rows
section
variable {X : Cx}
def tVar (i : Nat) : TE := fun σ H Q => ∃ v, σ[i]? = some (some v) ∧ Q v H
def tC (v : V) : TE := fun _ H Q => Q v H
theorem pe_var {i : Nat} {x : Str} {pos : Pos} (hN : X.N[i]? = some x) (hv : Vis X.env.scope x) (hd : (x == ("__debug__" : Str)) = false := by decide) (hcd : (x == ("__classdict__" : Str)) = false := by decide) : PE X (.Name x pos) (tVar i) := by
  intro pins s σ H Q I h
  obtain ⟨v, e, h⟩ := h
  obtain ⟨m, hn, hl⟩ := I.loc
  obtain ⟨u, r, l⟩ := hl i x v hN e hv
  have fin : EP X pins σ Q u s := ⟨v, H, I, r, h⟩
  rcases l with ⟨hk, hm⟩ | ⟨hk, c, hc, hcell⟩
  · exact wpAny_Name (wpAny_loadName_local I.ok.kind hk hn hm fin) hd
  · rcases hk with hk | hk
    · exact wpAny_Name (wpAny_loadName_cell I.ok.kind hk hc hcell fin) hd
    · exact wpAny_Name (wpAny_loadName_free I.ok.kind hk hc hcell fin hcd) hd
theorem pe_int {i j pos} : PE X (.Constant (.int i) j pos) (tC (.int i)) := fun _ _ _ H _ I h => wpAny_Constant_int ⟨.int i, H, I.tok _, ⟨_, rfl⟩, h⟩
theorem pe_bl {b j pos} : PE X (.Constant (.bool b) j pos) (tC (.bl b)) := fun _ _ _ H _ I h => Constant_bool ⟨.bl b, H, I, rfl, h⟩
theorem pe_str {x j pos} : PE X (.Constant (.str x) j pos) (tC (.str x)) := fun _ _ _ H _ I h => Calls.Constant_str ⟨.str x, H, I.tok _, ⟨_, rfl⟩, h⟩
def Gl (X : Cx) (x : Str) : Prop := X.env.kindOf x = some .globalImplicit
theorem ld_glob {E : Value → Shared → Prop} {pins : List (Addr × Obj)} {s : Shared} {σ : St} {H : Hp} {x : Str} {u : Value} {pos : Pos} {Q : Value → Shared → Prop} (I : Inv X pins σ H s) (hg : Gl X x) (hm : X.mg x = some u) (h : Q u s)
    (hd : (x == ("__debug__" : Str)) = false := by decide) : wpAny (model X.prog X.w) X.A (eval (.Name x pos) X.env) Q E s :=
  Calls.Name_function_global I.ok.kind hg (Calls.loadGlobal_global (by rw [I.ok.glob]; exact I.mod.glob.keeps I.bk) hm h) hd
theorem ld_blt {E : Value → Shared → Prop} {pins : List (Addr × Obj)} {s : Shared} {σ : St} {H : Hp} {x : Str} {u : Value} {pos : Pos} {Q : Value → Shared → Prop} (I : Inv X pins σ H s) (hg : Gl X x) (hm : X.mg x = none) (hv : bootBuiltins x = some u) (h : Q u s)
    (hn : x ≠ "__name__" := by decide) (hd : (x == ("__debug__" : Str)) = false := by decide) : wpAny (model X.prog X.w) X.A (eval (.Name x pos) X.env) Q E s := by
  obtain ⟨mb, h1, h2⟩ := I.mod.blt
  exact Calls.Name_function_global I.ok.kind hg (Calls.loadGlobal_builtin (by rw [I.ok.glob]; exact I.mod.glob.keeps I.bk) hm (by rw [I.ok.blt]; exact h1.keeps I.bk) ((h2 x hn).trans hv) h) hd
theorem pe_glob {x : Str} {v : V} {u : Value} {pos : Pos} (hg : Gl X x) (hm : X.mg x = some u) (r : RelV v u) (hd : (x == ("__debug__" : Str)) = false := by decide) : PE X (.Name x pos) (tC v) :=
  fun _ _ _ H _ I h => ld_glob I hg hm ⟨v, H, I, r, h⟩ hd
theorem pe_bltn {x : Str} {v : V} {u : Value} {pos : Pos} (hg : Gl X x) (hm : X.mg x = none) (hv : bootBuiltins x = some u) (r : RelV v u) (hn : x ≠ "__name__" := by decide) (hd : (x == ("__debug__" : Str)) = false := by decide) : PE X (.Name x pos) (tC v) :=
  fun _ _ _ H _ I h => ld_blt I hg hm hv ⟨v, H, I, r, h⟩ hn hd
variable {a b : Expr} {ta tb : TE} {pos : Pos}
def PC (X : Cx) (op : CmpOp) (a b : Expr) (t : TE) : Prop :=
  ∀ (pins : List (Addr × Obj)) (s : Shared) (σ : St) (H : Hp) (Q : VK), Inv X pins σ H s → t σ H Q →
    wpAny (model X.prog X.w) X.A (eval a X.env) (fun v s₁ => wpAny (model X.prog X.w) X.A (eval b X.env) (fun u s₂ => wpAny (model X.prog X.w) X.A (compareOp op v u) (EP X pins σ Q) X.xe s₂) X.xe s₁) X.xe s
theorem nobehind (b : Expr) {op : CmpOp} (h : op ≠ .In) (h2 : op ≠ .NotIn) : behindInMarks op b = false := by
  have e1 : (op == CmpOp.In) = false := by cases op <;> first | rfl | exact absurd rfl h
  have e2 : (op == CmpOp.NotIn) = false := by cases op <;> first | rfl | exact absurd rfl h2
  cases b <;> simp [behindInMarks, e1, e2]
def tB (t : TE) : TT := fun σ H Q => t σ H fun x H1 => ∃ c, x = .bl c ∧ Q c H1
theorem pt_cmp {op : CmpOp} {t : TE} (h : PC X op a b t) (h1 : behindInMarks op b = false := by first | exact nobehind _ (by decide) (by decide) | rfl) : PT X (.Compare a [op] [b] pos) (tB t) := by
  intro pins s σ H Q I hw
  refine wpAny_isTrue_Compare1 (thn (h pins s σ H _ I hw) fun v s1 h1 => thn h1 fun u s2 h2 => thn h2 fun c s3 ⟨x, H1, I1, r1, q1⟩ => ?_) h1
  obtain ⟨d, rfl, q⟩ := q1
  cases r1
  exact wpAny_truthy_bool ⟨H1, I1, q⟩
theorem pt_val {e : Expr} {t : TE} (h : PE X e t) (he : ∀ whole, isTrue e X.env whole = (do let v ← whole; standAt e.pos; holding [v] (truthy v)) := by intro _; rfl) : PT X e (tB t) := by
  intro pins s σ H Q I hw
  refine isTrue_plain (thn (h pins s σ H _ I hw) fun v s1 ⟨x, H1, I1, r1, q1⟩ => ?_) (he _)
  obtain ⟨d, rfl, q⟩ := q1
  cases r1
  exact wpAny_truthy_bool ⟨H1, I1, q⟩
variable {tA tB' : TT} {rest : List Expr}
def tAnd (t u : TT) : TT := fun σ H Q => t σ H fun c H1 => if c = true then u σ H1 Q else Q false H1
def tOr (t u : TT) : TT := fun σ H Q => t σ H fun c H1 => if c = true then Q true H1 else u σ H1 Q
def tNot (t : TT) : TT := fun σ H Q => t σ H fun c H1 => Q (!c) H1
theorem pw_and1 (ha : PT X a tA) : PW X (.BoolOp .And [a] pos) tA := by
  intro wh pins s σ H Q I h
  refine isTrue_and (thn (ha pins s σ H Q I h) fun c s1 e => ?_)
  cases c with
  | true => exact isTrue_and_nil e
  | false => exact e
theorem pw_or1 (ha : PT X a tA) : PW X (.BoolOp .Or [a] pos) tA := by
  intro wh pins s σ H Q I h
  refine isTrue_or (thn (ha pins s σ H Q I h) fun c s1 e => ?_)
  cases c with
  | false => exact isTrue_or_nil e
  | true => exact e
theorem pw_and (ha : PT X a tA) (hb : PW X (.BoolOp .And (b :: rest) pos) tB') : PW X (.BoolOp .And (a :: b :: rest) pos) (tAnd tA tB') := by
  intro wh pins s σ H Q I h
  refine isTrue_and (thn (ha pins s σ H _ I h) fun c s1 ⟨H1, I1, q1⟩ => ?_)
  cases c with
  | true => exact hb wh pins s1 σ H1 Q I1 q1
  | false => exact ⟨H1, I1, q1⟩
theorem pw_or (ha : PT X a tA) (hb : PW X (.BoolOp .Or (b :: rest) pos) tB') : PW X (.BoolOp .Or (a :: b :: rest) pos) (tOr tA tB') := by
  intro wh pins s σ H Q I h
  refine isTrue_or (thn (ha pins s σ H _ I h) fun c s1 ⟨H1, I1, q1⟩ => ?_)
  cases c with
  | true => exact ⟨H1, I1, q1⟩
  | false => exact hb wh pins s1 σ H1 Q I1 q1
theorem pt_not (ha : PT X a tA) : PT X (.UnaryOp .Not a pos) (tNot tA) := by
  intro pins s σ H Q I h
  exact isTrue_not (ha pins s σ H (fun c H1 => Q (!c) H1) I h)
def tAndV (ta tb : TE) : TE := fun σ H Q => ta σ H fun x H1 => ∃ c, x = .bl c ∧ if c = true then tb σ H1 Q else Q (.bl false) H1
def tNotV (ta : TE) : TE := fun σ H Q => ta σ H fun x H1 => ∃ c, x = .bl c ∧ Q (.bl (!c)) H1
theorem pe_one {op} {t : TE} (h : PE X a t) : PE X (.BoolOp op [a] pos) t := fun pins s σ H Q I hw => BoolOp_one (h pins s σ H Q I hw)
theorem pe_and (ha : PE X a ta) (hb : PE X (.BoolOp .And (b :: rest) pos) tb) : PE X (.BoolOp .And (a :: b :: rest) pos) (tAndV ta tb) := by
  intro pins s σ H Q I h
  refine BoolOp_and (thn (ha pins s σ H _ I h) fun v s1 ⟨x, H1, I1, r1, q1⟩ => ?_)
  obtain ⟨c, rfl, q1⟩ := q1
  cases r1
  refine wpAny_truthy_bool ?_
  cases c with
  | true => exact hb pins s1 σ H1 Q I1 q1
  | false => exact ⟨.bl false, H1, I1, rfl, q1⟩
theorem pe_not (ha : PE X a ta) : PE X (.UnaryOp .Not a pos) (tNotV ta) := by
  intro pins s σ H Q I h
  refine UnaryOp_ (thn (ha pins s σ H _ I h) fun v s1 ⟨x, H1, I1, r1, q1⟩ => ?_)
  obtain ⟨c, rfl, q1⟩ := q1
  cases r1
  exact not_of (wpAny_truthy_bool ⟨.bl (!c), H1, I1, rfl, q1⟩)
end
end L2
namespace L2
open PySem PySem.Spec PyProof.Rows
def SqL (K : PySem.W.Frag) (H : Hp) (a : Addr) (xs : List V) : Prop :=
  Rd H a (.lst xs) ∨
    ∃ (o : Obj) (its : Array Value) (n : Nat), K.lookup a = some o ∧ o.cls = .type "list" ∧ o.dict = none ∧ o.data = .seq its n ∧ its.size ≤ sizeLine ∧ Vals xs its.toList
def SqT (K : PySem.W.Frag) (H : Hp) (a : Addr) (xs : List V) : Prop :=
  Rd H a (.tup xs) ∨
    ∃ (o : Obj) (its : Array Value) (n : Nat), K.lookup a = some o ∧ o.cls = .type "tuple" ∧ o.data = .seq its n ∧ its.size ≤ sizeLine ∧ Vals xs its.toList
def absV : Value → Option V
  | .none => some .non
  | .bool b => some (.bl b)
  | .int i _ => some (.int i)
  | .str x _ => some (.str x)
  | .bytes b _ => some (.byt b)
  | .float b _ => some (.flt b)
  | .ref a => some (.ref a)
  | .type n => some (.ty n)
  | _ => none
theorem RelV.abs {x : V} {u : Value} (r : RelV x u) : absV u = some x := by
  cases x with
  | non => cases r; rfl
  | bl _ => cases r; rfl
  | int _ => obtain ⟨t, rfl⟩ := r; rfl
  | str _ => obtain ⟨t, rfl⟩ := r; rfl
  | byt _ => obtain ⟨t, rfl⟩ := r; rfl
  | flt _ => obtain ⟨t, rfl⟩ := r; rfl
  | ref _ => cases r; rfl
  | ty _ => cases r; rfl
theorem RelV.inj {x y : V} {u : Value} (r : RelV x u) (q : RelV y u) : x = y := Option.some.inj (r.abs.symm.trans q.abs)
theorem Vals.inj : ∀ {xs ys : List V} {us : List Value}, Vals xs us → Vals ys us → xs = ys
  | _, _, _, .nil, .nil => rfl
  | _, _, _, .cons r t, .cons r' t' => by rw [r.inj r', Vals.inj t t']
section
variable {X : Cx} {pins : List (Addr × Obj)} {σ : St} {H : Hp} {s : Shared} {a : Addr} {xs ys : List V}
theorem SqL.of {K : PySem.W.Frag} (h : H a = some (.lst xs)) : SqL K H a xs := .inl (.inl h)
theorem SqT.of {K : PySem.W.Frag} (h : H a = some (.tup xs)) : SqT K H a xs := .inl (.inl h)
theorem Inv.list (I : Inv X pins σ H s) (h : SqL X.K H a xs) : ∃ its : List Value, Vals xs its ∧ PlainL s.heap a its.toArray ∧ xs.length ≤ sizeLine := by
  rcases h with h | ⟨o, its, n, hk, hc, hd, hs, hz, r⟩
  · obtain ⟨z, its, n, r, e⟩ := h.ok I.hok
    exact ⟨its, r, ⟨_, n, e, rfl, rfl, rfl⟩, z⟩
  · refine ⟨its.toList, r, ⟨o, n, I.kIn a o hk, hc, hd, by simpa using hs⟩, ?_⟩
    have e := r.length
    simp only [Array.length_toList] at e
    omega
theorem Inv.tuple (I : Inv X pins σ H s) (h : SqT X.K H a xs) : ∃ its : List Value, Vals xs its ∧ IsTup s.heap a its.toArray ∧ xs.length ≤ sizeLine := by
  rcases h with h | ⟨o, its, n, hk, hc, hs, hz, r⟩
  · obtain ⟨z, its, r, p⟩ := h.ok I.hok
    exact ⟨its, r, p, z⟩
  · refine ⟨its.toList, r, ⟨o, I.kIn a o hk, hc, n, by simpa using hs⟩, ?_⟩
    have e := r.length
    simp only [Array.length_toList] at e
    omega
theorem Inv.list_inj (I : Inv X pins σ H s) (h : SqL X.K H a xs) (h' : SqL X.K H a ys) : xs = ys := by
  obtain ⟨its, r, ⟨o, n, e, _, _, d⟩, _⟩ := I.list h
  obtain ⟨its', r', ⟨o', n', e', _, _, d'⟩, _⟩ := I.list h'
  rw [e] at e'; cases e'
  rw [d] at d'
  injection d' with d1 _
  have : its = its' := by simpa using congrArg Array.toList d1
  subst this
  exact r.inj r'
theorem Inv.tuple_inj (I : Inv X pins σ H s) (h : SqT X.K H a xs) (h' : SqT X.K H a ys) : xs = ys := by
  obtain ⟨its, r, ⟨o, e, _, n, d⟩, _⟩ := I.tuple h
  obtain ⟨its', r', ⟨o', e', _, n', d'⟩, _⟩ := I.tuple h'
  rw [e] at e'; cases e'
  rw [d] at d'
  injection d' with d1 _
  have : its = its' := by simpa using congrArg Array.toList d1
  subst this
  exact r.inj r'
end
abbrev Cx.wish (X : Cx) (E : Value → Shared → Prop) : Cx := { X with xe := E }
abbrev Cx.nox (X : Cx) : Cx := X.wish fun _ _ => False
theorem Cx.Ok.wish {X : Cx} (ok : X.Ok) (E : Value → Shared → Prop) : (X.wish E).Ok :=
  ⟨ok.mod, ok.kind, ok.glob, ok.blt, ok.above, ok.inj, ok.has, ok.cab, ok.hd, ok.frames, ok.stk, ok.exf, ok.bs, ok.bsz, ok.noex, ok.exfs, ok.funs, ok.frf⟩
theorem Cx.Ok.unwish {X : Cx} {E : Value → Shared → Prop} (ok : (X.wish E).Ok) : X.Ok :=
  ⟨ok.mod, ok.kind, ok.glob, ok.blt, ok.above, ok.inj, ok.has, ok.cab, ok.hd, ok.frames, ok.stk, ok.exf, ok.bs, ok.bsz, ok.noex, ok.exfs, ok.funs, ok.frf⟩
section
variable {X : Cx} {pins : List (Addr × Obj)} {σ : St} {H : Hp} {s : Shared} {E : Value → Shared → Prop}
theorem Inv.wish (I : Inv X pins σ H s) (E : Value → Shared → Prop) : Inv (X.wish E) pins σ H s := ⟨I.ok.wish E, I.os, I.bare, I.base, I.loc, I.cell, I.free, I.freeC, I.pin, I.hok, I.len⟩
theorem Inv.unwish (I : Inv (X.wish E) pins σ H s) : Inv X pins σ H s := ⟨I.ok.unwish, I.os, I.bare, I.base, I.loc, I.cell, I.free, I.freeC, I.pin, I.hok, I.len⟩
theorem SP.unwish {D : Ends} {f : Flow} {s' : Shared} (h : SP (X.wish E) pins D f s') : SP X pins D f s' := by
  cases f with
  | next => obtain ⟨σ', H', I, q⟩ := h; exact ⟨σ', H', I.unwish, q⟩
  | brk => obtain ⟨σ', H', I, q⟩ := h; exact ⟨σ', H', I.unwish, q⟩
  | cont => obtain ⟨σ', H', I, q⟩ := h; exact ⟨σ', H', I.unwish, q⟩
  | ret u => obtain ⟨v, σ', H', I, r, q⟩ := h; exact ⟨v, σ', H', I.unwish, r, q⟩
theorem PE.nox {e : Expr} {t : TE} (h : PE X.nox e t) : PE X e t := fun pins s σ H Q I hw =>
  wpAny_mono (h pins s σ H Q (I.wish _) hw) (fun _ _ ⟨v, H', I', r, q⟩ => ⟨v, H', I'.unwish, r, q⟩) fun _ _ z => False.elim z
theorem PT.nox {e : Expr} {t : TT} (h : PT X.nox e t) : PT X e t := fun pins s σ H Q I hw =>
  wpAny_mono (h pins s σ H Q (I.wish _) hw) (fun _ _ ⟨H', I', q⟩ => ⟨H', I'.unwish, q⟩) fun _ _ z => False.elim z
theorem PSs.nox {st : List Stmt} {t : TS} (h : PSs X.nox st t) : PSs X st t := fun pins s σ H D I hw =>
  wpAny_mono (h pins s σ H D (I.wish _) hw) (fun _ _ q => q.unwish) fun _ _ z => False.elim z
end
section
variable {X : Cx} {st : Stmt} {rest : List Stmt} {t u : TS} {e : Expr} {te : TE} {pos : Pos}
def tNext : TS := fun D σ H => D.nx σ H
def tSeq (t u : TS) : TS := fun D σ H => t { D with nx := u D } σ H
theorem pss_nil : PSs X [] tNext := fun _ _ σ H _ I h => wpAny_execs_nil ⟨σ, H, I, h⟩
theorem pss_cons (h1 : PS X st t) (h2 : PSs X rest u) : PSs X (st :: rest) (tSeq t u) := by
  intro pins s σ H D I h
  refine wpAny_execs_cons (thn (h1 pins s σ H { D with nx := u D } I h) fun f s1 q => ?_)
  cases f with
  | next =>
    obtain ⟨σ', H', I', q⟩ := q
    exact h2 pins s1 σ' H' D I' q
  | ret v => exact q
  | brk => exact q
  | cont => exact q
theorem pss_one (h1 : PS X st t) : PSs X [st] t := by
  intro pins s σ H D I h
  refine wpAny_execs_cons (thn (h1 pins s σ H D I h) fun f s1 q => ?_)
  cases f with
  | next => exact wpAny_execs_nil q
  | ret v => exact q
  | brk => exact q
  | cont => exact q
theorem Inv.quiet {pins : List (Addr × Obj)} {σ : St} {H : Hp} {s : Shared} (I : Inv X pins σ H s) : interactive X.env = false := by simp [interactive, I.ok.kind]
def tDrop (te : TE) : TS := fun D σ H => te σ H fun _ H1 => D.nx σ H1
theorem ps_expr (he : PE X e te) (hs : swapsWith e none pos.line X.env = pure false := by rfl) : PS X (.Expr e pos) (tDrop te) := by
  intro pins s σ H D I h
  exact wpAny_Expr_any (thn (he pins s σ H _ I h) fun v s1 ⟨x, H1, I1, r1, q1⟩ => ⟨σ, H1, I1, q1⟩) I.quiet hs
def tRet (te : TE) : TS := fun D σ H => te σ H D.rt
theorem ps_ret (he : PE X e te) : PS X (.Return (some e) pos) (tRet te) := by
  intro pins s σ H D I h
  exact wpAny_Return_some (thn (he pins s σ H _ I h) fun v s1 ⟨x, H1, I1, r1, q1⟩ => ⟨x, σ, H1, I1, r1, q1⟩)
def tIfS (c : TT) (t u : TS) : TS := fun D σ H => c σ H fun b H1 => if b = true then t D σ H1 else u D σ H1
theorem ps_if {c : Expr} {a b : List Stmt} {tc : TT} (hc : PT X c tc) (ha : PSs X a t) (hb : PSs X b u) : PS X (.If c a b pos) (tIfS tc t u) := by
  intro pins s σ H D I h
  refine wpAny_If (thn (hc pins s σ H _ I h) fun d s1 ⟨H1, I1, q1⟩ => ?_)
  cases d with
  | true => exact ha pins s1 σ H1 D I1 q1
  | false => exact hb pins s1 σ H1 D I1 q1
def tNever : TS := fun _ _ _ => False
theorem ps_never : PS X st tNever := fun _ _ _ _ _ _ h => h.elim
end
abbrev TG := V → St → Hp → (St → Hp → Prop) → Prop
abbrev TGs := List V → St → Hp → (St → Hp → Prop) → Prop
def PG (X : Cx) (target : Expr) (t : TG) : Prop :=
  ∀ (pins : List (Addr × Obj)) (s : Shared) (σ : St) (H : Hp) (v : V) (u : Value) (Q : St → Hp → Prop), Inv X pins σ H s → RelV v u → t v σ H Q →
    wpAny (model X.prog X.w) X.A (assign target X.env u) (fun _ s' => ∃ σ' H', Inv X pins σ' H' s' ∧ Q σ' H') X.xe s
def PGs (X : Cx) (ts : List Expr) (t : TGs) : Prop :=
  ∀ (pins : List (Addr × Obj)) (s : Shared) (σ : St) (H : Hp) (vs : List V) (us : List Value) (Q : St → Hp → Prop), Inv X pins σ H s → Vals vs us → t vs σ H Q →
    wpAny (model X.prog X.w) X.A (assignInOrder ((assignEach ts X.env).map (·.2)) us) (fun _ s' => ∃ σ' H', Inv X pins σ' H' s' ∧ Q σ' H') X.xe s
abbrev TSet := V → V → V → Hp → (Hp → Prop) → Prop
def PSet (X : Cx) (t : TSet) : Prop :=
  ∀ (pins : List (Addr × Obj)) (s : Shared) (σ : St) (H : Hp) (o i v : V) (ov iv u : Value) (Q : Hp → Prop), Inv X pins σ H s → RelV o ov → RelV i iv → RelV v u → t o i v H Q →
    wpAny (model X.prog X.w) X.A (setItem ov iv u) (fun _ s' => ∃ H', Inv X pins σ H' s' ∧ Q H') X.xe s
abbrev TIp := V → V → Hp → VK → Prop
def PIp (X : Cx) (op : Operator) (t : TIp) : Prop :=
  ∀ (pins : List (Addr × Obj)) (s : Shared) (σ : St) (H : Hp) (x y : V) (v u : Value) (Q : VK), Inv X pins σ H s → RelV x v → RelV y u → t x y H Q →
    wpAny (model X.prog X.w) X.A (inplaceOp op v u) (EP X pins σ Q) X.xe s
section
variable {X : Cx} {pos : Pos}
def gName (i : Nat) : TG := fun v σ H Q => Q (σ.set i (some v)) H
theorem pg_name {i : Nat} {x : Str} (hN : X.N.Nodup) (hi : X.N[i]? = some x) (hx : Loc X.env.scope x) (hf : X.fn x = true ∨ X.env.scope.names.lookup x = some .local := by first | exact .inl rfl | exact .inr rfl | assumption) : PG X (.Name x pos) (gName i) := by
  intro pins s σ H v u Q I r h
  exact wpAny_assign_Name (store_ok I hN hi hx r (fun s' I' => ⟨_, H, I', h⟩) hf)
def gNil : TGs := fun vs σ H Q => vs = [] ∧ Q σ H
def gCons (t : TG) (u : TGs) : TGs := fun vs σ H Q => ∃ v r, vs = v :: r ∧ t v σ H fun σ' H' => u r σ' H' Q
theorem pgs_nil : PGs X [] gNil := by
  intro pins s σ H vs us Q I r h
  obtain ⟨e, h⟩ := h
  subst e
  cases r
  exact assignInOrder_nil ⟨σ, H, I, h⟩
theorem pgs_cons {e : Expr} {es : List Expr} {t : TG} {u : TGs} (h1 : PG X e t) (h2 : PGs X es u)
    (hs : (assignEach (e :: es) X.env).map (·.2) = assign e X.env :: (assignEach es X.env).map (·.2) := by rfl) : PGs X (e :: es) (gCons t u) := by
  intro pins s σ H vs us Q I r h
  obtain ⟨v, vr, e1, h⟩ := h
  subst e1
  cases r with
  | cons r rr =>
    rw [hs]
    refine assignInOrder_cons (thn (h1 pins s σ H _ _ _ I r h) fun _ s1 ⟨σ1, H1, I1, q1⟩ => ?_)
    exact h2 pins s1 σ1 H1 _ _ Q I1 rr q1
def gTup (K : PySem.W.Frag) (n : Nat) (t : TGs) : TG := fun v σ H Q => ∃ a xs, v = .ref a ∧ SqT K H a xs ∧ xs.length = n ∧ t xs σ H Q
theorem pg_tup {es : List Expr} {k : Nat} {t : TGs} {n : Nat} (hc : X.calm = true) (h : PGs X es t)
    (hn : (assignEach es X.env).length = n := by rfl) (hst : (assignEach es X.env).findIdx? (·.1) = none := by rfl) : PG X (.Tuple es k pos) (gTup X.K n t) := by
  intro pins s σ H v u Q I r hw
  obtain ⟨a, xs, e1, hq, hl, hw⟩ := hw
  subst e1
  cases r
  obtain ⟨its, rv, ht, hz⟩ := I.tuple hq
  refine assign_Tuple_tuple (I.ok.hd hc) ht (by simp [hn, ← hl, rv.length]) hst fun h' hx => ?_
  have I1 : Inv X pins σ H { s with heap := h' } := I.kept (t' := s.toks) fun b o e => hx b o (Nat.ne_of_lt (Heap.lt_size e)) e
  exact h pins _ σ H xs _ Q I1 (by simpa using rv) hw
def gSub (to ti : TE) (t : TSet) : TG := fun v σ H Q => to σ H fun o H1 => ti σ H1 fun i H2 => t o i v H2 fun H3 => Q σ H3
theorem pg_sub {o i : Expr} {to ti : TE} {t : TSet} (ho : PE X o to) (hi : PE X i ti) (hs : PSet X t)
    (ha : ∀ v, assign (.Subscript o i pos) X.env v = (do
      let ov ← holding [v] (eval o X.env)
      let iv ← holding [v, ov] (eval i X.env)
      standAt pos
      holding [v, ov, iv] (setItem ov iv v)
      release [v, ov, iv] []) := by intro _; rfl) : PG X (.Subscript o i pos) (gSub to ti t) := by
  intro pins s σ H v u Q I r h
  rw [ha]
  refine wpAny_bind (wpAny_holding (thn (ho pins s σ H _ I h) fun ov s1 ⟨x, H1, I1, r1, q1⟩ => ?_))
  refine wpAny_bind (wpAny_holding (thn (hi pins s1 σ H1 _ I1 q1) fun iv s2 ⟨y, H2, I2, r2, q2⟩ => ?_))
  refine wpAny_bind (wpAny_standAt (wpAny_bind (wpAny_holding (thn (hs pins s2 σ H2 x y v ov iv u _ I2 r1 r2 r q2) fun _ s3 ⟨H3, I3, q3⟩ => ?_))))
  exact wpAny_release ⟨σ, H3, I3, q3⟩
def tAsg (te : TE) (g : TG) : TS := fun D σ H => te σ H fun x H1 => g x σ H1 D.nx
theorem ps_asg {tg e : Expr} {te : TE} {g : TG} (he : PE X e te) (hg : PG X tg g) (hs : swapsWithSole [tg] e pos.line X.env = pure false := by rfl) (hw : swappedStores [tg] e X.env = pure none := by rfl)
    (h1 : (assignEach [tg] X.env).map (·.2) = [assign tg X.env] := by rfl) : PS X (.Assign [tg] e pos) (tAsg te g) := by
  intro pins s σ H D I h
  refine wpAny_Assign_stores (thn (he pins s σ H _ I h) fun v s1 ⟨x, H1, I1, r1, q1⟩ => ?_) hs hw
  rw [h1]
  exact thn (hg pins s1 σ H1 x v _ I1 r1 q1) fun _ s2 q => q
theorem ps_set {i : Nat} {x : Str} {e : Expr} {te : TE} {pos' : Pos} (hN : X.N.Nodup) (hi : X.N[i]? = some x) (hx : Loc X.env.scope x) (he : PE X e te) (hs : swapsWith e (some (.Name x pos')) pos.line X.env = pure false := by rfl) (hf : X.fn x = true ∨ X.env.scope.names.lookup x = some .local := by first | exact .inl rfl | exact .inr rfl | assumption) :
    PS X (.Assign [.Name x pos'] e pos) (tAsg te (gName i)) := by
  intro pins s σ H D I h
  refine wpAny_Assign_Name (thn (he pins s σ H _ I h) fun v s1 ⟨y, H1, I1, r1, q1⟩ => ?_) hs
  exact store_ok I1 hN hi hx r1 (fun s2 I2 => ⟨_, H1, I2, q1⟩) hf
def tAug (i : Nat) (te : TE) (ti : TIp) : TS := fun D σ H => ∃ x, σ[i]? = some (some x) ∧ te σ H fun y H1 => ti x y H1 fun z H2 => D.nx (σ.set i (some z)) H2
theorem ps_aug {i : Nat} {x : Str} {e : Expr} {te : TE} {op : Operator} {ti : TIp} {pos' : Pos} (hN : X.N.Nodup) (hi : X.N[i]? = some x) (hx : Loc X.env.scope x) (he : PE X e te) (ho : PIp X op ti) (hf : X.fn x = true ∨ X.env.scope.names.lookup x = some .local := by first | exact .inl rfl | exact .inr rfl | assumption) :
    PS X (.AugAssign (.Name x pos') op e pos) (tAug i te ti) := by
  intro pins s σ H D I h
  obtain ⟨v, e1, h⟩ := h
  obtain ⟨m, hn, hl⟩ := I.loc
  have vis : Vis X.env.scope x := by rcases hx with k | k; exact .inl k; exact .inr (.inl k)
  obtain ⟨u, r, l⟩ := hl i x v hi e1 vis
  refine wpAny_AugAssign_Name ?_
  have go : wpAny (model X.prog X.w) X.A (eval e X.env) (fun w s₂ => wpAny (model X.prog X.w) X.A (inplaceOp op u w) (fun r s₃ => wpAny (model X.prog X.w) X.A (storeName X.env x r) (fun _ => SP X pins D .next) X.xe s₃) X.xe s₂) X.xe s := by
    refine thn (he pins s σ H _ I h) fun w s1 ⟨y, H1, I1, r1, q1⟩ => ?_
    refine thn (ho pins s1 σ H1 v y u w _ I1 r r1 q1) fun z s2 ⟨zv, H2, I2, r2, q2⟩ => ?_
    exact store_ok I2 hN hi hx r2 (fun s3 I3 => ⟨_, H2, I3, q2⟩) hf
  rcases l with ⟨hk, hm⟩ | ⟨hk, c, hc, hcell⟩
  · exact wpAny_loadName_local I.ok.kind hk hn hm go
  · rcases hk with hk | hk
    · exact wpAny_loadName_cell I.ok.kind hk hc hcell go
    · rcases hx with k | k
      · have : X.env.scope.names.lookup x = some .free := hk
        rw [k] at this; cases this
      · have : X.env.scope.names.lookup x = some .free := hk
        rw [k] at this; cases this
def ipI (f : Int → Int → Int) : TIp := fun x y H Q => ∃ i j, x = .int i ∧ y = .int j ∧ Q (.int (f i j)) H
end
section
variable {X : Cx} {pos : Pos}
def tWhile (c : TT) (tb : TS) : TS := fun D σ H => ∃ W : Nat → St → Hp → Prop, (∃ m, W m σ H) ∧ ∀ m σ H, W m σ H →
  c σ H fun b H1 => if b = true then ∃ N : St → Hp → Prop, (∀ σ' H', N σ' H' → ∃ m', m' < m ∧ W m' σ' H') ∧ tb { D with nx := N, ct := N, bk := D.nx } σ H1 else D.nx σ H1
theorem ps_while {c : Expr} {body : List Stmt} {tc : TT} {tb : TS} (hp : PassesOwn (model X.prog X.w) X.A X.env X.xe) (hc : PT X c tc) (hb : PSs X body tb) : PS X (.While c body [] pos) (tWhile tc tb) := by
  intro pins s σ H D I h
  obtain ⟨W, ⟨m0, w0⟩, turn⟩ := h
  refine wpAny_While (codeAny_whileLoop (fun n s' => ∃ σ' H', Inv X pins σ' H' s' ∧ W n σ' H') ?_ m0 ⟨σ, H, I, w0⟩)
  rintro n s1 ⟨σ1, H1, I1, w1⟩
  refine wpAny_passesOwn hp (thn (hc pins s1 σ1 H1 _ I1 (turn n σ1 H1 w1)) fun b s2 ⟨H2, I2, q2⟩ => ?_)
  cases b with
  | true =>
    obtain ⟨N, hN, q2⟩ := q2
    rw [if_pos rfl]
    refine wpAny_passesOwn hp (thn (hb pins s2 σ1 H2 _ I2 q2) fun f s3 q3 => ?_)
    cases f with
    | next =>
      obtain ⟨σ3, H3, I3, n3⟩ := q3
      obtain ⟨m', hm, w3⟩ := hN σ3 H3 n3
      exact ⟨m', hm, σ3, H3, I3, w3⟩
    | cont =>
      obtain ⟨σ3, H3, I3, n3⟩ := q3
      obtain ⟨m', hm, w3⟩ := hN σ3 H3 n3
      exact ⟨m', hm, σ3, H3, I3, w3⟩
    | brk => exact q3
    | ret v => exact q3
  | false =>
    rw [if_neg Bool.false_ne_true]
    exact wpAny_execs_nil ⟨σ1, H2, I2, q2⟩
end
structure It where
  go : Nat → Hp → Prop
  yld : Nat → Hp → V → Hp → Prop
  stop : Nat → Hp → Prop
def FpOk (X : Cx) (pins : List (Addr × Obj)) (H : Hp) (b : Addr) : Prop :=
  H b = none ∧ b ≠ X.env.locals ∧ b ∉ X.fs ∧ (b ∈ X.ex ∨ X.s₀.heap.objs.size ≤ b) ∧ (∀ x c, X.env.cells.lookup x = some c → c ≠ b) ∧ ∀ p ∈ X.pn ++ pins, p.1 ≠ b
theorem Inv.fpOk {X : Cx} {pins : List (Addr × Obj)} {σ : St} {H H' : Hp} {s : Shared} {b : Addr} (I : Inv X pins σ H s) (hb : s.heap.objs.size ≤ b) (hn : H' b = none) : FpOk X pins H' b := by
  refine ⟨hn, Nat.ne_of_gt (Nat.lt_of_lt_of_le I.lt hb), I.nofs hb, .inr (Nat.le_trans I.sz hb), fun x c e z => ?_, fun p hp z => ?_⟩
  · obtain ⟨v, q⟩ := I.cell x c e
    exact absurd (Nat.lt_of_lt_of_le q.lt (by rw [z]; exact hb)) (Nat.lt_irrefl _)
  · exact absurd (Nat.lt_of_lt_of_le (Heap.lt_size (I.pin p hp).1) (by rw [z]; exact hb)) (Nat.lt_irrefl _)
structure Turn (P : Program) (w : World) (K : PySem.W.Frag) (tg : Expr) (J : It) (fp : List Addr) (it : Addr) (tn : Nat → Heap → Prop) : Prop where
  mem : it ∈ fp
  obj : ∀ i h, tn i h → ∀ b ∈ fp, ∃ o, h.get? b = some o ∧ ∀ v, o.data ≠ .cell v
  keep : ∀ i h h', tn i h → (∀ b ∈ fp, ∀ o, h.get? b = some o → h'.get? b = some o) → tn i h'
  item : ∀ (X : Cx), X.prog = P → X.w = w → X.K = K → X.calm = true → ∀ (i : Nat) (pins : List (Addr × Obj)) (s : Shared) (σ : St) (H : Hp) (E : Value → Shared → Prop), Inv X pins σ H s → (∀ b ∈ fp, FpOk X pins H b) → tn i s.heap → J.go i H →
    wpAny (model P w) X.A (pyNext (.ref it)) (fun r s1 => ∃ u, r = some u ∧
      wpAny (model P w) X.A (letOwnedTupleGo tg (.ref it) u) (fun _ s2 => ∃ x H', Inv X pins σ H' s2 ∧ RelV x u ∧ J.yld i H x H' ∧ tn (i + 1) s2.heap ∧ ∀ b ∈ fp, H' b = none) E s1) E s
  done : ∀ (X : Cx), X.prog = P → X.w = w → X.K = K → X.calm = true → ∀ (i : Nat) (pins : List (Addr × Obj)) (s : Shared) (σ : St) (H : Hp) (E : Value → Shared → Prop), Inv X pins σ H s → (∀ b ∈ fp, FpOk X pins H b) → tn i s.heap → J.stop i H →
    wpAny (model P w) X.A (pyNext (.ref it)) (fun r s1 => r = none ∧ Inv X pins σ H s1) E s
  self : ∀ (A : Around) (i : Nat) (s : Shared) (Q : Value → Shared → Prop) (E : Value → Shared → Prop), tn i s.heap → Q (.ref it) s → wpAny (model P w) A (pyIter (.ref it)) Q E s
abbrev TI := St → Hp → (It → Hp → Prop) → Prop
def PIE (X : Cx) (pins : List (Addr × Obj)) (σ : St) (tg : Expr) (R : It → Hp → Prop) (itv : Value) (s2 : Shared) : Prop :=
  ∃ (it : Addr) (fp : List Addr) (tn : Nat → Heap → Prop) (J : It) (H' : Hp), itv = .ref it ∧ Inv X pins σ H' s2 ∧ Turn X.prog X.w X.K tg J fp it tn ∧ tn 0 s2.heap ∧ (∀ b ∈ fp, FpOk X pins H' b) ∧ R J H'
def PI (X : Cx) (tg iter : Expr) (wi : TI) : Prop :=
  ∀ (pins : List (Addr × Obj)) (s : Shared) (σ : St) (H : Hp) (R : It → Hp → Prop), Inv X pins σ H s → wi σ H R →
    wpAny (model X.prog X.w) X.A (eval iter X.env) (fun v s1 => wpAny (model X.prog X.w) X.A (pyIter v) (PIE X pins σ tg R) X.xe s1) X.xe s
theorem go_of {M : Model} {A : Around} {E : Value → Shared → Prop} {s : Shared} {tg : Expr} {it : Addr} {u : Value} {o : Obj} {n : String} {vs : Array Value} {Q : Unit → Shared → Prop} (ho : s.heap.get? it = some o) (hc : o.cls = .type n) (hd : o.data = .fields vs)
    (hn : ["enumerate", "zip", "dict_itemiterator", "dict_reverseitemiterator", "odict_iterator", "itertools.zip_longest", "itertools.pairwise"].contains n = false) (hQ : Q () s) : wpAny M A (letOwnedTupleGo tg (.ref it) u) Q E s := by
  unfold letOwnedTupleGo
  cases tg <;> first
    | exact wpAny_pure hQ
    | (cases u <;> first
        | exact wpAny_pure hQ
        | (refine wpAny_bind (wpAny_load ho ?_)
           rw [hc, hd]
           show wpAny M A (if (["enumerate", "zip", "dict_itemiterator", "dict_reverseitemiterator", "odict_iterator", "itertools.zip_longest", "itertools.pairwise"].contains n && vs[0]? == some (rawInt _)) = true then _ else _) Q E s
           rw [if_neg (by intro h; rw [hn, Bool.false_and] at h; cases h)]
           exact wpAny_pure hQ))
def Itl (K : PySem.W.Frag) (a : Addr) : It :=
  ⟨fun i H => ∃ xs x, SqL K H a xs ∧ xs[i]? = some x, fun i H x H' => H' = H ∧ ∀ xs, SqL K H a xs → xs[i]? = some x, fun i H => ∃ xs, SqL K H a xs ∧ xs.length ≤ i⟩
def Itt (K : PySem.W.Frag) (a : Addr) : It :=
  ⟨fun i H => ∃ xs x, SqT K H a xs ∧ xs[i]? = some x, fun i H x H' => H' = H ∧ ∀ xs, SqT K H a xs → xs[i]? = some x, fun i H => ∃ xs, SqT K H a xs ∧ xs.length ≤ i⟩
def Itr (lo : Int) (n : Nat) : It := ⟨fun i _ => i < n, fun i H x H' => H' = H ∧ x = .int (lo + i), fun i _ => n ≤ i⟩
theorem turn_list {P : Program} {w : World} {K : PySem.W.Frag} {tg : Expr} (a it : Addr) : Turn P w K tg (Itl K a) [it] it (fun i h => h.IsListIter it a i) where
  mem := by simp
  obj := fun i h st b hb => by
    have e : b = it := by simpa using hb
    subst e
    obtain ⟨o, e, c, d⟩ := st
    exact ⟨o, e, fun v z => by rw [d] at z; cases z⟩
  keep := fun i h h' st k => st.at fun o e => k it (by simp) o e
  item := by
    intro X hP hw hK hc i pins s σ H E I hf st hg
    subst hP hw hK
    obtain ⟨xs, x, hq, hx⟩ := hg
    obtain ⟨its, rv, p, hz⟩ := I.list hq
    obtain ⟨u, hu, ru⟩ := rv.get hx
    obtain ⟨f0, f1, f2, f3, f4, f5⟩ := hf it (by simp)
    refine wpAny_pyNext_list_item st p.isList (x := u) (by simpa using hu) fun h' st' sb => ?_
    have I1 : Inv X pins σ H { s with heap := h' } := I.turned (t' := s.toks) (fun b o hb e => (sb.2 b hb).trans e) f0 f1 f3 f4 f5
    obtain ⟨o, e, c, d⟩ := id st'
    exact ⟨u, rfl, go_of (s := { s with heap := h' }) e c d (by decide) ⟨x, H, I1, ru, ⟨rfl, fun ys hy => by rw [I.list_inj hy hq]; exact hx⟩, st', fun b hb => (hf b hb).1⟩⟩
  done := by
    intro X hP hw hK hc i pins s σ H E I hf st hg
    subst hP hw hK
    obtain ⟨xs, hq, hx⟩ := hg
    obtain ⟨its, rv, p, hz⟩ := I.list hq
    obtain ⟨f0, f1, f2, f3, f4, f5⟩ := hf it (by simp)
    have hl := rv.length
    exact wpAny_pyNext_list_end (I.ok.hd hc) st p.isList (by simp; omega) fun h' eb => ⟨rfl, I.turned (t' := s.toks) (fun b o hb e => eb b o hb e) f0 f1 f3 f4 f5⟩
  self := fun _ _ _ _ _ st h => wpAny_pyIter_listiter st h
theorem turn_tuple {P : Program} {w : World} {K : PySem.W.Frag} {tg : Expr} (a it : Addr) : Turn P w K tg (Itt K a) [it] it (fun i h => h.IsTupleIter it a i) where
  mem := by simp
  obj := fun i h st b hb => by
    have e : b = it := by simpa using hb
    subst e
    obtain ⟨o, e, c, d⟩ := st
    exact ⟨o, e, fun v z => by rw [d] at z; cases z⟩
  keep := fun i h h' st k => st.at fun o e => k it (by simp) o e
  item := by
    intro X hP hw hK hc i pins s σ H E I hf st hg
    subst hP hw hK
    obtain ⟨xs, x, hq, hx⟩ := hg
    obtain ⟨its, rv, p, hz⟩ := I.tuple hq
    obtain ⟨u, hu, ru⟩ := rv.get hx
    obtain ⟨f0, f1, f2, f3, f4, f5⟩ := hf it (by simp)
    refine wpAny_pyNext_tuple_item st (show s.heap.IsTuple a its.toArray from p) (x := u) (by simpa using hu) fun h' st' sb => ?_
    have I1 : Inv X pins σ H { s with heap := h' } := I.turned (t' := s.toks) (fun b o hb e => (sb.2 b hb).trans e) f0 f1 f3 f4 f5
    obtain ⟨o, e, c, d⟩ := id st'
    exact ⟨u, rfl, go_of (s := { s with heap := h' }) e c d (by decide) ⟨x, H, I1, ru, ⟨rfl, fun ys hy => by rw [I.tuple_inj hy hq]; exact hx⟩, st', fun b hb => (hf b hb).1⟩⟩
  done := by
    intro X hP hw hK hc i pins s σ H E I hf st hg
    subst hP hw hK
    obtain ⟨xs, hq, hx⟩ := hg
    obtain ⟨its, rv, p, hz⟩ := I.tuple hq
    obtain ⟨f0, f1, f2, f3, f4, f5⟩ := hf it (by simp)
    have hl := rv.length
    exact wpAny_pyNext_tuple_end (I.ok.hd hc) st (show s.heap.IsTuple a its.toArray from p) (by simp; omega) fun h' eb => ⟨rfl, I.turned (t' := s.toks) (fun b o hb e => eb b o hb e) f0 f1 f3 f4 f5⟩
  self := fun _ _ _ _ _ st h => wpAny_pyIter_tupleiter st h
theorem turn_range {P : Program} {w : World} {K : PySem.W.Frag} {tg : Expr} (it : Addr) (lo : Int) (n : Nat) : Turn P w K tg (Itr lo n) [it] it (fun i h => IsRangeIter h it (lo + (i : Nat) * 1) ((n : Int) - (i : Nat)) 1) where
  mem := by simp
  obj := fun i h st b hb => by
    have e : b = it := by simpa using hb
    subst e
    exact ⟨_, st, fun v z => by
      have z' : Data.fields _ = Data.cell v := z
      cases z'⟩
  keep := fun i h h' st k => k it (by simp) _ st
  item := by
    intro X hP hw hK hc i pins s σ H E I hf st hg
    subst hP hw hK
    obtain ⟨f0, f1, f2, f3, f4, f5⟩ := hf it (by simp)
    have W := Walks.range (prog := X.prog) (w := X.w) (I.ok.hd hc) it lo 1 n
    refine W.item i s _ _ hg st fun v h' tk hv st' kk => ?_
    obtain ⟨t, rfl⟩ := hv
    have I1 : Inv X pins σ H { s with heap := h', toks := tk } := I.turned (fun b o hb e => kk b o (by simpa using hb) e) f0 f1 f3 f4 f5
    refine ⟨_, rfl, go_of (s := { s with heap := h', toks := tk }) (n := "range_iterator") st' rfl rfl (by decide) ⟨.int (lo + i), H, I1, ⟨t, ?_⟩, ⟨rfl, rfl⟩, st', fun b hb => (hf b hb).1⟩⟩
    rw [Int.mul_one]
  done := by
    intro X hP hw hK hc i pins s σ H E I hf st hg
    subst hP hw hK
    obtain ⟨f0, f1, f2, f3, f4, f5⟩ := hf it (by simp)
    exact wpAny_pyNext_range_end (I.ok.hd hc) st (by have : n ≤ i := hg; omega) fun h' eb => ⟨rfl, I.turned (t' := s.toks) (fun b o hb e => eb b o hb e) f0 f1 f3 f4 f5⟩
  self := fun _ _ _ _ _ st h => wpAny_pyIter_rangeiter st h
end L2
namespace L2
open PySem PySem.Spec PyProof.Rows
section
variable {X : Cx} {tg : Expr}
theorem range_it {pins : List (Addr × Obj)} {σ : St} {H : Hp} {s : Shared} {R : It → Hp → Prop} {E : Value → Shared → Prop} {lo hi : Int} {t u v : Tok} {tk : Nat} (I : Inv X pins σ H s) (h1 : -(2 ^ 62) ≤ lo) (h2 : lo < 2 ^ 62) (h3 : -(2 ^ 62) ≤ hi) (h4 : hi < 2 ^ 62)
    (q : R (Itr lo (hi - lo).toNat) H) : wpAny (model X.prog X.w) X.A (pyIter (.ref s.heap.objs.size)) (PIE X pins σ tg R) E { s with heap := s.heap.push { cls := .type "range", data := .fields #[.int lo t, .int hi u, .int 1 v] }, toks := tk } := by
  refine wpAny_pyIter_range (IsRange.new ..) (small_one h1 h2 h3 h4) ?_
  have I1 : Inv X pins σ H { s with heap := s.heap.push { cls := .type "range", data := .fields #[.int lo t, .int hi u, .int 1 v] }, toks := tk } := I.kept fun b o e => Heap.get?_push_of_some _ e
  refine ⟨(s.heap.push { cls := .type "range", data := .fields #[.int lo t, .int hi u, .int 1 v] }).objs.size, [(s.heap.push { cls := .type "range", data := .fields #[.int lo t, .int hi u, .int 1 v] }).objs.size], _, _, H, rfl,
    I1.kept (t' := tk) fun b o e => Heap.get?_push_of_some _ e, turn_range _ lo (hi - lo).toNat, ?_, fun b hb => ?_, q⟩
  · have e1 : lo + ((0 : Nat) : Int) * 1 = lo := by simp
    have e2 : (((hi - lo).toNat : Nat) : Int) - ((0 : Nat) : Int) = Builtin.Range.rangeSize lo hi 1 := by rw [rangeSize_one]; split <;> omega
    show IsRangeIter _ _ (lo + ((0 : Nat) : Int) * 1) ((((hi - lo).toNat : Nat) : Int) - ((0 : Nat) : Int)) 1
    rw [e1, e2]
    exact Heap.get?_push_size _ rfl
  · have e : b = (s.heap.push { cls := .type "range", data := .fields #[.int lo t, .int hi u, .int 1 v] }).objs.size := by simpa using hb
    subst e
    exact I1.fpOk (Nat.le_refl _) (I1.hok.fresh (Nat.le_refl _))
def iRng1 (ta : TA) : TI := fun σ H R => ta σ H fun vs H1 => ∃ j : Int, vs = [.int j] ∧ -(2 ^ 62) ≤ j ∧ j < 2 ^ 62 ∧ R (Itr 0 j.toNat) H1
theorem pi_range1 {a : Expr} {ta : TA} {p pos : Pos} (hg : Gl X "range") (hm : X.mg "range" = none) (ha : PA X [a] ta) (hs : starEach [a] X.env = [(false, eval a X.env)] := by rfl) : PI X tg (.Call (.Name "range" p) [a] [] pos) (iRng1 ta) := by
  intro pins s σ H R I h
  refine Call_ (ld_blt I hg hm boot_range (PyProof.Rows.callWith_type1 (thn (ha pos pins s σ H _ I h) fun us s1 ⟨vs, H1, I1, r1, q1⟩ => ?_) hs rfl))
  obtain ⟨j, e, q1, q2, q⟩ := q1
  subst e
  cases r1 with
  | cons r rr =>
    cases rr
    obtain ⟨t, rfl⟩ := r
    exact call_range_1 (range_it I1 (by omega) (by omega) q1 q2 (by simpa using q))
def tFor (wi : TI) (g : TG) (tb : TS) : TS := fun D σ H => wi σ H fun J H1 => ∃ W : Nat → Nat → St → Hp → Prop, (∃ m, W 0 m σ H1) ∧ ∀ i m σ H, W i m σ H →
  (J.stop i H ∧ D.nx σ H) ∨ (J.go i H ∧ ∃ N : St → Hp → Prop, (∀ σ' H', N σ' H' → ∃ m', m' < m ∧ W (i + 1) m' σ' H') ∧ ∀ x H', J.yld i H x H' → g x σ H' fun σ2 H2 => tb { D with nx := N, ct := N, bk := D.nx } σ2 H2)
def pinsAt (fp : List Addr) (h : Heap) : List (Addr × Obj) := fp.filterMap fun b => (h.get? b).map fun o => (b, o)
theorem mem_pinsAt {fp : List Addr} {h : Heap} {b : Addr} {o : Obj} (hb : b ∈ fp) (e : h.get? b = some o) : (b, o) ∈ pinsAt fp h := List.mem_filterMap.mpr ⟨b, hb, by rw [e]; rfl⟩
theorem of_pinsAt {fp : List Addr} {h : Heap} {p : Addr × Obj} (hp : p ∈ pinsAt fp h) : p.1 ∈ fp ∧ h.get? p.1 = some p.2 := by
  obtain ⟨b, hb, e⟩ := List.mem_filterMap.mp hp
  cases q : h.get? b with
  | none => rw [q] at e; cases e
  | some o =>
    rw [q] at e
    have e' : (b, o) = p := Option.some.inj e
    subst e'
    exact ⟨hb, q⟩
theorem Inv.pinned {pins : List (Addr × Obj)} {σ : St} {H : Hp} {s : Shared} {fp : List Addr} (I : Inv X pins σ H s) (hf : ∀ b ∈ fp, FpOk X pins H b) (ho : ∀ b ∈ fp, ∃ o, s.heap.get? b = some o ∧ ∀ v, o.data ≠ .cell v) : Inv X (pins ++ pinsAt fp s.heap) σ H s :=
  I.pins_of fun p hp => (List.mem_append.mp hp).elim (fun z => I.pin p (List.mem_append_right _ z)) fun z => by
    obtain ⟨hb, e⟩ := of_pinsAt z
    obtain ⟨f0, f1, f2, _⟩ := hf p.1 hb
    obtain ⟨o, e', d⟩ := ho p.1 hb
    rw [e] at e'; cases e'
    exact ⟨e, f0, f1, f2, d⟩
theorem Inv.unpinned {pins pl : List (Addr × Obj)} {σ : St} {H : Hp} {s : Shared} (I : Inv X (pins ++ pl) σ H s) : Inv X pins σ H s := I.pins_of fun p hp => I.pin p (List.mem_append_right _ (List.mem_append_left _ hp))
theorem ps_for {iter : Expr} {body : List Stmt} {wi : TI} {g : TG} {tb : TS} {pos : Pos} (hp : PassesOwn (model X.prog X.w) X.A X.env X.xe) (hc : X.calm = true) (hi : PI X tg iter wi) (hg : PG X tg g) (hb : PSs X body tb)
    (hs : ∀ x, foldedSetIterable iter X.env x = pure x := by intro _; rfl) : PS X (.For tg iter body [] pos) (tFor wi g tb) := by
  intro pins s σ H D I h
  refine wpAny_For (thn (hi pins s σ H _ I h) fun v s1 h1 => thn h1 fun itv s2 h2 => ?_) hs
  obtain ⟨it, fp, tn, J, H2, e, I2, T, st2, f2, W, ⟨m0, w0⟩, turn⟩ := h2
  subst e
  have stat : ∀ {H' : Hp}, (∀ b ∈ fp, H' b = none) → ∀ b ∈ fp, FpOk X pins H' b := fun hn b hb => ⟨hn b hb, (f2 b hb).2⟩
  refine codeAny_forLoop_any (fun n s' => ∃ i σ' H', Inv X pins σ' H' s' ∧ tn i s'.heap ∧ (∀ b ∈ fp, H' b = none) ∧ W i n σ' H') ?_ m0 ⟨0, σ, H2, I2, st2, fun b hb => (f2 b hb).1, w0⟩
  rintro n s3 ⟨i, σ3, H3, I3, st3, fr3, w3⟩
  rcases turn i n σ3 H3 w3 with ⟨stop, qn⟩ | ⟨go, N, hN, step⟩
  · refine wpAny_passesOwn hp (thn (T.done X rfl rfl rfl hc i pins s3 σ3 H3 X.xe I3 (stat fr3) st3 stop) fun r s4 ⟨hr, I4⟩ => ?_)
    subst hr
    exact wpAny_execs_nil ⟨σ3, H3, I4, qn⟩
  · refine wpAny_passesOwn hp (thn (T.item X rfl rfl rfl hc i pins s3 σ3 H3 X.xe I3 (stat fr3) st3 go) fun r s4 ⟨u, hr, h4⟩ => ?_)
    subst hr
    refine wpAny_passesOwn hp (thn h4 fun _ s5 ⟨x, H5, I5, r5, y5, st5, fr5⟩ => ?_)
    have I5' := I5.pinned (stat fr5) (T.obj _ _ st5)
    refine wpAny_passesOwn hp (thn (hg _ s5 σ3 H5 x u _ I5' r5 (step x H5 y5)) fun _ s6 ⟨σ6, H6, I6, q6⟩ => ?_)
    refine wpAny_passesOwn hp (thn (hb _ s6 σ6 H6 _ I6 q6) fun f s7 q7 => ?_)
    have again : ∀ {σ7 : St} {H7 : Hp}, Inv X (pins ++ pinsAt fp s5.heap) σ7 H7 s7 → N σ7 H7 → ∃ m, m < n ∧ ∃ i σ' H', Inv X pins σ' H' s7 ∧ tn i s7.heap ∧ (∀ b ∈ fp, H' b = none) ∧ W i m σ' H' := fun {σ7 H7} I7 n7 => by
      obtain ⟨m', hm, w7⟩ := hN σ7 H7 n7
      refine ⟨m', hm, i + 1, σ7, H7, I7.unpinned, T.keep _ _ _ st5 fun b hb o e => (I7.pin (b, o) (List.mem_append_right _ (List.mem_append_right _ (mem_pinsAt hb e)))).1, fun b hb => ?_, w7⟩
      obtain ⟨o, e, d⟩ := T.obj _ _ st5 b hb
      exact (I7.pin (b, o) (List.mem_append_right _ (List.mem_append_right _ (mem_pinsAt hb e)))).2.1
    cases f with
    | next => obtain ⟨σ7, H7, I7, n7⟩ := q7; exact again I7 n7
    | cont => obtain ⟨σ7, H7, I7, n7⟩ := q7; exact again I7 n7
    | brk => obtain ⟨σ7, H7, I7, q7⟩ := q7; exact ⟨σ7, H7, I7.unpinned, q7⟩
    | ret v => obtain ⟨x7, σ7, H7, I7, r7, q7⟩ := q7; exact ⟨x7, σ7, H7, I7.unpinned, r7, q7⟩
end
end L2
namespace L2
open PySem PySem.Spec PyProof.Rows
abbrev R2 := V → V → Hp → VK → Prop
def OpR (X : Cx) (f : Value → Value → Sem Value) (r : R2) : Prop :=
  ∀ (pins : List (Addr × Obj)) (s : Shared) (σ : St) (H : Hp) (x y : V) (v u : Value) (Q : VK), Inv X pins σ H s → RelV x v → RelV y u → r x y H Q →
    wpAny (model X.prog X.w) X.A (f v u) (EP X pins σ Q) X.xe s
def CallR (X : Cx) (f : Value) (r : List V → Hp → VK → Prop) : Prop :=
  ∀ (pins : List (Addr × Obj)) (s : Shared) (σ : St) (H : Hp) (xs : List V) (us : List Value) (Q : VK), Inv X pins σ H s → Vals xs us → r xs H Q →
    wpAny (model X.prog X.w) X.A (call f us) (EP X pins σ Q) X.xe s
def TruR (X : Cx) (r : V → Hp → (Bool → Hp → Prop) → Prop) : Prop :=
  ∀ (pins : List (Addr × Obj)) (s : Shared) (σ : St) (H : Hp) (x : V) (v : Value) (Q : Bool → Hp → Prop), Inv X pins σ H s → RelV x v → r x H Q →
    wpAny (model X.prog X.w) X.A (truthy v) (TP X pins σ Q) X.xe s
def tOp (r : R2) (ta tb : TE) : TE := fun σ H Q => ta σ H fun x H1 => tb σ H1 fun y H2 => r x y H2 Q
def rI (C : Int → Int → Prop) (g : Int → Int → V) : R2 := fun x y H Q => ∃ i j, x = .int i ∧ y = .int j ∧ C i j ∧ Q (g i j) H
def rI0 (g : Int → Int → V) : R2 := fun x y H Q => ∃ i j, x = .int i ∧ y = .int j ∧ Q (g i j) H
section
variable {X : Cx} {a b c : Expr} {ta tb tc : TE} {pos : Pos}
theorem binT (ha : PE X a ta) (hb : PE X b tb) {pins : List (Addr × Obj)} {s : Shared} {σ : St} {H : Hp} {R : V → V → Hp → Prop} (I : Inv X pins σ H s)
    (h : ta σ H fun x H1 => tb σ H1 fun y H2 => R x y H2) {Q : Value → Shared → Prop} {f : Value → Value → Sem Value}
    (hf : ∀ v u s2 x y H2, Inv X pins σ H2 s2 → RelV x v → RelV y u → R x y H2 → wpAny (model X.prog X.w) X.A (f v u) Q X.xe s2) :
    wpAny (model X.prog X.w) X.A (eval a X.env) (fun v s₁ => wpAny (model X.prog X.w) X.A (eval b X.env) (fun u s₂ => wpAny (model X.prog X.w) X.A (f v u) Q X.xe s₂) X.xe s₁) X.xe s := by
  refine thn (ha pins s σ H _ I h) fun v s1 ⟨x, H1, I1, r1, q1⟩ => ?_
  refine thn (hb pins s1 σ H1 _ I1 q1) fun u s2 ⟨y, H2, I2, r2, q2⟩ => ?_
  exact hf v u s2 x y H2 I2 r1 r2 q2
theorem pe_op {op : Operator} {r : R2} (ho : OpR X (binaryOp op) r) (ha : PE X a ta) (hb : PE X b tb) : PE X (.BinOp a op b pos) (tOp r ta tb) := by
  intro pins s σ H Q I h
  exact wpAny_BinOp (binT ha hb I h fun v u s2 x y H2 I2 rx ry q => ho pins s2 σ H2 x y v u Q I2 rx ry q)
theorem opI {f : Value → Value → Sem Value} {C : Int → Int → Prop} {g : Int → Int → Int}
    (rule : ∀ (i j : Int) (t u : Tok) (s : Shared) (Q : Value → Shared → Prop) (E : Value → Shared → Prop), C i j → Q (.int (g i j) s.toks) { s with toks := s.toks + 1 } → wpAny (model X.prog X.w) X.A (f (.int i t) (.int j u)) Q E s) :
    OpR X f (rI C fun i j => .int (g i j)) := by
  intro pins s σ H x y v u Q I rx ry h
  obtain ⟨i, j, rfl, rfl, hc, q⟩ := h
  obtain ⟨t, rfl⟩ := rx
  obtain ⟨t', rfl⟩ := ry
  exact rule i j t t' s _ _ hc ⟨.int (g i j), H, I.tok _, ⟨_, rfl⟩, q⟩
theorem opI0 {f : Value → Value → Sem Value} {g : Int → Int → Int}
    (rule : ∀ (i j : Int) (t u : Tok) (s : Shared) (Q : Value → Shared → Prop) (E : Value → Shared → Prop), Q (.int (g i j) s.toks) { s with toks := s.toks + 1 } → wpAny (model X.prog X.w) X.A (f (.int i t) (.int j u)) Q E s) :
    OpR X f (rI0 fun i j => .int (g i j)) := by
  intro pins s σ H x y v u Q I rx ry h
  obtain ⟨i, j, rfl, rfl, q⟩ := h
  obtain ⟨t, rfl⟩ := rx
  obtain ⟨t', rfl⟩ := ry
  exact rule i j t t' s _ _ ⟨.int (g i j), H, I.tok _, ⟨_, rfl⟩, q⟩
theorem opB0 {f : Value → Value → Sem Value} {g : Int → Int → Bool}
    (rule : ∀ (i j : Int) (t u : Tok) (s : Shared) (Q : Value → Shared → Prop) (E : Value → Shared → Prop), Q (.bool (g i j)) s → wpAny (model X.prog X.w) X.A (f (.int i t) (.int j u)) Q E s) :
    OpR X f (rI0 fun i j => .bl (g i j)) := by
  intro pins s σ H x y v u Q I rx ry h
  obtain ⟨i, j, rfl, rfl, q⟩ := h
  obtain ⟨t, rfl⟩ := rx
  obtain ⟨t', rfl⟩ := ry
  exact rule i j t t' s _ _ ⟨.bl (g i j), H, I, rfl, q⟩
def CPow (i j : Int) : Prop := 0 ≤ j ∧ j ≤ 1000000 ∧ i.natAbs < 2 ^ 64
def CMul (i j : Int) : Prop := (-(2 ^ 64) < i ∧ i < 2 ^ 64) ∨ (-(2 ^ 64) < j ∧ j < 2 ^ 64)
theorem CMul.ok {i j : Int} (h : CMul i j) : IntMulOk i j := by
  rcases h with ⟨h1, h2⟩ | ⟨h1, h2⟩
  · exact .of_left (intBits_le_64 h1 h2)
  · exact .of_right (intBits_le_64 h1 h2)
theorem op_add : OpR X (binaryOp .Add) (rI0 fun i j => .int (i + j)) := opI0 fun _ _ _ _ _ _ _ q => add_int q
theorem op_sub : OpR X (binaryOp .Sub) (rI0 fun i j => .int (i - j)) := opI0 fun _ _ _ _ _ _ _ q => sub_int q
theorem op_mul : OpR X (binaryOp .Mult) (rI CMul fun i j => .int (i * j)) := opI fun _ _ _ _ _ _ _ hc q => mul_int q hc.ok
theorem op_mod : OpR X (binaryOp .Mod) (rI (fun _ j => 0 < j) fun i j => .int (i % j)) := opI fun i j _ _ _ _ _ hc q => by
  have h1 : (0 : Int) < j := hc
  exact mod_int' (by omega) (by rw [Int.fmod_eq_emod_of_nonneg i (by omega)]; exact q)
theorem op_pow : OpR X (binaryOp .Pow) (rI CPow fun i j => .int (i ^ j.toNat)) := opI fun _ _ _ _ _ _ _ hc q => pow_int_small hc.1 hc.2.1 hc.2.2 q
theorem op_shl : OpR X (binaryOp .LShift) (rI CPow fun i j => .int (i * 2 ^ j.toNat)) := opI fun _ _ _ _ _ _ _ hc q => lshift_int_small hc.1 hc.2.1 hc.2.2 q
theorem op_xor : OpR X (binaryOp .BitXor) (rI0 fun i j => .int (Builtin.bitXor i j)) := opI0 fun _ _ _ _ _ _ _ q => xor_int q
theorem iop_xor : OpR X (inplaceOp .BitXor) (rI0 fun i j => .int (Builtin.bitXor i j)) := opI0 fun _ _ _ _ _ _ _ q => ixor_int q
end
section
variable {X : Cx} {a b c : Expr} {ta tb tc : TE} {pos : Pos}
theorem op_lt : OpR X (compareOp .Lt) (rI0 fun i j => .bl (decide (i < j))) := opB0 fun _ _ _ _ _ _ _ q => lt_int q
theorem op_le : OpR X (compareOp .LtE) (rI0 fun i j => .bl (decide (i ≤ j))) := opB0 fun _ _ _ _ _ _ _ q => le_int q
theorem op_gt : OpR X (compareOp .Gt) (rI0 fun i j => .bl (decide (j < i))) := opB0 fun _ _ _ _ _ _ _ q => gt_int q
theorem op_ge : OpR X (compareOp .GtE) (rI0 fun i j => .bl (decide (j ≤ i))) := opB0 fun _ _ _ _ _ _ _ q => ge_int q
theorem OpR.or {f : Value → Value → Sem Value} {r r' : R2} (h : OpR X f r) (h' : OpR X f r') : OpR X f (fun x y H Q => r x y H Q ∨ r' x y H Q) := by
  intro pins s σ H x y v u Q I rx ry q
  rcases q with q | q
  · exact h pins s σ H x y v u Q I rx ry q
  · exact h' pins s σ H x y v u Q I rx ry q
theorem nomark (b : Expr) {op : CmpOp} (h : op ≠ .In := by decide) (h2 : op ≠ .NotIn := by decide) : behindInMarks op b = false := by
  have e1 : (op == CmpOp.In) = false := by cases op <;> first | rfl | exact absurd rfl h
  have e2 : (op == CmpOp.NotIn) = false := by cases op <;> first | rfl | exact absurd rfl h2
  cases b <;> simp [behindInMarks, e1, e2]
theorem pe_cmpR {op : CmpOp} {r : R2} (ho : OpR X (compareOp op) r) (ha : PE X a ta) (hb : PE X b tb) (hm : behindInMarks op b = false) : PE X (.Compare a [op] [b] pos) (tOp r ta tb) := by
  intro pins s σ H Q I h
  exact wpAny_Compare1 (binT ha hb I h fun v u s2 x y H2 I2 rx ry q => ho pins s2 σ H2 x y v u Q I2 rx ry q) hm
def tTest (t : TE) : TT := fun σ H Q => t σ H fun x H' => ∃ k, x = .bl k ∧ Q k H'
theorem pt_cmpR {op : CmpOp} {r : R2} (ho : OpR X (compareOp op) r) (ha : PE X a ta) (hb : PE X b tb) (hm : behindInMarks op b = false) : PT X (.Compare a [op] [b] pos) (tTest (tOp r ta tb)) := by
  intro pins s σ H Q I h
  refine wpAny_isTrue_Compare1 (thn (ha pins s σ H _ I h) fun v s1 ⟨x, H1, I1, r1, q1⟩ => thn (hb pins s1 σ H1 _ I1 q1) fun u s2 ⟨y, H2, I2, r2, q2⟩ =>
    thn (ho pins s2 σ H2 x y v u _ I2 r1 r2 q2) fun c s3 ⟨z, H3, I3, r3, k, e, q3⟩ => ?_) hm
  subst e
  cases r3
  exact wpAny_truthy_bool ⟨H3, I3, q3⟩
def tChain (r r' : R2) (ta tb tc : TE) : TE := fun σ H Q => ta σ H fun x H1 => tb σ H1 fun y H2 => r x y H2 fun z H3 => ∃ k, z = .bl k ∧
  (if k = true then tc σ H3 fun w' H4 => r' y w' H4 Q else Q (.bl false) H3)
theorem pt_chain {op op' : CmpOp} {r r' : R2} (ho : OpR X (compareOp op) r) (ho' : OpR X (compareOp op') r') (ha : PE X a ta) (hb : PE X b tb) (hc : PE X c tc)
    (hm : lastMarks [op, op'] [b, c] = false := by with_unfolding_all rfl) : PT X (.Compare a [op, op'] [b, c] pos) (tTest (tChain r r' ta tb tc)) := by
  intro pins s σ H Q I h
  refine isTrue_chain (thn (ha pins s σ H _ I h) fun v s1 ⟨x, H1, I1, r1, q1⟩ => test_link (thn (hb pins s1 σ H1 _ I1 q1) fun u s2 ⟨y, H2, I2, r2, q2⟩ =>
    thn (ho pins s2 σ H2 x y v u _ I2 r1 r2 q2) fun d s3 ⟨z, H3, I3, r3, k, e, q3⟩ => ?_)) hm
  subst e
  cases r3
  refine wpAny_truthy_bool ?_
  cases k with
  | false =>
    obtain ⟨k', e', q'⟩ := q3
    cases e'
    exact ite_ff ⟨H3, I3, q'⟩
  | true =>
    refine ite_tt (test_last (thn (hc pins s3 σ H3 _ I3 q3) fun w' s4 ⟨z', H4, I4, r4, q4⟩ => thn (ho' pins s4 σ H4 y z' u w' _ I4 r2 r4 q4) fun d' s5 ⟨z2, H5, I5, r5, k2, e2, q5⟩ => ?_))
    subst e2
    cases r5
    exact wpAny_truthy_bool ⟨H5, I5, q5⟩
def TruV (K : PySem.W.Frag) (x : V) (H : Hp) (k : Bool) : Prop :=
  match x with
  | .non => k = false
  | .bl b => k = b
  | .int i => k = (i != 0)
  | .str y => y.length ≤ sizeLine ∧ k = ((y.length : Int) != 0)
  | .byt y => y.size ≤ sizeLine ∧ k = ((y.size : Int) != 0)
  | .ref p => (∃ xs, SqL K H p xs ∧ k = !xs.isEmpty) ∨ (∃ xs, SqT K H p xs ∧ k = !xs.isEmpty) ∨ ∃ kvs, H p = some (.dK kvs) ∧ k = !kvs.isEmpty
  | _ => False
theorem isEmpty_kv {κ : Type} {kvs : List (κ × V)} {vs : List (κ × Value)} (r : KV kvs vs) : (!vs.isEmpty) = !kvs.isEmpty := by
  cases r <;> rfl
theorem isEmpty_of {xs : List V} {its : List Value} (r : Vals xs its) : (!its.toArray.isEmpty) = !xs.isEmpty := by
  cases r <;> simp
theorem line63 : (sizeLine : Nat) < 2 ^ 63 := by rw [sizeLine_eq]; decide
theorem tru_ok : TruR X (fun x H Q => ∃ k, TruV X.K x H k ∧ Q k H) := by
  intro pins s σ H x v Q I rx h
  obtain ⟨k, e, q⟩ := h
  have hl := line63
  have hs : sizeLine = 16777216 := sizeLine_eq
  cases x with
  | non =>
    cases rx
    have e' : k = false := e
    subst e'
    exact truthy_none ⟨H, I, q⟩
  | bl b =>
    cases rx
    have e' : k = b := e
    subst e'
    exact wpAny_truthy_bool ⟨H, I, q⟩
  | int i =>
    obtain ⟨t, rfl⟩ := rx
    have e' : k = (i != 0) := e
    subst e'
    exact PySem.P.truthy_int ⟨H, I, q⟩
  | str y =>
    obtain ⟨t, rfl⟩ := rx
    obtain ⟨hy, e'⟩ : y.length ≤ sizeLine ∧ k = ((y.length : Int) != 0) := e
    subst e'
    exact PySem.P.truthy_str (by omega) ⟨H, I.tok _, q⟩
  | byt y =>
    obtain ⟨t, rfl⟩ := rx
    obtain ⟨hy, e'⟩ : y.size ≤ sizeLine ∧ k = ((y.size : Int) != 0) := e
    subst e'
    exact PySem.W.truthy_bytes (by omega) ⟨H, I.tok _, q⟩
  | ref p =>
    cases rx
    have e' : (∃ xs, SqL X.K H p xs ∧ k = !xs.isEmpty) ∨ (∃ xs, SqT X.K H p xs ∧ k = !xs.isEmpty) ∨ ∃ kvs, H p = some (.dK kvs) ∧ k = !kvs.isEmpty := e
    rcases e' with ⟨xs, hx, e'⟩ | ⟨xs, hx, e'⟩ | ⟨kvs, hx, e'⟩
    · subst e'
      obtain ⟨its, r, pl, hz⟩ := I.list hx
      have hlen := r.length
      exact wpAny_truthy_list pl.isList (by simp only [List.size_toArray]; omega) ⟨H, I.tok _, by rw [isEmpty_of r]; exact q⟩
    · subst e'
      obtain ⟨its, r, pl, hz⟩ := I.tuple hx
      have hlen := r.length
      exact truthy_tuple pl (by simp only [List.size_toArray]; omega) ⟨H, I.tok _, by rw [isEmpty_of r]; exact q⟩
    · subst e'
      obtain ⟨hz, hS, vs, r, m⟩ : kvs.length ≤ sizeLine ∧ (p == sysModules) = false ∧ ∃ vs, KV kvs vs ∧ s.heap.DictOf (mixKind X.prog X.w) p vs := I.hok p _ hx
      have hlen : kvs.length = vs.length := Paired.length r
      exact wpAny_truthy_dict hS m (by omega) ⟨H, I.tok _, by rw [isEmpty_kv r]; exact q⟩
  | _ => exact (show False from e).elim
theorem pt_truth (ha : PE X a ta) (he : ∀ whole, isTrue a X.env whole = (do let v ← whole; standAt a.pos; holding [v] (truthy v))) :
    PT X a (fun σ H Q => ta σ H fun x H' => ∃ k, TruV X.K x H' k ∧ Q k H') := by
  intro pins s σ H Q I h
  exact isTrue_plain (thn (ha pins s σ H _ I h) fun v s1 ⟨x, H1, I1, r1, q1⟩ => tru_ok pins s1 σ H1 x v Q I1 r1 q1) (he _)
theorem vals1 {x : V} {us : List Value} (r : Vals [x] us) : ∃ u, us = [u] ∧ RelV x u := by
  cases r with
  | cons r1 r2 => cases r2; exact ⟨_, rfl, r1⟩
theorem vals2 {x y : V} {us : List Value} (r : Vals [x, y] us) : ∃ u w', us = [u, w'] ∧ RelV x u ∧ RelV y w' := by
  cases r with
  | cons r1 r2 =>
    cases r2 with
    | cons r3 r4 => cases r4; exact ⟨_, _, rfl, r1, r3⟩
theorem call_int1 : CallR X (.type "int") (fun xs H Q => (∃ i, xs = [.int i] ∧ Q (.int i) H) ∨ ∃ k, xs = [.bl k] ∧ Q (.int (if k then 1 else 0)) H) := by
  intro pins s σ H xs us Q I r h
  rcases h with ⟨i, rfl, q⟩ | ⟨k, rfl, q⟩
  · obtain ⟨u, rfl, t, rfl⟩ := vals1 r
    exact call_int_int ⟨.int i, H, I, ⟨_, rfl⟩, q⟩
  · obtain ⟨u, rfl, r1⟩ := vals1 r
    cases r1
    exact call_int_bool ⟨.int (if k then 1 else 0), H, I.tok _, ⟨_, rfl⟩, q⟩
end
end L2
namespace L2
open PySem PySem.Spec PyProof.Rows
structure ObjM (h : Heap) (x dx C : Addr) (mA : Str → Option Value) : Prop where
  obj : h.get? x = some (PySem.W.instObj C dx)
  ns : h.Ns1 dx mA
  ne : dx ≠ x
theorem lookIn_ns {h : Heap} {dx : Addr} {mA : Str → Option Value} (n : h.Ns1 dx mA) : ∃ od, h.get? dx = some od ∧ ∀ name, PySem.W.lookIn name od = some (mA name) := by
  obtain ⟨o, es, ep, ho, hd, hk, _, hm⟩ := n
  refine ⟨o, ho, fun name => ?_⟩
  have e := hm name
  unfold nsFind findBy at e
  rw [← Array.find?_toList] at e
  unfold PySem.W.lookIn
  rw [hd]
  dsimp only
  split
  · rename_i y q
    rw [q] at e
    exact congrArg some e
  · rename_i q
    rw [q] at e
    have a : es.toList.any (·.refKey) = false := by
      rw [List.any_eq_false]
      intro y hy
      obtain ⟨z, t, hkey⟩ := hk y (Array.mem_toList_iff.mp hy)
      simp [DictEntry.refKey, hkey]
    have a' : ¬ es.toList.any (·.refKey) = true := by rw [a]; exact Bool.false_ne_true
    rw [if_neg a']
    exact congrArg some e
theorem ObjM.look {h : Heap} {x dx C : Addr} {mA : Str → Option Value} (I : ObjM h x dx C mA) : ∃ od, PySem.W.InstAt h x (PySem.W.instObj C dx) C (some od) ∧ ∀ name, PySem.W.lookIn name od = some (mA name) :=
  let ⟨od, ho, hl⟩ := lookIn_ns I.ns
  ⟨od, ⟨I.obj, rfl, rfl, ho⟩, hl⟩
section
variable {prog : Program} {w : World} {A : Around} {E : Value → Shared → Prop} {s : Shared} {K : PySem.W.Frag} {x dx C f : Addr} {mA : Str → Option Value} {name : Str} {v : Value}
end
theorem RelO.some_of {v : V} {o : Option Value} (r : RelO (some v) o) : ∃ u, o = some u ∧ RelV v u := by
  cases o with
  | none => exact (show False from r).elim
  | some u => exact ⟨u, rfl, r⟩
section
variable {P : Program} {w : World} {H H' : Hp} {h h' : Heap} {a C dx : Addr} {fs fs' : List (Str × V)}
theorem ins_get (hok : HOk P w H h) (e : H a = some (.ins C dx fs)) : ∃ mA, ObjM h a dx C mA ∧ (∀ f, RelO (fs.lookup f) (mA f)) ∧ PySem.Within mA (fs.map (·.1)) ∧ fs.length ≤ 1000 ∧ H dx = some (.own a) := by
  obtain ⟨d, z, ne, ob, mA, n, r, q⟩ := (show ObjOk P w H h a (.ins C dx fs) from hok a _ e)
  exact ⟨mA, ⟨ob, n, ne⟩, r, q, z, d⟩
end
structure Cls (K : PySem.W.Frag) (C : Addr) : Prop where
  pg : PySem.W.plainGet K C Str.empty = true
  hd : PySem.W.hasDictIn K C = true
  po : PySem.W.plainOver K C = true
  sa : PySem.W.findIn K (.ref C) "__setattr__" = some (some (.builtin "object.__setattr__"))
theorem Cls.get {K : PySem.W.Frag} {C : Addr} (c : Cls K C) (f : Str) : PySem.W.plainGet K C f = true := c.pg
section
variable {X : Cx} {pins : List (Addr × Obj)} {σ : St} {H : Hp} {s : Shared} {a C dx : Addr} {fs : List (Str × V)} {f : Str} {v : V} {A : Around} {E : Value → Shared → Prop}
end
section
variable {X : Cx} {o e value : Expr} {f : Str} {pos pos' tpos : Pos} {ta tv : TE}
end
section
variable {X : Cx} {pins : List (Addr × Obj)} {σ : St} {H : Hp} {s : Shared} {A : Around} {E : Value → Shared → Prop} {Q : Value → Shared → Prop} {c : Value} {b : Bool}
inductive TyOf (K : PySem.W.Frag) (H : Hp) : V → Value → Prop where
  | non : TyOf K H .non (.type "NoneType")
  | bl (x : Bool) : TyOf K H (.bl x) (.type "bool")
  | int (i : Int) : TyOf K H (.int i) (.type "int")
  | str (x : Str) : TyOf K H (.str x) (.type "str")
  | flt (x : UInt64) : TyOf K H (.flt x) (.type "float")
  | lst {a : Addr} {xs : List V} (e : H a = some (.lst xs)) : TyOf K H (.ref a) (.type "list")
  | frz {a : Addr} {o : Obj} {xs : List V} (e : H a = some (.frz o (.lst xs))) : TyOf K H (.ref a) (.type "list")
  | tup {a : Addr} {xs : List V} (e : H a = some (.tup xs)) : TyOf K H (.ref a) (.type "tuple")
  | dK {a : Addr} {kvs : List (Key × V)} (e : H a = some (.dK kvs)) : TyOf K H (.ref a) (.type "dict")
  | dT {a : Addr} {kvs : List (List Key × V)} (e : H a = some (.dT kvs)) : TyOf K H (.ref a) (.type "dict")
  | ins {a C dx : Addr} {fs : List (Str × V)} (e : H a = some (.ins C dx fs)) (cl : Cls K C) (ha : PySem.W.findIn K (.ref C) "__class__" = some (some (.builtin "object.__class__")))
      (hn : PySem.W.specialIn K (.builtin "object.__class__") "__get__" = some (some (.builtin "getset_descriptor.__get__"))) (htk : PySem.W.takesIn K (.builtin "object.__class__") = some true)
      (hm : PySem.W.mroIn K C (.type "object") = some true) : TyOf K H (.ref a) (.ref C)
theorem isinst_ok {x : V} {u t : Value} (I : Inv X pins σ H s) (rx : RelV x u) (ty : TyOf X.K H x t) (e : PySem.W.kitOne X.K t c = some b) (h : ∀ tk, Q (.bool b) { s with toks := tk }) :
    wpAny (model X.prog X.w) A (call (.builtin "isinstance") [u, c]) Q E s := by
  cases ty with
  | non => cases (show u = Value.none from rx); exact PySem.W.kia_one PySem.W.kitx_none I.kIn True.intro e (fun z => nomatch z) h
  | bl y => cases (show u = Value.bool y from rx); exact PySem.W.kia_one PySem.W.kitx_bool I.kIn True.intro e (fun z => nomatch z) h
  | int i => obtain ⟨t, q⟩ := (show ∃ t, u = Value.int i t from rx); cases q; exact PySem.W.kia_one PySem.W.kitx_int I.kIn True.intro e (fun z => nomatch z) h
  | str y => obtain ⟨t, q⟩ := (show ∃ t, u = Value.str y t from rx); cases q; exact PySem.W.kia_one PySem.W.kitx_str I.kIn True.intro e (fun z => nomatch z) h
  | flt y => obtain ⟨t, q⟩ := (show ∃ t, u = Value.float y t from rx); cases q; exact PySem.W.kia_one PySem.W.kitx_float I.kIn True.intro e (fun z => nomatch z) h
  | @lst a xs ea =>
    cases (show u = Value.ref a from rx)
    obtain ⟨_, _, n, _, h1⟩ := (show ObjOk X.prog X.w H s.heap a (.lst xs) from I.hok a _ ea)
    exact PySem.W.kia_one PySem.W.kitx_list I.kIn ⟨_, h1, rfl⟩ e (fun z => nomatch z) h
  | @frz a ob xs ea =>
    cases (show u = Value.ref a from rx)
    obtain ⟨_, _, _, n, _, h1⟩ := (show ObjOk X.prog X.w H s.heap a (.frz ob (.lst xs)) from I.hok a _ ea)
    exact PySem.W.kia_one PySem.W.kitx_list I.kIn ⟨_, h1, rfl⟩ e (fun z => nomatch z) h
  | @tup a xs ea =>
    cases (show u = Value.ref a from rx)
    obtain ⟨_, _, _, p⟩ := (show ObjOk X.prog X.w H s.heap a (.tup xs) from I.hok a _ ea)
    obtain ⟨o, h1, h2, _⟩ := p
    exact PySem.W.kia_one PySem.W.kitx_tuple I.kIn ⟨o, h1, h2⟩ e (fun z => nomatch z) h
  | @dK a kvs ea =>
    cases (show u = Value.ref a from rx)
    obtain ⟨_, _, vs, _, p⟩ := (show ObjOk X.prog X.w H s.heap a (.dK kvs) from I.hok a _ ea)
    obtain ⟨o, es, ep, h1, h2, _⟩ := p
    exact PySem.W.kia_one PySem.W.kitx_dict I.kIn ⟨o, h1, h2.1⟩ e (fun z => nomatch z) h
  | @dT a kvs ea =>
    cases (show u = Value.ref a from rx)
    obtain ⟨_, _, xs, _, o, es, ep, h1, h2, _⟩ := (show ObjOk X.prog X.w H s.heap a (.dT kvs) from I.hok a _ ea)
    exact PySem.W.kia_one PySem.W.kitx_dict I.kIn ⟨o, h1, h2.1⟩ e (fun z => nomatch z) h
  | @ins a C dx fs ea cl ha hn htk hm =>
    cases (show u = Value.ref a from rx)
    obtain ⟨mA, O, _⟩ := ins_get I.hok ea
    obtain ⟨od, J, _⟩ := O.look
    exact PySem.W.kia_one (PySem.W.kitx_own (cl.get _) cl.hd ha hn htk hm) I.kIn J e (fun z => nomatch z) h
end
end L2
namespace L2
open PySem PySem.Spec PyProof.Rows
structure Room (k : Nat) (A : Around) : Prop where
  hd : A.handled = none
  dp : A.depth + 3 * k + 5 < recursionLimit
  un : A.units + 16 * k + 200 < cLine
theorem Room.mono {j k : Nat} {A : Around} (r : Room k A) (h : j ≤ k) : Room j A := ⟨r.hd, by have := r.dp; omega, by have := r.un; omega⟩
theorem Room.deeper {k : Nat} {A : Around} (r : Room (k + 1) A) (env : Env) : Room k (A.deeper env) :=
  ⟨r.hd, by have := r.dp; show A.depth + 1 + 3 * k + 5 < _; omega, by have := r.un; show A.units + 3 + 16 * k + 200 < _; omega⟩
theorem Room.in1 {k : Nat} {A : Around} (r : Room (k + 1) A) : Room k A.in1 :=
  ⟨r.hd, by have := r.dp; show A.depth + 3 * k + 5 < _; omega, by have := r.un; show A.units + 1 + 16 * k + 200 < _; omega⟩
theorem Room.depth {k : Nat} {A : Around} (r : Room k A) : A.depth < recursionLimit := by have := r.dp; omega
theorem Room.units {k : Nat} {A : Around} (r : Room k A) : A.units + 64 < cLine := by have := r.un; omega
def tNil : TA := fun _ H Q => Q [] H
def tCons (ta : TE) (tr : TA) : TA := fun σ H Q => ta σ H fun x H1 => tr σ H1 fun xs H2 => Q (x :: xs) H2
section
variable {X : Cx} {e : Expr} {es : List Expr} {te : TE} {t : TA} {pos : Pos}
theorem pa_nil : PA X [] tNil := fun _ _ _ _ H Q I h => Calls.spliced_nil ⟨[], H, I, .nil, h⟩
theorem pa_cons (ha : PE X e te) (hr : PA X es t) (hs : starEach (e :: es) X.env = (false, eval e X.env) :: starEach es X.env := by rfl) : PA X (e :: es) (tCons te t) := by
  intro pos pins s σ H Q I h
  rw [hs]
  show wpAny _ _ (spliced ((false, eval e X.env) :: backTo pos (starEach es X.env))) _ _ s
  refine Calls.spliced_cons (thn (ha pins s σ H _ I h) fun u s1 ⟨x, H1, I1, r1, q1⟩ => ?_)
  exact thn (hr pos pins s1 σ H1 _ I1 q1) fun us s2 ⟨xs, H2, I2, r2, q2⟩ => ⟨x :: xs, H2, I2, .cons r1 r2, q2⟩
def tTup (t : TA) : TE := fun σ H Q => t σ H fun xs H1 => xs.length ≤ sizeLine ∧ ∀ p, H1 p = none → Q (.ref p) (upd H1 p (.tup xs))
def tLst (t : TA) : TE := fun σ H Q => t σ H fun xs H1 => xs.length ≤ sizeLine ∧ ∀ p, H1 p = none → Q (.ref p) (upd H1 p (.lst xs))
theorem pe_tup {x1} (h : PA X es t) : PE X (.Tuple es x1 pos) (tTup t) := by
  intro pins s σ H Q I hq
  refine wpAny_Tuple_spliced (thn (h pos pins s σ H _ I hq) fun us s1 ⟨xs, H1, I1, r, z, q⟩ => ⟨by rw [← r.length]; exact z, ?_⟩)
  have hf : H1 s1.heap.objs.size = none := I1.hok.fresh (Nat.le_refl _)
  refine ⟨.ref s1.heap.objs.size, upd H1 s1.heap.objs.size (.tup xs), I1.laid (t' := s1.toks) (fun b u e => Heap.get?_push_of_some _ e) (Nat.le_refl _) ?_, rfl, q _ hf⟩
  exact ⟨z, us, r, ⟨_, Heap.get?_push_size _ rfl, rfl, _, rfl⟩⟩
theorem pe_lst (h : PA X es t) : PE X (.List es pos) (tLst t) := by
  intro pins s σ H Q I hq
  refine wpAny_List_spliced (thn (h pos pins s σ H _ I hq) fun us s1 ⟨xs, H1, I1, r, z, q⟩ => ⟨by rw [← r.length]; exact z, ?_⟩)
  have hf : H1 s1.heap.objs.size = none := I1.hok.fresh (Nat.le_refl _)
  refine ⟨.ref s1.heap.objs.size, upd H1 s1.heap.objs.size (.lst xs), I1.laid (t' := s1.toks) (fun b u e => Heap.get?_push_of_some _ e) (Nat.le_refl _) ?_, rfl, q _ hf⟩
  exact ⟨z, us, 0, r, Heap.get?_push_size _ rfl⟩
end
abbrev Sp := List V → Hp → VK → XK → Prop
abbrev CXT := List Env → Hp → Shared → XK → Value → Shared → Prop
structure Env0 (P : Program) (w : World) (K : PySem.W.Frag) (mg : Str → Option Value) (base : Heap) (A : Around) (outer : List Env) (s : Shared) (H : Hp) : Prop where
  frames : A.frames = some outer
  mod : Mod K mg base
  bs : ∀ b o, base.get? b = some o → s.heap.get? b = some o ∧ H b = none
  bsz : base.objs.size ≤ s.heap.objs.size
  funs : s.heap.FunFrames base outer
  frf : ∀ b ∈ frs outer, H b = none
  hok : HOk P w H s.heap
  bare : AllBare s.gens
def CE (outer : List Env) (P : Program) (w : World) (H : Hp) (s : Shared) (Q : VK) (u : Value) (s' : Shared) : Prop :=
  ∃ v H', s'.os = s.os ∧ AllBare s'.gens ∧ Un (frs outer) [] H H' s.heap s'.heap ∧ HOk P w H' s'.heap ∧ RelV v u ∧ Q v H'
def CR (CX : CXT) (outer : List Env) (P : Program) (w : World) (H : Hp) (s : Shared) (Q : VK) (E : XK) (r : Result) (s' : Shared) : Prop :=
  match r with
  | .ok (.ret u) => CE outer P w H s Q u s'
  | .ok _ => False
  | .error e => CX outer H s E e s'
structure FnOk (P : Program) (w : World) (K : PySem.W.Frag) (mg : Str → Option Value) (base : Heap) (CX : CXT) (k : Nat) (f : Addr) (fd : FuncData) (ps : List Str) (sp : Sp) : Prop where
  len : ∀ vs H Q E, sp vs H Q E → vs.length = ps.length
  run : ∀ (A : Around) (outer : List Env) (s : Shared) (H : Hp) (args : Args) (us : List Value) (vs : List V) (Q : VK) (E : XK), Room k A → Env0 P w K mg base A outer s H → BindsTo s fd args (ps.zip us) → Vals vs us → sp vs H Q E →
    codeAny (model P w) A (.call (.ref f) args) (CR CX outer P w H s Q E) s
theorem FnOk.mono {P : Program} {w : World} {K : PySem.W.Frag} {mg : Str → Option Value} {base : Heap} {CX : CXT} {j k : Nat} {f : Addr} {fd : FuncData} {ps : List Str} {sp : Sp} (F : FnOk P w K mg base CX j f fd ps sp) (h : j ≤ k) :
    FnOk P w K mg base CX k f fd ps sp := ⟨F.len, fun A outer s H args us vs Q E hr => F.run A outer s H args us vs Q E (hr.mono h)⟩
theorem FnOk.imp {P : Program} {w : World} {K : PySem.W.Frag} {mg : Str → Option Value} {base : Heap} {CX : CXT} {k : Nat} {f : Addr} {fd : FuncData} {ps : List Str} {sp sp' : Sp} (F : FnOk P w K mg base CX k f fd ps sp)
    (h : ∀ vs H Q E, sp' vs H Q E → sp vs H Q E) : FnOk P w K mg base CX k f fd ps sp' :=
  ⟨fun vs H Q E q => F.len vs H Q E (h _ _ _ _ q), fun A outer s H args us vs Q E hr he hb hv hs => F.run A outer s H args us vs Q E hr he hb hv (h _ _ _ _ hs)⟩
theorem Env0.in1 {P : Program} {w : World} {K : PySem.W.Frag} {mg : Str → Option Value} {base : Heap} {A : Around} {outer : List Env} {s : Shared} {H : Hp} (e : Env0 P w K mg base A outer s H) :
    Env0 P w K mg base A.in1 outer s H := ⟨e.frames, e.mod, e.bs, e.bsz, e.funs, e.frf, e.hok, e.bare⟩
section
variable {X : Cx} {pins : List (Addr × Obj)} {σ : St} {H : Hp} {s s' : Shared}
theorem Inv.env0 (I : Inv X pins σ H s) : Env0 X.prog X.w X.K X.mg X.base X.A X.stack s H :=
  ⟨I.ok.frames, I.ok.mod, I.bs, Nat.le_trans I.ok.bsz I.sz, I.stack, I.stkFree, I.hok, I.bare⟩
theorem Inv.after {Q : VK} {u : Value} (I : Inv X pins σ H s) (h : CE X.stack X.prog X.w H s Q u s') : EP X pins σ Q u s' := by
  obtain ⟨v, H', os, bare, un, hok, r, q⟩ := h
  obtain ⟨hh, g, d, t, os'⟩ := s'
  obtain rfl : os' = s.os := os
  exact ⟨v, H', I.call (h' := hh) (g' := g) (d' := d) (t' := t) (ch := []) un hok bare (fun b z => absurd z (by simp)), r, q⟩
end
def tCall (sp : Sp) (dvs : List V) (E : XK) (t : TA) : TE := fun σ H Q => t σ H fun vs H1 => sp (vs ++ dvs) H1 Q E
def Binds (K : PySem.W.Frag) (fd : FuncData) (ps : List Str) (ds : List Value) : Prop :=
  ∀ (s : Shared) (us : List Value), K.In s.heap → (us ++ ds).length = ps.length → BindsTo s fd ⟨us, []⟩ (ps.zip (us ++ ds))
theorem Binds.all {K : PySem.W.Frag} {fd : FuncData} {ps : List Str} (h : ∀ us : List Value, us.length = ps.length → bindArgs fd ⟨us, []⟩ = pure (ps.zip us)) : Binds K fd ps [] := fun s us _ hl => by
  rw [List.append_nil] at hl ⊢
  exact .of_eq (h us hl)
def Passes (CX : CXT) (X : Cx) (E : XK) : Prop := ∀ (pins : List (Addr × Obj)) (σ : St) (H : Hp) (s : Shared) (e : Value) (s' : Shared), Inv X pins σ H s → CX X.stack H s E e s' → X.xe e s'
section
variable {X : Cx} {CX : CXT} {k : Nat} {f C : Addr} {fd : FuncData} {ps : List Str} {sp : Sp} {dvs : List V} {ds : List Value} {E : XK} {x m : Str} {p pos apos : Pos} {e o : Expr} {es : List Expr} {ta : TE} {t : TA}
theorem run_fn {pins : List (Addr × Obj)} {σ : St} {H : Hp} {s : Shared} {Q : VK} {us : List Value} {vs : List V} (F : FnOk X.prog X.w X.K X.mg X.base CX k f fd ps sp) (hr : Room k X.A) (hb : Binds X.K fd ps ds) (hd : Vals dvs ds) (hx : Passes CX X E)
    (I : Inv X pins σ H s) (r : Vals vs us) (h : sp (vs ++ dvs) H Q E) : wpAny (model X.prog X.w) X.A (call (.ref f) us) (EP X pins σ Q) X.xe s := by
  have r2 : Vals (vs ++ dvs) (us ++ ds) := r.append hd
  have hl : (us ++ ds).length = ps.length := by rw [← r2.length]; exact F.len _ _ _ _ h
  refine wpAny_call (codeAny_mono (F.run X.A X.stack s H ⟨us, []⟩ (us ++ ds) (vs ++ dvs) Q E hr I.env0 (hb s us I.kIn hl) r2 h) fun r s' hq => ?_)
  cases r with
  | error e => exact hx pins σ H s e s' I hq
  | ok fl =>
    cases fl with
    | ret u => exact I.after hq
    | next => exact False.elim hq
    | brk => exact False.elim hq
    | cont => exact False.elim hq
theorem pe_call (F : FnOk X.prog X.w X.K X.mg X.base CX k f fd ps sp) (hr : Room k X.A) (hg : Gl X x) (hm : X.mg x = some (.ref f)) (hk : PySem.W.keepIn X.K (.ref f) = true) (hb : Binds X.K fd ps ds) (hd : Vals dvs ds) (hx : Passes CX X E)
    (ha : PA X (e :: es) t) (hdb : (x == ("__debug__" : Str)) = false := by decide) (he : starEach (e :: es) X.env = (false, eval e X.env) :: starEach es X.env := by rfl) (hpl : (backTo pos (starEach es X.env)).any (·.1) = false := by rfl) :
    PE X (.Call (.Name x p) (e :: es) [] pos) (tCall sp dvs E t) := by
  intro pins s σ H Q I h
  refine wpAny_Call_Name_kw (ld_glob I hg hm ?_ hdb)
  refine PySem.W.callWith_K (h₀ := X.base) I.ok.mod.kin hk (thn (ha pos pins s σ H _ I h) fun us s1 ⟨vs, H1, I1, r, q⟩ => ⟨I1.kIn, ?_⟩) he hpl
  exact run_fn F hr hb hd hx I1 r q
end
section
variable {X : Cx} {CX : CXT} {k : Nat} {f C : Addr} {fd : FuncData} {ps ks : List Str} {sp : Sp} {E : XK} {x m : Str} {p pos apos kpos : Pos} {e o : Expr} {es : List Expr} {kws : List Keyword} {te ta : TE} {t tk : TA} {nm : Option Str}
variable {g : List Value → List Value → List Value} {gV : List V → List V → List V}
end
structure FnScope (N P : List Str) (sc : Scope) : Prop where
  kind : sc.kind = .function
  co : sc.isCoroutine = false
  gen : sc.isGenerator = false
  nd : N.Nodup
  pre : N.take P.length = P
  par : ∀ x ∈ P, sc.names.lookup x = some .local ∨ sc.names.lookup x = some .cell
  nofree : ∀ y ∈ sc.names, y.2 ≠ .free
theorem bindL_out {kindOf : Str → Option NameKind} {x : Str} : ∀ {binds : List (Str × Value)} {m : Str → Option Value}, (∀ v, (x, v) ∉ binds) → bindL kindOf binds m x = m x
  | [], _, _ => rfl
  | (n, v) :: r, m, h => by
    unfold bindL
    rw [bindL_out fun w hw => h w (List.mem_cons_of_mem _ hw)]
    split
    · have : x ≠ n := by rintro rfl; exact h v List.mem_cons_self
      simp [this]
    · rfl
theorem bindC_out {kindOf : Str → Option NameKind} {x : Str} : ∀ {binds : List (Str × Value)} {m : Str → Option Value}, (∀ v, (x, v) ∉ binds) → bindC kindOf binds m x = m x
  | [], _, _ => rfl
  | (n, v) :: r, m, h => by
    unfold bindC
    rw [bindC_out fun w hw => h w (List.mem_cons_of_mem _ hw)]
    split
    · rfl
    · have : x ≠ n := by rintro rfl; exact h v List.mem_cons_self
      simp [this]
theorem bindL_get {kindOf : Str → Option NameKind} {x : Str} {v : Value} : ∀ {P : List Str} {vs : List Value} {i : Nat} {m : Str → Option Value}, P.Nodup → P[i]? = some x → vs[i]? = some v → kindOf x = some .local →
    bindL kindOf (P.zip vs) m x = some v
  | [], _, _, _, _, h, _, _ => by simp at h
  | _ :: _, [], _, _, _, _, h, _ => by simp at h
  | p :: P, w :: vs, 0, m, nd, h1, h2, hk => by
    simp at h1 h2; subst h1; subst h2
    show bindL kindOf ((p, w) :: P.zip vs) m p = _
    unfold bindL
    rw [bindL_out fun v hv => (List.nodup_cons.mp nd).1 (List.of_mem_zip hv).1, if_pos hk]
    simp
  | p :: P, w :: vs, i + 1, m, nd, h1, h2, hk => by
    show bindL kindOf ((p, w) :: P.zip vs) m x = _
    unfold bindL
    exact bindL_get (i := i) (List.nodup_cons.mp nd).2 (by simpa using h1) (by simpa using h2) hk
theorem bindC_get {kindOf : Str → Option NameKind} {x : Str} {v : Value} : ∀ {P : List Str} {vs : List Value} {i : Nat} {m : Str → Option Value}, P.Nodup → P[i]? = some x → vs[i]? = some v → kindOf x ≠ some .local →
    bindC kindOf (P.zip vs) m x = some v
  | [], _, _, _, _, h, _, _ => by simp at h
  | _ :: _, [], _, _, _, _, h, _ => by simp at h
  | p :: P, w :: vs, 0, m, nd, h1, h2, hk => by
    simp at h1 h2; subst h1; subst h2
    show bindC kindOf ((p, w) :: P.zip vs) m p = _
    unfold bindC
    rw [bindC_out fun v hv => (List.nodup_cons.mp nd).1 (List.of_mem_zip hv).1, if_neg hk]
    simp
  | p :: P, w :: vs, i + 1, m, nd, h1, h2, hk => by
    show bindC kindOf ((p, w) :: P.zip vs) m x = _
    unfold bindC
    exact bindC_get (i := i) (List.nodup_cons.mp nd).2 (by simpa using h1) (by simpa using h2) hk
def start (N : List Str) (vs : List V) : St := vs.map some ++ List.replicate (N.length - vs.length) none
def cxOf (CX : CXT) (P : Program) (w : World) (K : PySem.W.Frag) (mg : Str → Option Value) (base : Heap) (N : List Str) (qual : Str) (scope : Scope) (f : Addr) (cd : Value) (A : Around) (outer : List Env) (s : Shared) (H : Hp) (E : XK) : Cx where
  prog := P
  w := w
  K := K
  mg := mg
  base := base
  A := A.deeper (envOfC qual scope s.heap.objs.size f cd)
  N := N
  s₀ := s
  H₀ := H
  env := envOfC qual scope s.heap.objs.size f cd
  outer := outer
  stack := envOfC qual scope s.heap.objs.size f cd :: outer
  ex := []
  calm := true
  fn := fun _ => true
  pn := []
  xe := fun e s' => wpAny (model P w) (A.deeper (envOfC qual scope s.heap.objs.size f cd)) (leaving (envOfC qual scope s.heap.objs.size f cd) e) (fun _ s'' => CX outer H s E e s'') (fun e' s'' => CX outer H s E e' s'') s'
theorem cell_has {sc : Scope} {n : Nat} {x : Str} (h : sc.names.lookup x = some .cell) : ∃ c, (cellsFrom n sc.names []).lookup x = some c := by
  have q := PySem.W.cellsFrom_some sc.names n [] (.inl h)
  exact Option.isSome_iff_exists.mp q
theorem inv_start {CX : CXT} {P : Program} {w : World} {K : PySem.W.Frag} {mg : Str → Option Value} {base : Heap} {N ps : List Str} {qual : Str} {scope : Scope} {f : Addr} {cd : Value} {A : Around} {outer : List Env} {s s1 : Shared} {H : Hp} {E : XK} {us : List Value} {vs : List V}
    (S : FnScope N ps scope) (hd : A.handled = none) (e0 : Env0 P w K mg base A outer s H) (hl : vs.length = ps.length) (r : Vals vs us)
    (x : InCallC s s.heap.objs.size (bindL (envOfC qual scope s.heap.objs.size f cd).kindOf (ps.zip us) fun _ => none) (cellsFrom (s.heap.objs.size + 1) scope.names []) (bindC (envOfC qual scope s.heap.objs.size f cd).kindOf (ps.zip us) fun _ => none) s1) :
    Inv (cxOf CX P w K mg base N qual scope f cd A outer s H E) [] (start N vs) H s1 := by
  have hpl : ps.length ≤ N.length := by have := congrArg List.length S.pre; rw [List.length_take] at this; omega
  obtain ⟨h1, tk, rfl, hk⟩ := x.done
  have noA : ∀ b : Addr, b ∉ (cxOf CX P w K mg base N qual scope f cd A outer s H E).ex := fun b z => absurd (show b ∈ ([] : List Addr) from z) (by simp)
  refine ⟨⟨e0.mod, S.kind, rfl, rfl, Nat.le_refl _, fun y z c h1 h2 => ?_, fun y hy => ?_, fun y c _ h => ?_, fun _ => hd, Around.frames_deeper e0.frames, .inr ⟨rfl, rfl⟩, fun b z => absurd z (noA b), e0.bs, e0.bsz, fun b _ _ => noA b, fun b z => absurd z (noA b), e0.funs, e0.frf⟩,
    rfl, e0.bare, Un.kept hk, ⟨_, x.toInCall.ns, fun i y v h1 h2 h3 => ?_⟩, fun y c h => ⟨_, x.cell y c h⟩, e0.hok.fresh (Nat.le_refl _), fun y c h => ?_, fun p hp => absurd (show p ∈ ([] : List (Addr × Obj)) from hp) (by simp), e0.hok.kept hk, ?_⟩
  · exact name_of_addr x.apart (PySem.mem_of_lookup h1) (PySem.mem_of_lookup h2)
  · have hy : scope.names.lookup y = some .cell ∨ scope.names.lookup y = some .free := hy
    rcases hy with hy | hy
    · exact cell_has hy
    · exact absurd rfl (S.nofree _ (PySem.mem_of_lookup hy))
  · exact Nat.le_of_lt (x.above y c (PySem.mem_of_lookup h))
  · have hi : i < vs.length := by
      unfold start at h2
      by_cases hi : i < vs.length
      · exact hi
      · rw [List.getElem?_append_right (by simpa using hi)] at h2
        rw [List.getElem?_replicate] at h2
        split at h2 <;> cases h2
    have ha : vs[i]? = some v := by
      unfold start at h2
      rw [List.getElem?_append_left (by simpa using hi), List.getElem?_map] at h2
      cases e : vs[i]? with
      | none => rw [e] at h2; cases h2
      | some a => rw [e] at h2; cases h2; rfl
    obtain ⟨u, hu, rv⟩ := r.get ha
    have hp : ps[i]? = some y := by
      rw [← S.pre, List.getElem?_take_of_lt (by omega)]; exact h1
    have ndP : ps.Nodup := by rw [← S.pre]; exact S.nd.sublist (List.take_sublist _ _)
    refine ⟨u, rv, ?_⟩
    rcases S.par y (List.mem_of_getElem? hp) with k | k
    · exact .inl ⟨k, bindL_get ndP hp hu k⟩
    · obtain ⟨c, e⟩ := cell_has (n := s.heap.objs.size + 1) k
      refine .inr ⟨.inl k, c, e, ?_⟩
      have q := x.cell y c e
      rw [bindC_get ndP hp hu (by show scope.names.lookup y ≠ _; rw [k]; decide)] at q
      exact q
  · exact e0.hok.fresh (Nat.le_of_lt (x.above y c (PySem.mem_of_lookup h)))
  · unfold start
    show _ = N.length
    rw [List.length_append, List.length_map, List.length_replicate]
    omega
theorem fn_of {CX : CXT} {P : Program} {w : World} {K : PySem.W.Frag} {mg : Str → Option Value} {base : Heap} {k : Nat} {f : Addr} {name qual : Str} {params : Arguments} {body : List Stmt} {scope : Scope} {dV kV doc pm cdv ct oc : Value} {an od : Option Addr}
    {osl : Array (Option Value)} {N ps : List Str} {sp : Sp} (lk : K.lookup f = some ⟨oc, od, .func (PySem.W.fnOf name qual params body scope dV kV doc pm an cdv ct), osl⟩) (hcd : PySem.W.codeIn K cdv qual = true) (S : FnScope N ps scope)
    (len : ∀ vs H Q E, sp vs H Q E → vs.length = ps.length)
    (hbody : ∀ (A : Around) (outer : List Env) (s : Shared) (H : Hp) (vs : List V) (Q : VK) (E : XK), Room k (A.deeper (envOfC qual scope s.heap.objs.size f cdv)) → sp vs H Q E →
      ∃ t, PSs (cxOf CX P w K mg base N qual scope f cdv A outer s H E) body t ∧ t { nx := fun _ H' => Q .non H', rt := Q } (start N vs) H) :
    FnOk P w K mg base CX (k + 1) f (PySem.W.fnOf name qual params body scope dV kV doc pm an cdv ct) ps sp := by
  refine ⟨len, fun A outer s H args us vs Q E hr e0 hb r hsp => ?_⟩
  have hl := len _ _ _ _ hsp
  have KX : K.In s.heap := e0.mod.kin.keeps fun b o e => (e0.bs b o e).1
  have lim : s.heap.NoLimit := e0.mod.nolimit.keeps fun b o e => (e0.bs b o e).1
  have hkind : ∀ y ∈ ps.zip us, scope.names.lookup y.1 = some .local ∨ (scope.names.lookup y.1 = some .cell ∧ ((cellsFrom (s.heap.objs.size + 1) scope.names []).lookup y.1).isSome = true) := fun ⟨n, v⟩ hy => by
    rcases S.par n (List.of_mem_zip hy).1 with q | q
    · exact .inl q
    · exact .inr ⟨q, PySem.W.cellsFrom_some _ _ _ (.inl q)⟩
  refine codeAny_call_function hr.depth (KX _ _ lk) rfl S.co S.gen rfl (PySem.W.codeRec_of KX hcd) (hb _ _ _ _ ?_)
  refine wpAny_newFunctionEnv_cells S.kind hkind fun env he s1 x => ?_
  subst he
  refine ⟨lim.keeps x.toInCall.keep, codeAny_func ?_⟩
  obtain ⟨t, ht, hq⟩ := hbody A outer s H vs Q E (hr.deeper _) hsp
  have I : Inv (cxOf CX P w K mg base N qual scope f cdv A outer s H E) [] (start N vs) H s1 := inv_start S hr.hd e0 hl r x
  refine wpAny_mono (ht [] s1 (start N vs) H _ I hq) (fun fl s' hs => ?_) fun e s' hs => hs
  have fin : ∀ {σ' : St} {H' : Hp} {v : V} {u : Value}, Inv (cxOf CX P w K mg base N qual scope f cdv A outer s H E) [] σ' H' s' → RelV v u → Q v H' → CE outer P w H s Q u s' :=
    fun {σ' H' v u} J rv q => ⟨v, H', J.os, J.bare, J.base, J.hok, rv, q⟩
  cases fl with
  | ret u =>
    obtain ⟨v, σ', H', J, rv, q⟩ := hs
    exact fin J rv q
  | next =>
    obtain ⟨σ', H', J, q⟩ := hs
    exact fin (v := V.non) (u := Value.none) J rfl q
  | brk =>
    obtain ⟨_, _, _, q⟩ := hs
    exact False.elim q
  | cont =>
    obtain ⟨_, _, _, q⟩ := hs
    exact False.elim q
end L2
namespace L2
open PySem PySem.Spec PyProof.Rows
section
variable {X : Cx} {x : Str} {p pos : Pos} {e : Expr} {es : List Expr} {t : TA} {id T : String} {r : List V → Hp → VK → Prop}
def tCB (r : List V → Hp → VK → Prop) (t : TA) : TE := fun σ H Q => t σ H fun vs H1 => r vs H1 Q
theorem pe_callB (hc : CallR X (.builtin id) r) (hg : Gl X x) (hm : X.mg x = none) (hv : bootBuiltins x = some (.builtin id)) (ha : PA X (e :: es) t) (hn : x ≠ "__name__" := by decide) (hdb : (x == ("__debug__" : Str)) = false := by decide)
    (he : starEach (e :: es) X.env = (false, eval e X.env) :: starEach es X.env := by rfl) (hpl : (backTo pos (starEach es X.env)).any (·.1) = false := by rfl) : PE X (.Call (.Name x p) (e :: es) [] pos) (tCB r t) := by
  intro pins s σ H Q I h
  refine wpAny_Call_Name_kw (ld_blt I hg hm hv ?_ hn hdb)
  exact PyProof.Rows.callWith_builtin1 (thn (ha pos pins s σ H _ I h) fun us s1 ⟨vs, H1, I1, r1, q1⟩ => hc pins s1 σ H1 vs us Q I1 r1 q1) he hpl
theorem pe_callTy (hc : CallR X (.type T) r) (hg : Gl X x) (hm : X.mg x = none) (hv : bootBuiltins x = some (.type T)) (ha : PA X (e :: es) t) (hn : x ≠ "__name__" := by decide) (hdb : (x == ("__debug__" : Str)) = false := by decide)
    (he : starEach (e :: es) X.env = (false, eval e X.env) :: starEach es X.env := by rfl) (hpl : (backTo pos (starEach es X.env)).any (·.1) = false := by rfl) : PE X (.Call (.Name x p) (e :: es) [] pos) (tCB r t) := by
  intro pins s σ H Q I h
  refine wpAny_Call_Name_kw (ld_blt I hg hm hv ?_ hn hdb)
  exact PyProof.Rows.callWith_type1 (thn (ha pos pins s σ H _ I h) fun us s1 ⟨vs, H1, I1, r1, q1⟩ => hc pins s1 σ H1 vs us Q I1 r1 q1) he hpl
end
end L2
namespace HT
open PySem PyProof.Rows
section
open PySem.SeqAt
open PySem.AutoSeq1 (wpAny_loadPart')
open PySem.MeetsSeq PySem.MeetsSeq2 PySem.MeetsSeq3
end
section
variable {prog : Program} {w : World} {A : Around} {E : Value → Shared → Prop} {s : Shared}
theorem cat_tup {t b : Addr} {vs ws : List Value} {Q : Value → Shared → Prop} (ht : IsTup s.heap t vs.toArray) (hb : IsTup s.heap b ws.toArray) (hv : vs ≠ [])
    (h1 : ws = [] → Q (.ref t) s) (h2 : ws ≠ [] → Q (.ref s.heap.objs.size) { s with heap := s.heap.push { cls := .type "tuple", data := .seq (vs ++ ws).toArray } })
    (hsz : vs.length + ws.length ≤ sizeLine) : wpAny (model prog w) A (binaryOp .Add (.ref t) (.ref b)) Q E s := by
  obtain ⟨⟨cls, dd, data, sl⟩, ho, hc, n, hd⟩ := id ht
  obtain ⟨⟨cls2, dd2, data2, sl2⟩, ho2, hc2, n2, hd2⟩ := id hb
  simp only at hc hd hc2 hd2
  subst hc hd hc2 hd2
  have e : vs.toArray ++ ws.toArray = (vs ++ ws).toArray := by simp
  by_cases hw : ws = []
  · exact concat_meets ⟨_, ho, rfl⟩ ⟨_, ho2, rfl⟩ noFill_tuple_add seq_tuple_add PySem.F.slot_tuple_add PySem.F.entry_tuple_add (PySem.F.args_tuple_add_2 _ _)
      (tuple_addW1 t b vs.toArray ws.toArray n n2 dd dd2 sl sl2 (by simpa using hv) (by simp [hw])) ⟨ho, ho2, h1 hw⟩
  · refine concat_meets ⟨_, ho, rfl⟩ ⟨_, ho2, rfl⟩ noFill_tuple_add seq_tuple_add PySem.F.slot_tuple_add PySem.F.entry_tuple_add (PySem.F.args_tuple_add_2 _ _)
      (tuple_addW2 t b vs.toArray ws.toArray n n2 dd dd2 sl sl2 (by simpa using hv) (by simpa using hw) (by rw [List.size_toArray, List.size_toArray]; exact hsz)) ⟨ho, ho2, ?_⟩
    rw [e]
    exact h2 hw
def sIx (n d : Nat) : Option Int → Nat
  | none => d
  | some v => if v < 0 then (v + (n : Int)).toNat else min v.toNat n
theorem sIx_nat (n d k : Nat) : sIx n d (some (k : Int)) = min k n := by
  show (if (k : Int) < 0 then ((k : Int) + (n : Int)).toNat else min (k : Int).toNat n) = min k n
  rw [if_neg (by omega), Int.toNat_natCast]
theorem sIx_le (n d : Nat) (hd : d ≤ n) (o : Option Int) : sIx n d o ≤ n := by
  cases o with
  | none => exact hd
  | some v =>
    show (if v < 0 then (v + (n : Int)).toNat else min v.toNat n) ≤ n
    by_cases hv : v < 0
    · rw [if_pos hv]; omega
    · rw [if_neg hv]; exact Nat.min_le_right _ _
theorem clip_eq (v : Int) (n d : Nat) : (if v < 0 then max (v + (n : Int)) 0 else min v (n : Int)) = ((sIx n d (some v) : Nat) : Int) := by
  show (if v < 0 then max (v + (n : Int)) 0 else min v (n : Int)) = (((if v < 0 then (v + (n : Int)).toNat else min v.toNat n) : Nat) : Int)
  by_cases hv : v < 0
  · simp only [if_pos hv]; omega
  · simp only [if_neg hv]; omega
theorem adjust_gen (lo hi : Option Int) (n : Nat) : Builtin.Slice.sliceAdjust lo hi 1 (n : Int) = (((sIx n 0 lo : Nat) : Int), ((sIx n n hi : Nat) : Int)) := by
  have h1 : ¬ ((1 : Int) < 0) := by omega
  unfold Builtin.Slice.sliceAdjust
  simp only [h1, if_false]
  refine Prod.ext ?_ ?_
  · cases lo with
    | none => rfl
    | some v => exact clip_eq v n 0
  · cases hi with
    | none => rfl
    | some v => exact clip_eq v n n
theorem places_gen (i j : Nat) : Builtin.Slice.slicePlaces (i : Int) (j : Int) 1 = j - i := by
  unfold Builtin.Slice.slicePlaces
  have h1 : (1 : Int) > 0 := by omega
  simp only [h1, if_true, Int.ediv_one]
  split <;> omega
theorem slicePart_ {v : Value} {o : Option Int} {Q : Option Int → Shared → Prop} (p : IsPart v o) (h : Q o s) : wpAny (model prog w) A (Builtin.Slice.slicePartIndex v) Q E s := by
  cases p with
  | none => exact slicePart_none h
  | int i t => exact slicePart_int h
theorem sliceApplied_gen {sl : Addr} {vl vu : Value} {lo hi : Option Int} {n : Nat} {Q : Int × Int × Nat → Shared → Prop} (hs : s.heap.IsSliceOf sl vl vu .none) (pl : IsPart vl lo) (pu : IsPart vu hi)
    (h : Q (((sIx n 0 lo : Nat) : Int), 1, sIx n n hi - sIx n 0 lo) s) : wpAny (model prog w) A (Builtin.Slice.sliceApplied (.ref sl) (pure (n : Int))) Q E s := by
  obtain ⟨os, hos, hcs, hds⟩ := id hs
  unfold Builtin.Slice.sliceApplied Builtin.Slice.sliceFields
  refine wpAny_bind (wpAny_bind (wpAny_field hos hds (x := vl) rfl (wpAny_bind (wpAny_field hos hds (x := vu) rfl (wpAny_bind (wpAny_field hos hds (x := .none) rfl (wpAny_pure ?_)))))))
  refine wpAny_bind (slicePart_none ?_)
  show wpAny _ _ (if ((1 : Int) == 0) = true then _ else _) _ _ s
  rw [if_neg (by decide)]
  refine wpAny_bind (slicePart_ pl (wpAny_bind (slicePart_ pu (wpAny_bind (wpAny_pure ?_)))))
  show wpAny _ _ (match Builtin.Slice.sliceAdjust lo hi 1 (n : Int) with | (lo, hi) => pure (lo, (1 : Int), Builtin.Slice.slicePlaces lo hi 1)) _ _ s
  rw [adjust_gen lo hi n]
  show wpAny _ _ (pure (((sIx n 0 lo : Nat) : Int), (1 : Int), Builtin.Slice.slicePlaces ((sIx n 0 lo : Nat) : Int) ((sIx n n hi : Nat) : Int) 1)) _ _ s
  rw [places_gen]
  exact wpAny_pure h
theorem pick_gen (xs : Array Value) (i k : Nat) : ((List.range k).filterMap fun (m : Nat) => xs[((i : Int) + (m : Int) * 1).toNat]?).toArray = ((xs.toList.drop i).take k).toArray := by
  have e : (fun (m : Nat) => xs[((i : Int) + (m : Int) * 1).toNat]?) = fun m => xs[i + m]? := by
    funext m
    have : ((i : Int) + (m : Int) * 1).toNat = i + m := by omega
    rw [this]
  rw [e]
  have := pick_run xs i k
  rw [List.filterMap_map] at this
  have e2 : ((fun x => xs[x]?) ∘ fun x => i + x) = fun m => xs[i + m]? := rfl
  rw [e2] at this
  rw [this]
theorem getItem_tuple_cut {t sl : Addr} {items : Array Value} {vl vu : Value} {lo hi : Option Int} {Q : Value → Shared → Prop} (ht : IsTup s.heap t items) (hs : s.heap.IsSliceOf sl vl vu .none) (pl : IsPart vl lo) (pu : IsPart vu hi)
    (hw : ¬ (sIx items.size 0 lo = 0 ∧ sIx items.size items.size hi = items.size))
    (h : Q (.ref s.heap.objs.size) { s with heap := s.heap.push { cls := .type "tuple", data := .seq ((items.toList.drop (sIx items.size 0 lo)).take (sIx items.size items.size hi - sIx items.size 0 lo)).toArray } })
    (hsz : items.size ≤ sizeLine) : wpAny (model prog w) A (getItem (.ref t) (.ref sl)) Q E s := by
  have htake : sizeOk (.seq ((items.toList.drop (sIx items.size 0 lo)).take (sIx items.size items.size hi - sIx items.size 0 lo)).toArray) := by
    show ((items.toList.drop (sIx items.size 0 lo)).take (sIx items.size items.size hi - sIx items.size 0 lo)).toArray.size ≤ sizeLine
    rw [List.size_toArray, List.length_take, List.length_drop, Array.length_toList]
    omega
  have hj : sIx items.size items.size hi ≤ items.size := sIx_le _ _ (Nat.le_refl _) hi
  obtain ⟨os, hos, hcs, hds⟩ := id hs
  have hTs : s.TypeIs (.ref sl) "slice" := ⟨os, hos, hcs⟩
  unfold getItem
  try with_reducible refine wpAny_holding ?_
  first | refine wpAny_bind (wpAny_pure ?_) | skip
  refine wpAny_bind (wpAny_sequenceKey ht.typeIs (by decide) ?_)
  refine wpAny_bind (wpAny_callSpecial?_slot (name := Str.ofString "__getitem__") ht.typeIs PyProof.Rows.slot_tuple_getitem
    (wpAny_call_entry PyProof.Rows.slot_tuple_getitem ht.typeIs entry_tuple_getitem ?_ (args_tuple_getitem _ _)))
  show wpAny _ _ (Builtin.Tuple.tupleItemsOf (.ref t) >>= _) _ _ s
  refine wpAny_bind (tupleItemsOf_ ht ?_)
  refine wpAny_bind (wpAny_typeOf hTs ?_)
  rw [if_pos (by decide)]
  refine wpAny_bind (sliceApplied_gen hs pl pu ?_)
  have hno : ¬ ((((sIx items.size 0 lo : Nat) : Int) == 0 && (1 : Int) == 1 && (sIx items.size items.size hi - sIx items.size 0 lo) == items.size) = true) := by
    intro q
    rw [Bool.and_eq_true, Bool.and_eq_true] at q
    have q1 : ((sIx items.size 0 lo : Nat) : Int) = 0 := eq_of_beq q.1.1
    have q2 : sIx items.size items.size hi - sIx items.size 0 lo = items.size := eq_of_beq q.2
    exact hw ⟨by omega, by omega⟩
  show wpAny _ _ (if (((sIx items.size 0 lo : Nat) : Int) == 0 && (1 : Int) == 1 && (sIx items.size items.size hi - sIx items.size 0 lo) == items.size) = true then _ else _) _ _ s
  rw [if_neg hno, pick_gen]
  first
    | exact wpAny_bind (m := Builtin.Tuple.tupleExact _) (wpAny_newObj_type (wpAny_pure ⟨_, rfl, wpAny_pure h⟩) htake)
    | exact wpAny_bind (m := Builtin.Tuple.tupleExact _) (wpAny_newObj_type (wpAny_bind (wpAny_pure (wpAny_pure ⟨_, rfl, wpAny_pure h⟩))) htake)
    | exact wpAny_bind (wpAny_bind (m := Builtin.Tuple.tupleExact _) (wpAny_newObj_type (wpAny_pure (wpAny_pure ⟨_, rfl, wpAny_pure h⟩)) htake))
    | exact wpAny_bind (wpAny_bind (m := Builtin.Tuple.tupleExact _) (wpAny_newObj_type (wpAny_pure ⟨_, rfl, wpAny_pure h⟩) htake))
end
end HT
namespace L2
open PySem PySem.Spec PyProof.Rows
abbrev TO := St → Hp → (Option Int → Hp → Prop) → Prop
def PO (X : Cx) (e : Option Expr) (t : TO) : Prop :=
  ∀ (pins : List (Addr × Obj)) (s : Shared) (σ : St) (H : Hp) (Q : Option Int → Hp → Prop), Inv X pins σ H s → t σ H Q →
    wpAny (model X.prog X.w) X.A (evalPart e X.env) (fun u s' => ∃ o H', Inv X pins σ H' s' ∧ IsPart u o ∧ Q o H') X.xe s
def tNoPart : TO := fun _ H Q => Q none H
def tPart (t : TE) : TO := fun σ H Q => t σ H fun x H1 => ∃ i, x = .int i ∧ Q (some i) H1
section
variable {X : Cx} {e : Expr} {te : TE} {lo hi : Option Expr} {tl th : TO} {pos p2 : Pos}
theorem po_none : PO X none tNoPart := by
  intro pins s σ H Q I h
  rw [evalPart_none]
  exact wpAny_pure ⟨none, H, I, .none, h⟩
theorem po_some (h : PE X e te) : PO X (some e) (tPart te) := by
  intro pins s σ H Q I hw
  rw [evalPart_some]
  refine thn (h pins s σ H _ I hw) fun u s1 ⟨x, H1, I1, r1, q1⟩ => ?_
  obtain ⟨i, rfl, q⟩ := q1
  obtain ⟨t, rfl⟩ := r1
  exact ⟨some i, H1, I1, .int i t, q⟩
def SlR (X : Cx) (r : V → Option Int → Option Int → Hp → VK → Prop) : Prop :=
  ∀ (pins : List (Addr × Obj)) (s : Shared) (σ : St) (H : Hp) (x : V) (v vl vu : Value) (lo hi : Option Int) (sl : Addr) (Q : VK), Inv X pins σ H s → RelV x v → s.heap.IsSliceOf sl vl vu .none → IsPart vl lo → IsPart vu hi → r x lo hi H Q →
    ∃ T id, typeLookup (.type T) "__getitem__" = pure (some (.builtin id)) ∧ s.TypeIs v T ∧ wpAny (model X.prog X.w) X.A (getItem v (.ref sl)) (EP X pins σ Q) X.xe s
theorem SlR.or {r r' : V → Option Int → Option Int → Hp → VK → Prop} (h : SlR X r) (h' : SlR X r') : SlR X (fun x lo hi H Q => r x lo hi H Q ∨ r' x lo hi H Q) := by
  intro pins s σ H x v vl vu lo hi sl Q I rx hs pl pu q
  rcases q with q | q
  · exact h pins s σ H x v vl vu lo hi sl Q I rx hs pl pu q
  · exact h' pins s σ H x v vl vu lo hi sl Q I rx hs pl pu q
def tSl (r : V → Option Int → Option Int → Hp → VK → Prop) (te : TE) (tl th : TO) : TE := fun σ H Q => te σ H fun x H1 => tl σ H1 fun l H2 => th σ H2 fun u H3 => r x l u H3 Q
theorem pe_slice {r : V → Option Int → Option Int → Hp → VK → Prop} (hr : SlR X r) (he : PE X e te) (hl : PO X lo tl) (hu : PO X hi th) : PE X (.Subscript e (.Slice lo hi none p2) pos) (tSl r te tl th) := by
  intro pins s σ H Q I h
  refine Subscript_ (thn (he pins s σ H _ I h) fun v s1 ⟨x, H1, I1, r1, q1⟩ => ?_)
  refine wpAny_Slice (thn (hl pins s1 σ H1 _ I1 q1) fun vl s2 ⟨l, H2, I2, pl, q2⟩ => thn (hu pins s2 σ H2 _ I2 q2) fun vu s3 ⟨u, H3, I3, pu, q3⟩ => ?_)
  rw [evalPart_none]
  refine wpAny_pure ?_
  have I4 : Inv X pins σ H3 { s3 with heap := s3.heap.push { cls := .type "slice", data := .fields #[vl, vu, .none] } } := I3.kept (t' := s3.toks) fun b ob q => Heap.get?_push_of_some _ q
  obtain ⟨T, id, hT, ht, hg⟩ := hr pins { s3 with heap := s3.heap.push { cls := .type "slice", data := .fields #[vl, vu, .none] } } σ H3 x v vl vu l u s3.heap.objs.size Q I4 r1 (Heap.IsSliceOf.new ..) pl pu q3
  show wpAny (model X.prog X.w) X.A (subscriptTail e (.Slice lo hi none p2) v (.ref s3.heap.objs.size)) (EP X pins σ Q) X.xe { s3 with heap := s3.heap.push { cls := .type "slice", data := .fields #[vl, vu, .none] } }
  exact tail_any (ops := [.ref s3.heap.objs.size, v]) ht hT hg (by with_unfolding_all rfl)
def cutV (xs : List V) (lo hi : Option Int) : List V := (xs.drop (HT.sIx xs.length 0 lo)).take (HT.sIx xs.length xs.length hi - HT.sIx xs.length 0 lo)
theorem cutV_length (xs : List V) (lo hi : Option Int) : (cutV xs lo hi).length ≤ xs.length := by
  unfold cutV
  rw [List.length_take, List.length_drop]
  omega
def rSlT (K : PySem.W.Frag) : V → Option Int → Option Int → Hp → VK → Prop := fun x lo hi H Q => ∃ a xs, x = .ref a ∧ SqT K H a xs ∧
  ¬ (HT.sIx xs.length 0 lo = 0 ∧ HT.sIx xs.length xs.length hi = xs.length) ∧ ∀ p, H p = none → Q (.ref p) (upd H p (.tup (cutV xs lo hi)))
theorem sl_tup : SlR X (rSlT X.K) := by
  intro pins s σ H x v vl vu lo hi sl Q I rx hs pl pu h
  obtain ⟨a, xs, rfl, hx, hw, q⟩ := h
  cases rx
  obtain ⟨its, r, ht, hz⟩ := I.tuple hx
  have hlen : its.toArray.size = xs.length := by rw [List.size_toArray]; exact r.length.symm
  refine ⟨"tuple", _, PyProof.Rows.slot_tuple_getitem.lookup, ht.typeIs, ?_⟩
  refine HT.getItem_tuple_cut ht hs pl pu (by rw [hlen]; exact hw) ?_ (by rw [hlen]; exact hz)
  rw [hlen]
  refine ⟨.ref s.heap.objs.size, _, I.laid (t' := s.toks) (o := .tup (cutV xs lo hi)) (fun b ob q => Heap.get?_push_of_some _ q) (Nat.le_refl _) ?_, rfl, q _ (I.hok.fresh (Nat.le_refl _))⟩
  exact ⟨Nat.le_trans (cutV_length xs lo hi) hz, _, (r.drop (HT.sIx xs.length 0 lo)).take (HT.sIx xs.length xs.length hi - HT.sIx xs.length 0 lo), IsTup.new _ _⟩
def rCatT (K : PySem.W.Frag) : R2 := fun x y H Q => ∃ a b xs ys, x = .ref a ∧ y = .ref b ∧ SqT K H a xs ∧ SqT K H b ys ∧ xs ≠ [] ∧ xs.length + ys.length ≤ sizeLine ∧
  (ys = [] → Q (.ref a) H) ∧ (ys ≠ [] → ∀ p, H p = none → Q (.ref p) (upd H p (.tup (xs ++ ys))))
theorem Vals.nil_iff {xs : List V} {us : List Value} (r : Vals xs us) : us = [] ↔ xs = [] := by
  cases r with
  | nil => simp
  | cons _ _ => simp
theorem op_catT : OpR X (binaryOp .Add) (rCatT X.K) := by
  intro pins s σ H x y v u Q I rx ry h
  obtain ⟨a, b, xs, ys, rfl, rfl, ha, hb, hx, hz, q1, q2⟩ := h
  cases rx
  cases ry
  obtain ⟨its, r1, p1, _⟩ := I.tuple ha
  obtain ⟨its2, r2, p2, _⟩ := I.tuple hb
  refine HT.cat_tup p1 p2 (fun z => hx (r1.nil_iff.mp z)) (fun z => ⟨.ref a, H, I, rfl, q1 (r2.nil_iff.mp z)⟩) (fun z => ?_) (by rw [← r1.length, ← r2.length]; exact hz)
  refine ⟨.ref s.heap.objs.size, _, I.laid (t' := s.toks) (o := .tup (xs ++ ys)) (fun b ob q => Heap.get?_push_of_some _ q) (Nat.le_refl _) ?_, rfl, q2 (fun w => z (r2.nil_iff.mpr w)) _ (I.hok.fresh (Nat.le_refl _))⟩
  exact ⟨by rw [List.length_append]; exact hz, _, r1.append r2, IsTup.new _ _⟩
end
end L2
namespace L2
open PySem PySem.Spec PyProof.Rows
def ixN (n : Nat) (i : Int) : Option Nat := if 0 ≤ i then (if i < n then some i.toNat else none) else if -(n : Int) ≤ i then some (i + n).toNat else none
def atI {α : Type} (xs : List α) (i : Int) : Option α := (ixN xs.length i).bind fun j => xs[j]?
theorem ixN_seq {n : Nat} {i : Int} {j : Nat} (h : ixN n i = some j) : seqIndex? i n = some j ∧ j < n ∧ -(n : Int) ≤ i ∧ i < n := by
  unfold ixN at h
  by_cases h0 : 0 ≤ i
  · rw [if_pos h0] at h
    by_cases h1 : i < n
    · rw [if_pos h1] at h
      have e : i.toNat = j := Option.some.inj h
      exact ⟨by rw [seqIndex_of h0 h1, e], by omega, by omega, h1⟩
    · rw [if_neg h1] at h; cases h
  · rw [if_neg h0] at h
    by_cases h1 : -(n : Int) ≤ i
    · rw [if_pos h1] at h
      have e : (i + n).toNat = j := Option.some.inj h
      exact ⟨by rw [seqIndex_neg (by omega) h1, e], by omega, h1, by omega⟩
    · rw [if_neg h1] at h; cases h
theorem atI_get {α : Type} {xs : List α} {i : Int} {v : α} (h : atI xs i = some v) : ∃ j, seqIndex? i xs.length = some j ∧ xs[j]? = some v ∧ j < xs.length ∧ -(xs.length : Int) ≤ i ∧ i < xs.length := by
  unfold atI at h
  cases e : ixN xs.length i with
  | none => rw [e] at h; cases h
  | some j =>
    rw [e] at h
    obtain ⟨h1, h2, h3, h4⟩ := ixN_seq e
    exact ⟨j, h1, h, h2, h3, h4⟩
theorem atI_nat {α : Type} {xs : List α} {j : Nat} {v : α} (h : xs[j]? = some v) : atI xs (j : Int) = some v := by
  have hj : j < xs.length := (List.getElem?_eq_some_iff.mp h).1
  have e : ixN xs.length (j : Int) = some j := by
    unfold ixN
    rw [if_pos (by omega), if_pos (by omega)]; simp
  unfold atI; rw [e]; exact h
def PlainIx (b : Expr) : Prop := ∀ o i, subscripted b false o i = operate [o, i] (getItem o i)
def IxR (X : Cx) (r : R2) : Prop :=
  ∀ (value slice : Expr) (pins : List (Addr × Obj)) (s : Shared) (σ : St) (H : Hp) (x y : V) (v u : Value) (Q : VK), Inv X pins σ H s → RelV x v → RelV y u → r x y H Q →
    subscripted slice false v u = operate [v, u] (getItem v u) → wpAny (model X.prog X.w) X.A (subscriptTail value slice v u) (EP X pins σ Q) X.xe s
def MtR (X : Cx) (id : String) (r : V → List V → Hp → VK → Prop) : Prop :=
  ∀ (pins : List (Addr × Obj)) (s : Shared) (σ : St) (H : Hp) (x : V) (xs : List V) (v : Value) (us : List Value) (Q : VK), Inv X pins σ H s → RelV x v → Vals xs us → r x xs H Q →
    wpAny (model X.prog X.w) X.A (call (.builtin id) (v :: us)) (EP X pins σ Q) X.xe s
section
variable {X : Cx} {a b : Expr} {ta tb : TE} {pos : Pos}
theorem IxR.or {r r' : R2} (h : IxR X r) (h' : IxR X r') : IxR X (fun x y H Q => r x y H Q ∨ r' x y H Q) := by
  intro value slice pins s σ H x y v u Q I rx ry q hs
  rcases q with q | q
  · exact h value slice pins s σ H x y v u Q I rx ry q hs
  · exact h' value slice pins s σ H x y v u Q I rx ry q hs
theorem MtR.or {id : String} {r r' : V → List V → Hp → VK → Prop} (h : MtR X id r) (h' : MtR X id r') : MtR X id (fun x xs H Q => r x xs H Q ∨ r' x xs H Q) := by
  intro pins s σ H x xs v us Q I rx rs q
  rcases q with q | q
  · exact h pins s σ H x xs v us Q I rx rs q
  · exact h' pins s σ H x xs v us Q I rx rs q
theorem pe_ix {r : R2} (hr : IxR X r) (ha : PE X a ta) (hb : PE X b tb) (hs : PlainIx b) : PE X (.Subscript a b pos) (tOp r ta tb) := by
  intro pins s σ H Q I h
  exact Subscript_ (binT ha hb I h fun v u s2 x y H2 I2 rx ry q => hr a b pins s2 σ H2 x y v u Q I2 rx ry q (hs _ _))
def rIxL (K : PySem.W.Frag) : R2 := fun x y H Q => ∃ p xs i v, x = .ref p ∧ y = .int i ∧ SqL K H p xs ∧ atI xs i = some v ∧ Q v H
def rIxT (K : PySem.W.Frag) : R2 := fun x y H Q => ∃ p xs i v, x = .ref p ∧ y = .int i ∧ SqT K H p xs ∧ atI xs i = some v ∧ Q v H
def rIxS : R2 := fun x y H Q => ∃ z i c, x = .str z ∧ y = .int i ∧ z.length ≤ sizeLine ∧ atI z.cps.toList i = some c ∧ Q (.str ⟨#[c]⟩) H
theorem ix_list : IxR X (rIxL X.K) := by
  intro value slice pins s σ H x y v u Q I rx ry h hs
  obtain ⟨p, xs, i, z, rfl, rfl, hq, he, q⟩ := h
  cases rx
  obtain ⟨t, rfl⟩ := ry
  obtain ⟨its, r, pl, hz⟩ := I.list hq
  obtain ⟨j, h1, h2, h3, h4, h5⟩ := atI_get he
  obtain ⟨w, ew, rw'⟩ := r.get h2
  have hl := r.length
  have hn := line63
  have fin : EP X pins σ Q w s := ⟨z, H, I, rw', q⟩
  by_cases h0 : 0 ≤ i
  · have hj : i.toNat = j := by
      rw [seqIndex_of h0 h5] at h1
      exact Option.some.inj h1
    exact item_listR pl.isList h0 (by omega) (by rw [hj]; simpa using ew) fin hs
  · have hj : (i + (its.toArray.size : Int)).toNat = j := by
      rw [seqIndex_neg (by omega) h4] at h1
      rw [List.size_toArray, ← hl]
      exact Option.some.inj h1
    exact subscriptTail_builtinR (x := w) pl.isList.typeIs slot_list_getitem.lookup
      (wpAny_getItem_list_neg (Q := fun r s' => r = w ∧ EP X pins σ Q r s') pl.isList (by omega) (by rw [List.size_toArray] <;> omega) (by omega) (by rw [hj]; simpa using ew) ⟨rfl, fin⟩) hs
theorem ix_tup : IxR X (rIxT X.K) := by
  intro value slice pins s σ H x y v u Q I rx ry h hs
  obtain ⟨p, xs, i, z, rfl, rfl, hq, he, q⟩ := h
  cases rx
  obtain ⟨t, rfl⟩ := ry
  obtain ⟨its, r, pl, hz⟩ := I.tuple hq
  obtain ⟨j, h1, h2, h3, h4, h5⟩ := atI_get he
  obtain ⟨w, ew, rw'⟩ := r.get h2
  have hl := r.length
  have hn := line63
  have fin : EP X pins σ Q w s := ⟨z, H, I, rw', q⟩
  exact subscriptTail_builtinR (x := w) pl.typeIs slot_tuple_getitem.lookup
    (getItem_tuple (j := j) (Q := fun r s' => r = w ∧ EP X pins σ Q r s') pl (by omega) (by omega) (by rw [List.size_toArray, ← hl]; exact h1) (by simpa using ew) ⟨rfl, fin⟩) hs
theorem ix_str : IxR X rIxS := by
  intro value slice pins s σ H x y v u Q I rx ry h hs
  obtain ⟨z, i, c, rfl, rfl, hz, he, q⟩ := h
  obtain ⟨t, rfl⟩ := rx
  obtain ⟨t', rfl⟩ := ry
  obtain ⟨j, h1, h2, h3, h4, h5⟩ := atI_get he
  have hl : z.cps.toList.length = z.length := by simp [Str.length]
  rw [hl] at h1 h4 h5
  have hn := line63
  exact tail_any (typeIs_str s z t) slot_str_getitem.lookup (getItem_str (c := c) (by
    have e1 : decide (i < -(2 ^ 63 : Int)) = false := decide_eq_false (by omega)
    have e2 : decide (i ≥ 2 ^ 63) = false := decide_eq_false (by omega)
    rw [e1, e2, Bool.or_false]) (by rw [h1]; simpa using h2) ⟨.str ⟨#[c]⟩, H, I.tok _, ⟨_, rfl⟩, q⟩) hs
def rIx (K : PySem.W.Frag) : R2 := fun x y H Q => rIxL K x y H Q ∨ rIxT K x y H Q ∨ rIxS x y H Q
theorem ix_seq : IxR X (rIx X.K) := ix_list.or (ix_tup.or ix_str)
theorem mapSeq_set (its : List Value) (n j : Nat) (u : Value) : Obj.mapSeq (·.setIfInBounds j u) { cls := .type "list", data := .seq its.toArray n } = { cls := .type "list", data := .seq (its.set j u).toArray n } := by
  simp [Obj.mapSeq]
theorem Inv.lst {pins : List (Addr × Obj)} {σ : St} {H : Hp} {s : Shared} {p : Addr} {xs : List V} (I : Inv X pins σ H s) (h : H p = some (.lst xs)) :
    ∃ (its : List Value) (n : Nat), Vals xs its ∧ s.heap.get? p = some { cls := .type "list", data := .seq its.toArray n } ∧ xs.length ≤ sizeLine := by
  obtain ⟨z, its, n, r, e⟩ := I.hok p _ h
  exact ⟨its, n, r, e, z⟩
theorem Inv.lstUpd {pins : List (Addr × Obj)} {σ : St} {H : Hp} {s : Shared} {p : Addr} {xs ys : List V} {its its' : List Value} {n n' : Nat} {f : Obj → Obj} (I : Inv X pins σ H s) (h : H p = some (.lst xs))
    (ho : s.heap.get? p = some { cls := .type "list", data := .seq its.toArray n }) (hf : f { cls := .type "list", data := .seq its.toArray n } = { cls := .type "list", data := .seq its'.toArray n' }) (r : Vals ys its') (hz : ys.length ≤ sizeLine) (t : Nat) :
    Inv X pins σ (upd H p (.lst ys)) { s with heap := s.heap.update p f, toks := t } := by
  have e : (s.heap.update p f).get? p = some { cls := .type "list", data := .seq its'.toArray n' } := by
    rw [Heap.get?_update_self f ho (by rw [hf] <;> rfl), hf]
  refine I.write (x := p) (e := p) (by rw [h]; trivial) (.inl rfl) (fun b u hb q => (Heap.get?_update_other _ _ (Ne.symm hb)).trans q) ⟨_, e⟩ ?_
  exact ⟨hz, its', n', r, e⟩
def rSetL : V → V → V → Hp → (Hp → Prop) → Prop := fun o i v H Q => ∃ p xs k j, o = .ref p ∧ i = .int k ∧ H p = some (.lst xs) ∧ ixN xs.length k = some j ∧ Q (upd H p (.lst (xs.set j v)))
theorem set_list : PSet X rSetL := by
  intro pins s σ H o i v ov iv u Q I ro ri rv h
  obtain ⟨p, xs, k, j, rfl, rfl, hp, hj, q⟩ := h
  cases ro
  obtain ⟨t, rfl⟩ := ri
  obtain ⟨its, n, r, ho, hz⟩ := I.lst hp
  obtain ⟨h1, h2, h3, h4⟩ := ixN_seq hj
  have hl := r.length
  have hn := line63
  have I' : Inv X pins σ (upd H p (.lst (xs.set j v))) { s with heap := s.heap.update p (Obj.mapSeq (·.setIfInBounds j u)) } :=
    I.lstUpd hp ho (mapSeq_set its n j u) (r.set rv j) (by rw [List.length_set]; exact hz) s.toks
  by_cases h0 : 0 ≤ k
  · have hk : k.toNat = j := by
      rw [seqIndex_of h0 h4] at h1
      exact Option.some.inj h1
    exact PySem.W.ki_setAt ho h0 (by omega) (by rw [List.size_toArray, ← hl]; exact h4) (by rw [hk]; exact ⟨_, I', q⟩)
  · have hk : (k + (its.toArray.size : Int)).toNat = j := by
      rw [seqIndex_neg (by omega) h3] at h1
      rw [List.size_toArray, ← hl]
      exact Option.some.inj h1
    exact PySem.W.ki_setBack ho (by omega) (by rw [List.size_toArray, ← hl]; exact h3) (by omega) (by rw [hk]; exact ⟨_, I', q⟩)
theorem slice_bounds (lo hi : Option Int) (n : Nat) : (sliceBounds lo hi none n).1 = ((HT.sIx n 0 lo : Nat) : Int) ∧ (sliceBounds lo hi none n).2.1 = ((HT.sIx n n hi : Nat) : Int) ∧ (sliceBounds lo hi none n).2.2 = 1 := by
  refine ⟨?_, ?_, rfl⟩
  · cases lo with
    | none => simp [sliceBounds, HT.sIx]
    | some i =>
      simp only [sliceBounds, HT.sIx, Option.getD_none, show (1 : Int) > 0 by decide, if_true]
      by_cases h : i < 0
      · simp only [h, if_true] <;> omega
      · simp only [h, if_false] <;> omega
  · cases hi with
    | none => simp [sliceBounds, HT.sIx]
    | some i =>
      simp only [sliceBounds, HT.sIx, Option.getD_none, show (1 : Int) > 0 by decide, if_true]
      by_cases h : i < 0
      · simp only [h, if_true] <;> omega
      · simp only [h, if_false] <;> omega
theorem slicePick_cut (its : List Value) (lo hi : Option Int) : slicePick its.toArray lo hi none = ((its.drop (HT.sIx its.length 0 lo)).take (HT.sIx its.length its.length hi - HT.sIx its.length 0 lo)).toArray := by
  obtain ⟨h1, h2, h3⟩ := slice_bounds lo hi its.toArray.size
  unfold slicePick
  rw [h1, h2, h3]
  simp only [sliceRange_one, pick_run, List.size_toArray] <;> rfl
def rSlL (K : PySem.W.Frag) : V → Option Int → Option Int → Hp → VK → Prop := fun x lo hi H Q => ∃ a xs, x = .ref a ∧ SqL K H a xs ∧ ∀ p, H p = none → Q (.ref p) (upd H p (.lst (cutV xs lo hi)))
theorem sl_list : SlR X (rSlL X.K) := by
  intro pins s σ H x v vl vu lo hi sl Q I rx hs pl pu h
  obtain ⟨a, xs, rfl, hx, q⟩ := h
  cases rx
  obtain ⟨its, r, ht, hz⟩ := I.list hx
  have hlen := r.length
  refine ⟨"list", _, slot_list_getitem.lookup, ht.isList.typeIs, ?_⟩
  refine wpAny_getItem_list_slice ht.isList hs pl pu .none (by simp) ?_ (by rw [List.size_toArray] <;> omega)
  rw [slicePick_cut, ← hlen]
  refine ⟨.ref s.heap.objs.size, _, I.laid (t' := s.toks) (o := .lst (cutV xs lo hi)) (fun b ob q => Heap.get?_push_of_some _ q) (Nat.le_refl _) ?_, rfl, q _ (I.hok.fresh (Nat.le_refl _))⟩
  exact ⟨Nat.le_trans (cutV_length xs lo hi) hz, _, 0, (r.drop (HT.sIx xs.length 0 lo)).take (HT.sIx xs.length xs.length hi - HT.sIx xs.length 0 lo), Heap.get?_push_size _ rfl⟩
def flatV : V → Bool
  | .non => true
  | .bl _ => true
  | .int _ => true
  | .str _ => true
  | _ => false
def eqV : V → V → Bool
  | .non, .non => true
  | .bl a, .bl b => a == b
  | .bl a, .int b => (if a then 1 else 0) == b
  | .int a, .bl b => a == (if b then 1 else 0)
  | .int a, .int b => a == b
  | .str a, .str b => a == b
  | _, _ => false
theorem eqAt_V {A : Around} {s : Shared} {y x : V} {u v : Value} (ry : RelV y u) (rx : RelV x v) (fy : flatV y = true) (fx : flatV x = true) : SeqAt.EqAt A s u v (eqV y x) := by
  cases y with
  | non =>
    cases ry
    cases x with
    | non => cases rx; exact SeqAt.EqAt.same _
    | bl b => cases rx; exact SeqAt.EqAt.none_bool b
    | int b => obtain ⟨t, rfl⟩ := rx; exact SeqAt.EqAt.none_int b t
    | str b => obtain ⟨t, rfl⟩ := rx; exact SeqAt.EqAt.none_str b t
    | _ => exact absurd (show false = true from fx) Bool.false_ne_true
  | bl a =>
    cases ry
    cases x with
    | non => cases rx; exact SeqAt.EqAt.bool_none a
    | bl b => cases rx; exact SeqAt.EqAt.bool_bool a b
    | int b => obtain ⟨t, rfl⟩ := rx; exact SeqAt.EqAt.bool_int a b t
    | str b => obtain ⟨t, rfl⟩ := rx; exact SeqAt.EqAt.bool_str a b t
    | _ => exact absurd (show false = true from fx) Bool.false_ne_true
  | int a =>
    obtain ⟨t', rfl⟩ := ry
    cases x with
    | non => cases rx; exact SeqAt.EqAt.int_none a t'
    | bl b => cases rx; exact SeqAt.EqAt.int_bool a t' b
    | int b => obtain ⟨t, rfl⟩ := rx; exact SeqAt.EqAt.int_int a t' b t
    | str b => obtain ⟨t, rfl⟩ := rx; exact SeqAt.EqAt.int_str a t' b t
    | _ => exact absurd (show false = true from fx) Bool.false_ne_true
  | str a =>
    obtain ⟨t', rfl⟩ := ry
    cases x with
    | non => cases rx; exact SeqAt.EqAt.str_none a t'
    | bl b => cases rx; exact SeqAt.EqAt.str_bool a t' b
    | int b => obtain ⟨t, rfl⟩ := rx; exact SeqAt.EqAt.str_int a t' b t
    | str b => obtain ⟨t, rfl⟩ := rx; exact SeqAt.EqAt.str_str a t' b t
    | _ => exact absurd (show false = true from fx) Bool.false_ne_true
  | _ => exact absurd (show false = true from fy) Bool.false_ne_true
def eqU (x : V) (u : Value) : Bool := match u with
  | .none => eqV .non x
  | .bool b => eqV (.bl b) x
  | .int i _ => eqV (.int i) x
  | .str z _ => eqV (.str z) x
  | _ => false
theorem eqU_of {x y : V} {u : Value} (r : RelV y u) (f : flatV y = true) : eqU x u = eqV y x := by
  cases y with
  | non => cases r; rfl
  | bl b => cases r; rfl
  | int i => obtain ⟨t, rfl⟩ := r; rfl
  | str z => obtain ⟨t, rfl⟩ := r; rfl
  | _ => exact absurd (show false = true from f) Bool.false_ne_true
theorem any_eqU {x : V} : ∀ {xs : List V} {us : List Value}, Vals xs us → xs.all flatV = true → us.any (eqU x) = xs.any fun y => eqV y x
  | _, _, .nil, _ => rfl
  | y :: xs, u :: us, .cons r t, f => by
    rw [List.all_cons, Bool.and_eq_true] at f
    rw [List.any_cons, List.any_cons, eqU_of r f.1, any_eqU t f.2]
theorem mem_eqAt {A : Around} {s : Shared} {x : V} {v : Value} (rx : RelV x v) (fx : flatV x = true) : ∀ {xs : List V} {us : List Value}, Vals xs us → xs.all flatV = true → ∀ u ∈ us, SeqAt.EqAt A s u v (eqU x u)
  | _, _, .nil, _ => fun u hu => by cases hu
  | y :: xs, u :: us, .cons r t, f => fun u' hu => by
    rw [List.all_cons, Bool.and_eq_true] at f
    rcases List.mem_cons.mp hu with rfl | hu
    · rw [eqU_of r f.1]; exact eqAt_V r rx f.1 fx
    · exact mem_eqAt rx fx t f.2 u' hu
def inV (x : V) (xs : List V) : Bool := xs.any fun y => eqV y x
def rIn (K : PySem.W.Frag) (neg : Bool) : R2 := fun x y H Q => ∃ p xs, y = .ref p ∧ (SqL K H p xs ∨ SqT K H p xs) ∧ flatV x = true ∧ xs.all flatV = true ∧ Q (.bl (if neg then !inV x xs else inV x xs)) H
theorem op_notIn_seq : OpR X (compareOp .NotIn) (rIn X.K true) := by
  intro pins s σ H x y v u Q I rx ry h
  obtain ⟨p, xs, rfl, hq, fx, fs, q⟩ := h
  cases ry
  rcases hq with hq | hq
  · obtain ⟨its, r, pl, hz⟩ := I.list hq
    refine SeqAt.notIn_listAt (eqU x) pl.isList (fun w hw => mem_eqAt rx fx r fs w (by simpa using hw)) ⟨.bl _, H, I, rfl, ?_⟩
    rw [show its.toArray.any (eqU x) = its.any (eqU x) by simp, any_eqU r fs]
    exact q
  · obtain ⟨its, r, pl, hz⟩ := I.tuple hq
    refine SeqAt.notIn_tupleAt (eqU x) pl (fun w hw => mem_eqAt rx fx r fs w (by simpa using hw)) ⟨.bl _, H, I, rfl, ?_⟩
    rw [show its.toArray.any (eqU x) = its.any (eqU x) by simp, any_eqU r fs]
    exact q
theorem call_len_seq : CallR X (.builtin "len") (fun xs H Q => ∃ p ys, xs = [.ref p] ∧ (SqL X.K H p ys ∨ SqT X.K H p ys) ∧ Q (.int ys.length) H) := by
  intro pins s σ H xs us Q I r h
  obtain ⟨p, ys, rfl, hq, q⟩ := h
  obtain ⟨u, rfl, rx⟩ := vals1 r
  cases rx
  have hn := line63
  rcases hq with hq | hq
  · obtain ⟨its, r', pl, hz⟩ := I.list hq
    have hlen := r'.length
    exact Calls.call_len_list pl.isList (by simp only [List.size_toArray] <;> omega) ⟨.int ys.length, H, I.tok _, ⟨s.toks + 1, by rw [List.size_toArray, hlen]⟩, q⟩
  · obtain ⟨its, r', pl, hz⟩ := I.tuple hq
    have hlen := r'.length
    exact len_tuple pl (by simp only [List.size_toArray] <;> omega) ⟨.int ys.length, H, I.tok _, ⟨s.toks + 1, by rw [List.size_toArray, hlen]⟩, q⟩
theorem CallR.or {f : Value} {r r' : List V → Hp → VK → Prop} (h : CallR X f r) (h' : CallR X f r') : CallR X f (fun xs H Q => r xs H Q ∨ r' xs H Q) := by
  intro pins s σ H xs us Q I rs q
  rcases q with q | q
  · exact h pins s σ H xs us Q I rs q
  · exact h' pins s σ H xs us Q I rs q
theorem call_list_of : CallR X (.type "list") (fun xs H Q => ∃ p ys, xs = [.ref p] ∧ (SqL X.K H p ys ∨ SqT X.K H p ys) ∧ ∀ l, H l = none → Q (.ref l) (upd H l (.lst ys))) := by
  intro pins s σ H xs us Q I r h
  obtain ⟨p, ys, rfl, hq, q⟩ := h
  obtain ⟨u, rfl, rx⟩ := vals1 r
  cases rx
  have fin : ∀ (its : List Value), Vals ys its → ys.length ≤ sizeLine → ∀ (h' : Heap) (c' : Nat), (∀ b o', s.heap.get? b = some o' → h'.get? b = some o') →
      h'.get? s.heap.objs.size = some { cls := .type "list", dict := none, data := .seq its.toArray c', slots := #[] } → EP X pins σ Q (.ref s.heap.objs.size) { s with heap := h' } := fun its r' hz h' c' kp e =>
    ⟨.ref s.heap.objs.size, _, I.laid (t' := s.toks) kp (Nat.le_refl _) (show ObjOk X.prog X.w _ h' _ (.lst ys) from ⟨hz, its, c', r', e⟩), rfl, q _ (I.hok.fresh (Nat.le_refl _))⟩
  rcases hq with hq | hq
  · obtain ⟨its, r', pl, hz⟩ := I.list hq
    have hlen := r'.length
    obtain ⟨o, ho, hc, n, hd⟩ := pl.isList
    exact call_list_seq p (.inl rfl) ho hc hd (fun h' c' kp e => fin its r' hz h' c' kp e) (by simp only [List.size_toArray] <;> omega)
  · obtain ⟨its, r', pl, hz⟩ := I.tuple hq
    have hlen := r'.length
    obtain ⟨o, ho, hc, n, hd⟩ := pl
    exact call_list_seq p (.inr rfl) ho hc hd (fun h' c' kp e => fin its r' hz h' c' kp e) (by simp only [List.size_toArray] <;> omega)
theorem call_tuple_of : CallR X (.type "tuple") (fun xs H Q => ∃ p ys, xs = [.ref p] ∧ ((SqL X.K H p ys ∧ ∀ l, H l = none → Q (.ref l) (upd H l (.tup ys))) ∨ (SqT X.K H p ys ∧ Q (.ref p) H))) := by
  intro pins s σ H xs us Q I r h
  obtain ⟨p, ys, rfl, h⟩ := h
  obtain ⟨u, rfl, rx⟩ := vals1 r
  cases rx
  rcases h with ⟨hq, q⟩ | ⟨hq, q⟩
  · obtain ⟨its, r', pl, hz⟩ := I.list hq
    have hlen := r'.length
    refine call_tuple_list pl.isList (fun h' kp => ?_) (by simp only [List.size_toArray] <;> omega)
    have I1 : Inv X pins σ H { s with heap := h' } := I.kept (t' := s.toks) kp
    have I2 : Inv X pins σ (upd H h'.objs.size (.tup ys)) { s with heap := h'.push { cls := .type "tuple", data := .seq its.toArray } } :=
      I1.laid (t' := s.toks) (fun b o e => Heap.get?_push_of_some _ e) (Nat.le_refl _) (show ObjOk X.prog X.w _ _ _ (.tup ys) from ⟨hz, its, r', IsTup.new _ _⟩)
    exact ⟨.ref h'.objs.size, _, I2, rfl, q _ (I1.hok.fresh (Nat.le_refl _))⟩
  · obtain ⟨its, r', pl, hz⟩ := I.tuple hq
    exact call_tuple_same pl ⟨.ref p, H, I, rfl, q⟩
def tyV (K : PySem.W.Frag) (T : String) (x : V) (H : Hp) : Prop := match x with
  | .str _ => T = "str"
  | .int _ => T = "int"
  | .ref p => (T = "list" ∧ ∃ xs, SqL K H p xs) ∨ (T = "tuple" ∧ ∃ o, K.lookup p = some o ∧ o.cls = .type "tuple" ∧ o.dict = none) ∨
      (T = "dict" ∧ ((∃ kvs, H p = some (.dK kvs)) ∨ ∃ kvs, H p = some (.dT kvs))) ∨ (T = "set" ∧ ∃ S n, H p = some (.set S n))
  | _ => False
theorem tyV_is {pins : List (Addr × Obj)} {σ : St} {H : Hp} {s : Shared} {T : String} {x : V} {v : Value} (I : Inv X pins σ H s) (r : RelV x v) (ty : tyV X.K T x H) :
    s.TypeIs v T ∧ ∀ a, v = .ref a → ∃ ob, s.heap.get? a = some ob ∧ ob.dict = none := by
  cases x with
  | str z =>
    obtain ⟨t, rfl⟩ := r
    cases (show T = "str" from ty)
    exact ⟨typeIs_str s z t, fun _ e => nomatch e⟩
  | int i =>
    obtain ⟨t, rfl⟩ := r
    cases (show T = "int" from ty)
    exact ⟨typeIs_int s i t, fun _ e => nomatch e⟩
  | ref p =>
    cases r
    rcases ty with ⟨rfl, xs, hq⟩ | ⟨rfl, o, hk, hc, hd⟩ | ⟨rfl, hk⟩ | ⟨rfl, S, n, hk⟩
    · obtain ⟨its, _, pl, _⟩ := I.list hq
      refine ⟨pl.isList.typeIs, fun a e => ?_⟩
      cases e
      obtain ⟨o, n, e, c, hd, _⟩ := pl
      exact ⟨o, e, hd⟩
    · refine ⟨⟨o, I.kIn p o hk, hc⟩, fun a e => ?_⟩
      cases e
      exact ⟨o, I.kIn _ o hk, hd⟩
    · have z : ∃ o, s.heap.get? p = some o ∧ o.ExactDict := by
        rcases hk with ⟨kvs, hk⟩ | ⟨kvs, hk⟩
        · obtain ⟨_, _, _, _, o, _, _, e, ex, _⟩ := I.hok p _ hk
          exact ⟨o, e, ex⟩
        · obtain ⟨_, _, _, _, o, _, _, e, ex, _⟩ := I.hok p _ hk
          exact ⟨o, e, ex⟩
      obtain ⟨o, e, ex⟩ := z
      refine ⟨⟨o, e, ex.1⟩, fun a e2 => ?_⟩
      cases e2
      exact ⟨o, e, ex.2.1⟩
    · obtain ⟨o, _, _, _, e, ex, _⟩ := I.hok p _ hk
      refine ⟨⟨o, e, ex.1⟩, fun a e2 => ?_⟩
      cases e2
      exact ⟨o, e, ex.2.1⟩
  | _ => exact False.elim ty
def tBM0 (K : PySem.W.Frag) (T : String) (r : V → List V → Hp → VK → Prop) (to : TE) : TE := fun σ H Q => to σ H fun x H1 => tyV K T x H1 ∧ r x [] H1 Q
def tBM (K : PySem.W.Frag) (T : String) (r : V → List V → Hp → VK → Prop) (to : TE) (t : TA) : TE := fun σ H Q => to σ H fun x H1 => tyV K T x H1 ∧ t σ H1 fun xs H2 => r x xs H2 Q
variable {o e : Expr} {es : List Expr} {to : TE} {t : TA} {name : Str} {apos cpos : Pos} {T id : String} {r : V → List V → Hp → VK → Prop}
theorem pe_bm0 (pa : PlainAttrs T) (slot : Slot T name id) (hty : typeOf (.builtin id) = pure (.type "method_descriptor")) (hm : MtR X id r) (ho : PE X o to)
    (hbase : attributeBase o name X.env (eval o X.env) = eval o X.env := by rfl) (hline : (apos.endLine == cpos.line) = true := by rfl) : PE X (.Call (.Attribute o name apos) [] [] cpos) (tBM0 X.K T r to) := by
  intro pins s σ H Q I h
  refine wpAny_Call_method0_late hbase hline (thn (ho pins s σ H _ I h) fun v s1 ⟨x, H1, I1, r1, ty, q1⟩ => ?_)
  obtain ⟨h1, h2⟩ := tyV_is I1 r1 ty
  exact ⟨T, id, pa, slot, hty, h1, h2, Calls.callWith_builtin rfl (PySem.evalArgs_none (hm pins s1 σ H1 x [] v [] Q I1 r1 .nil q1))⟩
theorem pe_bm (pa : PlainAttrs T) (slot : Slot T name id) (hty : typeOf (.builtin id) = pure (.type "method_descriptor")) (hm : MtR X id r) (ho : PE X o to) (ha : PA X (e :: es) t)
    (hbase : attributeBase o name X.env (eval o X.env) = eval o X.env := by rfl)
    (hfew : ((backTo cpos (starEach (e :: es) X.env)).all (fun x => !x.1) && (backToKw cpos (keywordEach [] X.env)).all (fun x => x.1.isSome)
      && decide ((e :: es).length + ([] : List Keyword).length + (if ([] : List Keyword).isEmpty then 0 else 1) < 30)) = true := by rfl)
    (hline : (apos.endLine == cpos.line) = true := by rfl) (hs : starEach (e :: es) X.env = (false, eval e X.env) :: starEach es X.env := by rfl) (hplain : (backTo cpos (starEach es X.env)).any (·.1) = false := by rfl) :
    PE X (.Call (.Attribute o name apos) (e :: es) [] cpos) (tBM X.K T r to t) := by
  intro pins s σ H Q I h
  refine wpAny_Call_method_late hbase hfew hline rfl (thn (ho pins s σ H _ I h) fun v s1 ⟨x, H1, I1, r1, ty, q1⟩ => ?_)
  obtain ⟨h1, h2⟩ := tyV_is I1 r1 ty
  refine ⟨T, id, pa, slot, hty, h1, h2, ?_⟩
  have hA := ha cpos pins s1 σ H1 _ I1 q1
  rw [hs] at hA ⊢
  refine Calls.callWith_builtin (by show (false || (backTo cpos (starEach es X.env)).any (·.1)) = false; rw [hplain] <;> rfl) (Calls.evalArgs_plain ?_)
  exact thn hA fun us s2 ⟨vs, H2, I2, r2, q2⟩ => hm pins s2 σ H2 x vs v us Q I2 r1 r2 q2
end
end L2
namespace L2
open PySem PySem.Spec PyProof.Rows
def MtM (X : Cx) (id : String) (r : V → List V → Hp → VK → Prop) : Prop :=
  ∀ (pins : List (Addr × Obj)) (s : Shared) (σ : St) (H : Hp) (x : V) (xs : List V) (v : Value) (us : List Value) (Q : VK), Inv X pins σ H s → RelV x v → Vals xs us → r x xs H Q →
    wpAny (model X.prog X.w) X.A (call (.builtin id) (v :: us)) (EP X pins σ Q) X.xe s
theorem Vals.one : ∀ {x : V} {us : List Value}, Vals [x] us → ∃ u, us = [u] ∧ RelV x u
  | _, _, .cons r .nil => ⟨_, rfl, r⟩
theorem Vals.two : ∀ {x y : V} {us : List Value}, Vals [x, y] us → ∃ u v, us = [u, v] ∧ RelV x u ∧ RelV y v
  | _, _, _, .cons r (.cons q .nil) => ⟨_, _, rfl, r, q⟩
theorem Vals.zero : ∀ {us : List Value}, Vals [] us → us = []
  | _, .nil => rfl
theorem Vals.eraseIdx : ∀ {xs : List V} {us : List Value} (i : Nat), Vals xs us → Vals (xs.eraseIdx i) (us.eraseIdx i)
  | _, _, _, .nil => .nil
  | _, _, 0, .cons _ t => t
  | _, _, i + 1, .cons r t => .cons r (Vals.eraseIdx i t)
theorem Vals.reverse {xs : List V} {us : List Value} (h : Vals xs us) : Vals xs.reverse us.reverse := by
  induction h with
  | nil => exact .nil
  | cons r t ih => rw [List.reverse_cons, List.reverse_cons]; exact Vals.append ih (.cons r .nil)
section
variable {X : Cx} {pins : List (Addr × Obj)} {σ : St} {H : Hp} {s : Shared} {l b : Addr} {xs ys zs : List V}
theorem Inv.lset {its its' : List Value} {n : Nat} {f : Array Value → Array Value} {t' : Nat} (I : Inv X pins σ H s) (hH : H l = some (.lst xs))
    (e : s.heap.get? l = some { cls := .type "list", data := .seq its.toArray n }) (hf : f its.toArray = its'.toArray) (hv : Vals ys its') (hz : ys.length ≤ sizeLine) :
    Inv X pins σ (upd H l (.lst ys)) { s with heap := s.heap.update l (Obj.mapSeq f), toks := t' } := by
  have q := PySem.IsL.update e f
  rw [hf] at q
  refine I.write (x := l) (e := l) (by rw [hH]; exact trivial) (.inl rfl) (fun b' u hb hu => (Heap.get?_update_other s.heap (Obj.mapSeq f) (Ne.symm hb)).trans hu) ⟨_, q⟩ ?_
  exact ⟨hz, its', _, hv, q⟩
theorem Inv.fresh (I : Inv X pins σ H s) : H s.heap.objs.size = none := I.hok.fresh (Nat.le_refl _)
theorem Inv.lstM (I : Inv X pins σ H s) (hH : H l = some (.lst xs)) : xs.length ≤ sizeLine ∧ ∃ (its : List Value) (n : Nat), Vals xs its ∧ xs.length = its.length ∧ s.heap.get? l = some { cls := .type "list", data := .seq its.toArray n } := by
  obtain ⟨z, its, n, r, e⟩ := I.hok l _ hH
  exact ⟨z, its, n, r, r.length, e⟩
end
section
variable {X : Cx}
def rAppend : V → List V → Hp → VK → Prop := fun x vs H Q => ∃ l xs y, x = .ref l ∧ vs = [y] ∧ H l = some (.lst xs) ∧ xs.length < sizeLine ∧ Q .non (upd H l (.lst (xs ++ [y])))
theorem mt_append : MtM X "list.append" rAppend := by
  intro pins s σ H x vs v us Q I rx rv h
  obtain ⟨l, xs, y, rfl, rfl, hH, hz, q⟩ := h
  cases rx
  obtain ⟨u, rfl, ru⟩ := rv.one
  obtain ⟨z, its, n, r, hl, e⟩ := I.lstM hH
  refine call_meets F.slot_list_append ⟨_, e, rfl⟩ F.entry_list_append (F.args_list_append_2 _ _) (PySem.list_append l its.toArray n u (by rw [List.size_toArray]; omega)) ⟨e, ?_⟩
  refine ⟨.non, _, I.lset (its' := its ++ [u]) hH e (by simp) (r.append (.cons ru .nil)) ?_, rfl, q⟩
  rw [List.length_append, List.length_singleton]
  omega
end
section
variable {prog : Program} {w : World} {A : Around} {E : Value → Shared → Prop} {s : Shared}
end
section
variable {X : Cx}
end
end L2
namespace L2
open PySem PySem.Spec PyProof.Rows
section
variable {κ : Type} [DecidableEq κ]
def valV (kvs : List (κ × V)) (k : κ) : Option V := (kvs.find? fun kv => decide (kv.1 = k)).map (·.2)
def putK (kvs : List (κ × V)) (k : κ) (v : V) : List (κ × V) :=
  if (kvs.any fun kv => decide (kv.1 = k)) = true then kvs.map (fun kv => if kv.1 = k then (kv.1, v) else kv) else kvs ++ [(k, v)]
def dropK (kvs : List (κ × V)) (k : κ) : List (κ × V) := kvs.filter fun kv => decide (kv.1 ≠ k)
theorem valV_pos {p : κ × V} {r : List (κ × V)} {k : κ} (e : p.1 = k) : valV (p :: r) k = some p.2 := by simp [valV, List.find?_cons, e]
theorem valV_neg {p : κ × V} {r : List (κ × V)} {k : κ} (e : ¬ p.1 = k) : valV (p :: r) k = valV r k := by simp [valV, List.find?_cons, e]
theorem valV_any (k : κ) : ∀ kvs : List (κ × V), (kvs.any fun kv => decide (kv.1 = k)) = (valV kvs k).isSome
  | [] => rfl
  | p :: r => by
    rw [List.any_cons]
    by_cases e : p.1 = k
    · simp only [valV_pos e, decide_eq_true e, Bool.true_or, Option.isSome_some]
    · rw [valV_neg e, decide_eq_false e, Bool.false_or]; exact valV_any k r
theorem length_putK (kvs : List (κ × V)) (k : κ) (v : V) : (putK kvs k v).length ≤ kvs.length + 1 := by
  unfold putK
  split
  · rw [List.length_map]; omega
  · rw [List.length_append, List.length_cons, List.length_nil]; omega
theorem RelO.isSome_eq {o : Option V} {u : Option Value} (r : RelO o u) : o.isSome = u.isSome := by
  cases o with
  | none => cases u with
    | none => rfl
    | some _ => exact (show False from r).elim
  | some _ => cases u with
    | none => exact (show False from r).elim
    | some _ => rfl
theorem RelO.getD {o : Option V} {u : Option Value} {d : V} {d' : Value} (r : RelO o u) (rd : RelV d d') : RelV (o.getD d) (u.getD d') := by
  cases o with
  | none => cases u with
    | none => exact rd
    | some _ => exact (show False from r).elim
  | some _ => cases u with
    | none => exact (show False from r).elim
    | some _ => exact r
theorem KV.val {kvs : List (κ × V)} {vs : List (κ × Value)} (r : KV kvs vs) (k : κ) : RelO (valV kvs k) (valueAt vs k) := by
  unfold KV at r
  induction r with
  | nil => exact True.intro
  | @cons p q ps qs h t ih =>
    obtain ⟨h1, h2⟩ := h
    by_cases e : p.1 = k
    · have e' : q.1 = k := h1.symm.trans e
      have b : valueAt (q :: qs) k = some q.2 := by simp [valueAt, List.find?_cons, e']
      rw [valV_pos e, b]; exact h2
    · have e' : ¬ q.1 = k := fun z => e (h1.trans z)
      have b : valueAt (q :: qs) k = valueAt qs k := by simp [valueAt, List.find?_cons, e']
      rw [valV_neg e, b]; exact ih
theorem KV.any {kvs : List (κ × V)} {vs : List (κ × Value)} (r : KV kvs vs) (k : κ) : (kvs.any fun kv => decide (kv.1 = k)) = vs.any fun kv => decide (kv.1 = k) := by
  unfold KV at r
  induction r with
  | nil => rfl
  | cons h t ih => rw [List.any_cons, List.any_cons, ih, h.1]
theorem KV.repl {kvs : List (κ × V)} {vs : List (κ × Value)} (r : KV kvs vs) (k : κ) {y : V} {u : Value} (ry : RelV y u) :
    KV (kvs.map fun kv => if kv.1 = k then (kv.1, y) else kv) (vs.map fun kv => if kv.1 = k then (kv.1, u) else kv) := by
  unfold KV at r ⊢
  induction r with
  | nil => exact .nil
  | @cons p q ps qs h t ih =>
    rw [List.map_cons, List.map_cons]
    refine .cons ?_ ih
    obtain ⟨h1, h2⟩ := h
    by_cases e : p.1 = k
    · rw [if_pos e, if_pos (h1.symm.trans e)]; exact ⟨h1, ry⟩
    · rw [if_neg e, if_neg (fun z => e (h1.trans z))]; exact ⟨h1, h2⟩
theorem KV.put {kvs : List (κ × V)} {vs : List (κ × Value)} (r : KV kvs vs) (k : κ) {y : V} {u : Value} (ry : RelV y u) : KV (putK kvs k y) (stored vs k u) := by
  unfold putK stored
  rw [r.any k]
  by_cases e : (vs.any fun kv => decide (kv.1 = k)) = true
  · rw [if_pos e, if_pos e]; exact r.repl k ry
  · rw [if_neg e, if_neg e]; exact Paired.snoc r ⟨rfl, ry⟩
theorem KV.drop {kvs : List (κ × V)} {vs : List (κ × Value)} (r : KV kvs vs) (k : κ) : KV (dropK kvs k) (without vs k) := by
  unfold KV at r ⊢
  unfold dropK without
  induction r with
  | nil => exact .nil
  | @cons p q ps qs h t ih =>
    obtain ⟨h1, h2⟩ := h
    rw [List.filter_cons, List.filter_cons]
    by_cases e : p.1 = k
    · have a : ¬ decide (p.1 ≠ k) = true := by simp [e]
      have b : ¬ decide (q.1 ≠ k) = true := by simp [h1.symm.trans e]
      rw [if_neg a, if_neg b]; exact ih
    · have e' : ¬ q.1 = k := fun z => e (h1.trans z)
      have a : decide (p.1 ≠ k) = true := by simp [e]
      have b : decide (q.1 ≠ k) = true := by simp [e']
      rw [if_pos a, if_pos b]; exact .cons ⟨h1, h2⟩ ih
theorem KV.keys {kvs : List (κ × V)} {vs : List (κ × Value)} (r : KV kvs vs) : kvs.map (·.1) = vs.map (·.1) := by
  unfold KV at r
  induction r with
  | nil => rfl
  | cons h t ih => rw [List.map_cons, List.map_cons, ih, h.1]
theorem KV.length {kvs : List (κ × V)} {vs : List (κ × Value)} (r : KV kvs vs) : kvs.length = vs.length := Paired.length r
end
theorem kV_is {P : Program} {w : World} {k : Key} {u : Value} (r : RelV (kV k) u) : (mixKind P w).is k u = true := by
  cases k with
  | inl i => obtain ⟨t, e⟩ := (show ∃ t, u = Value.int i t from r); subst e; exact mixKind_int P w i t
  | inr x => obtain ⟨t, e⟩ := (show ∃ t, u = Value.str x t from r); subst e; exact mixKind_str P w x t
theorem items_are {P : Program} {w : World} : ∀ {ks : List Key} {us : List Value}, Vals (ks.map kV) us → ItemsAre (mixKind P w) ks us
  | [], _, r => by rw [List.map_nil] at r; cases r; exact .nil
  | k :: ks, _, r => by
    rw [List.map_cons] at r
    cases r with
    | cons h t => exact .cons (kV_is h) (items_are t)
abbrev KT (H : Hp) : List (List Key × V) → List (List Key × Addr × Value) → Prop := Paired fun p q => p.1 = q.1 ∧ H q.2.1 = some (.tup (p.1.map kV)) ∧ RelV p.2 q.2.2
theorem KT.val {H : Hp} {kvs : List (List Key × V)} {xs : List (List Key × Addr × Value)} (r : KT H kvs xs) (k : List Key) : RelO (valV kvs k) ((atKey xs k).map (·.2)) := by
  induction r with
  | nil => exact True.intro
  | @cons p q ps qs h t ih =>
    obtain ⟨h1, _, h2⟩ := h
    by_cases e : p.1 = k
    · have e' : q.1 = k := h1.symm.trans e
      have b : atKey (q :: qs) k = some q.2 := by simp [atKey, List.find?_cons, e']
      rw [valV_pos e, b]; exact h2
    · have e' : ¬ q.1 = k := fun z => e (h1.trans z)
      have b : atKey (q :: qs) k = atKey qs k := by simp [atKey, List.find?_cons, e']
      rw [valV_neg e, b]; exact ih
theorem KT.repl {H : Hp} {kvs : List (List Key × V)} {xs : List (List Key × Addr × Value)} (r : KT H kvs xs) (k : List Key) {y : V} {u : Value} (ry : RelV y u) :
    KT H (kvs.map fun kv => if kv.1 = k then (kv.1, y) else kv) (xs.map (putAt k u)) := by
  induction r with
  | nil => exact .nil
  | @cons p q ps qs h t ih =>
    rw [List.map_cons, List.map_cons]
    refine .cons ?_ ih
    obtain ⟨h1, h2, h3⟩ := h
    unfold putAt
    by_cases e : p.1 = k
    · rw [if_pos e, if_pos (h1.symm.trans e)]; exact ⟨h1, h2, ry⟩
    · rw [if_neg e, if_neg (fun z => e (h1.trans z))]; exact ⟨h1, h2, h3⟩
theorem KT.put {H : Hp} {kvs : List (List Key × V)} {xs : List (List Key × Addr × Value)} (r : KT H kvs xs) (k : List Key) {b : Addr} {y : V} {u : Value} (hb : H b = some (.tup (k.map kV))) (ry : RelV y u) :
    KT H (putK kvs k y) (storedH xs k b u) := by
  have e : (kvs.any fun kv => decide (kv.1 = k)) = (atKey xs k).isSome := by
    rw [valV_any, (r.val k).isSome_eq, Option.isSome_map]
  unfold putK storedH
  rw [e]
  by_cases q : (atKey xs k).isSome = true
  · rw [if_pos q, if_pos q]; exact r.repl k ry
  · rw [if_neg q, if_neg q]; exact Paired.snoc r ⟨rfl, hb, ry⟩
theorem KT.keeps {H H' : Hp} {kvs : List (List Key × V)} {xs : List (List Key × Addr × Value)} (r : KT H kvs xs) (ht : ∀ b ys, H b = some (.tup ys) → H' b = some (.tup ys)) : KT H' kvs xs :=
  Paired.mapP r fun _ _ z => ⟨z.1, ht _ _ z.2.1, z.2.2⟩
section
variable {P : Program} {w : World} {H : Hp} {h : Heap} {a : Addr}
theorem rd_of {u : HO} (ok : HOk P w H h) (e : Rd H a u) : ObjOk P w H h a u := e.ok ok
theorem dk_rd {kvs : List (Key × V)} (ok : HOk P w H h) (e : Rd H a (.dK kvs)) : kvs.length ≤ sizeLine ∧ (a == sysModules) = false ∧ ∃ vs, KV kvs vs ∧ h.DictOf (mixKind P w) a vs :=
  show ObjOk P w H h a (.dK kvs) from rd_of ok e
theorem dk_of {kvs : List (Key × V)} (ok : HOk P w H h) (e : H a = some (.dK kvs)) : kvs.length ≤ sizeLine ∧ (a == sysModules) = false ∧ ∃ vs, KV kvs vs ∧ h.DictOf (mixKind P w) a vs := dk_rd ok (.inl e)
theorem key_of {ks : List Key} (ok : HOk P w H h) (e : H a = some (.tup (ks.map kV))) : (tupleKind (mixKind P w)).is h ks a := by
  obtain ⟨_, its, r, o, h1, h2, n, h3⟩ := (show ObjOk P w H h a (.tup (ks.map kV)) from ok a _ e)
  exact ⟨o, its.toArray, n, h1, h2, h3, by simpa using items_are r⟩
theorem dt_rd {kvs : List (List Key × V)} (ok : HOk P w H h) (e : Rd H a (.dT kvs)) : kvs.length ≤ sizeLine ∧ (a == sysModules) = false ∧
    ∃ xs, KT H kvs xs ∧ h.DictOfH (tupleKind (mixKind P w)) a xs := by
  obtain ⟨z, y, xs, r, o, es, ep, h1, h2, h3, h4, h5⟩ := (show ObjOk P w H h a (.dT kvs) from rd_of ok e)
  refine ⟨z, y, xs, r, o, es, ep, h1, h2, h3, h4, fun x hx => ?_, h5⟩
  have all : ∀ {l : List (List Key × V)} {m : List (List Key × Addr × Value)}, KT H l m → ∀ x ∈ m, (tupleKind (mixKind P w)).is h x.1 x.2.1 := by
    intro l m q
    induction q with
    | nil => intro x hx; exact nomatch hx
    | @cons p q ps qs hq t ih =>
      intro x hx
      rcases List.mem_cons.mp hx with e | hx
      · subst e
        exact key_of ok (by rw [← hq.1]; exact hq.2.1)
      · exact ih x hx
  exact all r x hx
theorem dt_of {kvs : List (List Key × V)} (ok : HOk P w H h) (e : H a = some (.dT kvs)) : kvs.length ≤ sizeLine ∧ (a == sysModules) = false ∧
    ∃ xs, KT H kvs xs ∧ h.DictOfH (tupleKind (mixKind P w)) a xs := dt_rd ok (.inl e)
end
def DGet (H : Hp) (a : Addr) (y : V) (r : Option V) : Prop :=
  (∃ kvs k, Rd H a (.dK kvs) ∧ y = kV k ∧ r = valV kvs k) ∨ ∃ kvs k b, Rd H a (.dT kvs) ∧ y = .ref b ∧ H b = some (.tup (k.map kV)) ∧ r = valV kvs k
def DPut (H : Hp) (a : Addr) (y v : V) (H' : Hp) : Prop :=
  (∃ kvs k, H a = some (.dK kvs) ∧ y = kV k ∧ kvs.length < sizeLine ∧ H' = upd H a (.dK (putK kvs k v))) ∨
  ∃ kvs k b, H a = some (.dT kvs) ∧ y = .ref b ∧ H b = some (.tup (k.map kV)) ∧ kvs.length < sizeLine ∧ H' = upd H a (.dT (putK kvs k v))
theorem DGet.k {H : Hp} {a : Addr} {kvs : List (Key × V)} {k : Key} (e : H a = some (.dK kvs)) : DGet H a (kV k) (valV kvs k) := .inl ⟨kvs, k, .inl e, rfl, rfl⟩
theorem DGet.t {H : Hp} {a b : Addr} {kvs : List (List Key × V)} {k : List Key} (e : H a = some (.dT kvs)) (eb : H b = some (.tup (k.map kV))) : DGet H a (.ref b) (valV kvs k) := .inr ⟨kvs, k, b, .inl e, rfl, eb, rfl⟩
theorem DPut.k {H : Hp} {a : Addr} {kvs : List (Key × V)} {k : Key} {v : V} (e : H a = some (.dK kvs)) (hl : kvs.length < sizeLine) : DPut H a (kV k) v (upd H a (.dK (putK kvs k v))) := .inl ⟨kvs, k, e, rfl, hl, rfl⟩
theorem DPut.t {H : Hp} {a b : Addr} {kvs : List (List Key × V)} {k : List Key} {v : V} (e : H a = some (.dT kvs)) (eb : H b = some (.tup (k.map kV))) (hl : kvs.length < sizeLine) :
    DPut H a (.ref b) v (upd H a (.dT (putK kvs k v))) := .inr ⟨kvs, k, b, e, rfl, eb, hl, rfl⟩
section
variable {X : Cx} {pins : List (Addr × Obj)} {σ : St} {H : Hp} {s : Shared} {a : Addr} {y v : V} {u r : Value} {o : Option V} {A : Around} {E : Value → Shared → Prop}
theorem Inv.big (I : Inv X pins σ H s) : sysModules < s.heap.objs.size := by
  have h : mainGlobals < s.heap.objs.size := (I.mod.glob.keeps I.bk).lt
  exact Nat.lt_trans (by decide) h
theorem d_getItem {Q : Value → Shared → Prop} (hu : A.units + 1 < cLine) (I : Inv X pins σ H s) (g : DGet H a y (some v)) (ry : RelV y u) (h : ∀ w' s', Inv X pins σ H s' → RelV v w' → Q w' s') :
    wpAny (model X.prog X.w) A (getItem (.ref a) u) Q E s := by
  rcases g with ⟨kvs, k, e, ey, l⟩ | ⟨kvs, k, b, e, ey, eb, l⟩
  · subst ey
    obtain ⟨z, hd, vs, rel, dd⟩ := dk_rd I.hok e
    obtain ⟨w', hw, rw'⟩ := RelO.some_of (v := v) (o := valueAt vs k) (by rw [l]; exact rel.val k)
    exact wpAny_getItem_of (kV_is ry) dd.mapOf hw (h w' _ (I.tok _) rw')
  · subst ey
    cases (show u = Value.ref b from ry)
    obtain ⟨z, hd, xs, rel, dd⟩ := dt_rd I.hok e
    obtain ⟨w', hw, rw'⟩ := RelO.some_of (v := v) (o := (atKey xs k).map (·.2)) (by rw [l]; exact rel.val k)
    obtain ⟨p, hp, hp2⟩ := Option.map_eq_some_iff.mp hw
    refine wpAny_getItem_heap (tupleKind_room_in1 hu) (key_of I.hok eb) dd hp ?_
    rw [hp2]
    exact h w' _ (I.tok _) rw'
theorem d_in {Q : Value → Shared → Prop} (hu : A.units + 1 < cLine) (I : Inv X pins σ H s) (g : DGet H a y o) (ry : RelV y u) (h : ∀ s', Inv X pins σ H s' → Q (.bool o.isSome) s') :
    wpAny (model X.prog X.w) A (compareOp .In u (.ref a)) Q E s := by
  rcases g with ⟨kvs, k, e, ey, l⟩ | ⟨kvs, k, b, e, ey, eb, l⟩
  · subst ey
    obtain ⟨z, hd, vs, rel, dd⟩ := dk_rd I.hok e
    refine wpAny_in_of (kV_is ry) hd dd.mapOf ?_
    rw [← (rel.val k).isSome_eq, ← l]
    exact h _ (I.tok _)
  · subst ey
    cases (show u = Value.ref b from ry)
    obtain ⟨z, hd, xs, rel, dd⟩ := dt_rd I.hok e
    refine wpAny_in_heap (tupleKind_room_in1 hu) (key_of I.hok eb) hd dd ?_
    have q := (rel.val k).isSome_eq
    rw [Option.isSome_map] at q
    rw [← q, ← l]
    exact h _ (I.tok _)
theorem d_notIn {Q : Value → Shared → Prop} (hu : A.units + 1 < cLine) (I : Inv X pins σ H s) (g : DGet H a y o) (ry : RelV y u) (h : ∀ s', Inv X pins σ H s' → Q (.bool (!o.isSome)) s') :
    wpAny (model X.prog X.w) A (compareOp .NotIn u (.ref a)) Q E s := by
  rcases g with ⟨kvs, k, e, ey, l⟩ | ⟨kvs, k, b, e, ey, eb, l⟩
  · subst ey
    obtain ⟨z, hd, vs, rel, dd⟩ := dk_rd I.hok e
    refine wpAny_notIn_of (kV_is ry) hd dd.mapOf ?_
    rw [← (rel.val k).isSome_eq, ← l]
    exact h _ (I.tok _)
  · subst ey
    cases (show u = Value.ref b from ry)
    obtain ⟨z, hd, xs, rel, dd⟩ := dt_rd I.hok e
    refine wpAny_notIn_heap (tupleKind_room_in1 hu) (key_of I.hok eb) hd dd ?_
    have q := (rel.val k).isSome_eq
    rw [Option.isSome_map] at q
    rw [← q, ← l]
    exact h _ (I.tok _)
theorem d_write {h' : Heap} {t' : Nat} {ob : HO} (I : Inv X pins σ H s) (mu : Mut (H a)) (hs : Heap.SameBut a s.heap h') (he : ∃ q, h'.get? a = some q) (new : ObjOk X.prog X.w (upd H a ob) h' a ob) :
    Inv X pins σ (upd H a ob) { s with heap := h', toks := t' } :=
  I.write (x := a) (e := a) mu (.inl rfl) (fun b q hb z => (hs.2 b hb).trans z) he new
theorem dk_new {P : Program} {w : World} {H' : Hp} {h' : Heap} {kvs : List (Key × V)} {vs : List (Key × Value)} (z : kvs.length ≤ sizeLine) (hd : (a == sysModules) = false) (rel : KV kvs vs) (dd : h'.DictOf (mixKind P w) a vs) :
    ObjOk P w H' h' a (.dK kvs) := ⟨z, hd, vs, rel, dd⟩
theorem d_setItem {H' : Hp} {Q : Unit → Shared → Prop} (hu : A.units + 1 < cLine) (I : Inv X pins σ H s) (g : DPut H a y v H') (ry : RelV y u) (rv : RelV v r) (h : ∀ s', Inv X pins σ H' s' → Q () s') :
    wpAny (model X.prog X.w) A (setItem (.ref a) u r) Q E s := by
  rcases g with ⟨kvs, k, e, ey, l, eH⟩ | ⟨kvs, k, b, e, ey, eb, l, eH⟩
  · subst ey eH
    obtain ⟨z, hd, vs, rel, dd⟩ := dk_of I.hok e
    have hz : vs.length ≤ sizeLine := by rw [← rel.length]; exact z
    have hl : (putK kvs k v).length ≤ sizeLine := by have := length_putK kvs k v; omega
    refine wpAny_setItem_pairs (hsz := hz) (kV_is ry) dd fun h' dd' hs => h _ ?_
    have he : ∃ q, h'.get? a = some q := let ⟨q, _, _, hq, _⟩ := dd'; ⟨q, hq⟩
    exact d_write I (by rw [e]; exact True.intro) hs he (dk_new hl hd (rel.put k rv) dd')
  · subst ey eH
    cases (show u = Value.ref b from ry)
    obtain ⟨z, hd, xs, rel, dd⟩ := dt_of I.hok e
    have hz : xs.length ≤ sizeLine := by rw [← Paired.length rel]; exact z
    have hl : (putK kvs k v).length ≤ sizeLine := by have := length_putK kvs k v; omega
    refine wpAny_setItem_heap (hsz := hz) (tupleKind_room_in1 hu) (key_of I.hok eb) dd fun h' dd' hs => h _ ?_
    obtain ⟨q, es, ep, hq, h2, h3, h4, _, h5⟩ := dd'
    refine d_write I (by rw [e]; exact True.intro) hs ⟨q, hq⟩ ⟨hl, hd, _, (rel.put k eb rv).keeps fun c ys ec => ?_, q, es, ep, hq, h2, h3, h4, h5⟩
    rw [upd_ne (ne_of ec e (fun z => nomatch z))]
    exact ec
end
section
variable {X : Cx} {pins : List (Addr × Obj)} {σ : St} {H : Hp} {s : Shared} {a : Addr} {kvs : List (Key × V)} {k : Key} {u : Value} {A : Around} {E : Value → Shared → Prop}
end
def NoSl (i : Expr) : Prop := ∀ ov iv, subscripted i false ov iv = operate [ov, iv] (getItem ov iv)
theorem subD_of {prog : Program} {w : World} {A : Around} {E : Value → Shared → Prop} {s : Shared} {env : Env} {value slice : Expr} {pos : Pos} {T id : String} {Q : Value → Shared → Prop}
    (hl : typeLookup (.type T) "__getitem__" = pure (some (.builtin id))) (hs : NoSl slice)
    (h : wpAny (model prog w) A (eval value env) (fun o s₁ => wpAny (model prog w) A (eval slice env) (fun i s₂ => s₂.TypeIs o T ∧ wpAny (model prog w) A (getItem o i) Q E s₂) E s₁) E s) :
    wpAny (model prog w) A (eval (.Subscript value slice pos) env) Q E s := by
  refine Subscript_ (wpAny_mono h (fun o s₁ h₁ => wpAny_mono h₁ (fun i s₂ h₂ => ?_) fun _ _ x => x) fun _ _ x => x)
  obtain ⟨hT, h₂⟩ := h₂
  unfold subscriptTail
  refine wpAny_bind ?_
  rw [getitemInPython_of_ne hT.not_modules]
  refine wpAny_bind (wpAny_specialOf hT hl ?_)
  have fin : wpAny (model prog w) A (subscripted slice false o i) (fun r s₃ => wpAny (model prog w) A (letTemporaryGo value o r >>= fun _ => pure r) Q E s₃) E s₂ := by
    rw [hs o i]
    exact wpAny_operating (wpAny_mono h₂ (fun r s₃ h₃ => wpAny_bind (wpAny_letTemporaryGo (wpAny_pure h₃))) fun _ _ x => x)
  first
    | exact wpAny_pure (wpAny_bind fin)
    | exact wpAny_bind (wpAny_pure (wpAny_bind fin))
    | exact wpAny_bind fin
theorem dict_typeIs {X : Cx} {pins : List (Addr × Obj)} {σ : St} {H : Hp} {s : Shared} {a : Addr} {y : V} {o : Option V} (I : Inv X pins σ H s) (g : DGet H a y o) : s.TypeIs (.ref a) "dict" := by
  rcases g with ⟨kvs, k, e, _, _⟩ | ⟨kvs, k, b, e, _, _, _⟩
  · obtain ⟨_, _, vs, _, dd⟩ := dk_rd I.hok e
    exact dd.typeIs
  · obtain ⟨_, _, xs, _, dd⟩ := dt_rd I.hok e
    exact dd.typeIs
def tDGet (td ty : TE) : TE := fun σ H Q => td σ H fun x H1 => ty σ H1 fun y H2 => ∃ a v, x = .ref a ∧ DGet H2 a y (some v) ∧ Q v H2
def tDIn (ty td : TE) : TE := fun σ H Q => ty σ H fun y H1 => td σ H1 fun x H2 => ∃ a o, x = .ref a ∧ DGet H2 a y o ∧ Q (.bl o.isSome) H2
def tDNotIn (ty td : TE) : TE := fun σ H Q => ty σ H fun y H1 => td σ H1 fun x H2 => ∃ a o, x = .ref a ∧ DGet H2 a y o ∧ Q (.bl (!o.isSome)) H2
def sDPut (td ty tv : TE) : TS := fun D σ H => tv σ H fun v H1 => td σ H1 fun x H2 => ty σ H2 fun y H3 => ∃ a H4, x = .ref a ∧ DPut H3 a y v H4 ∧ D.nx σ H4
section
variable {X : Cx} {o i e value : Expr} {pos pos' tpos : Pos} {td ty tv : TE}
theorem pe_dget (hu : X.A.units + 1 < cLine) (ho : PE X o td) (hi : PE X i ty) (hs : NoSl i) : PE X (.Subscript o i pos) (tDGet td ty) := by
  intro pins s σ H Q I h
  refine subD_of PySem.F.slot_dict_getitem.lookup hs (thn (ho pins s σ H _ I h) fun u s1 ⟨x, H1, I1, rx, q1⟩ => thn (hi pins s1 σ H1 _ I1 q1) fun iv s2 ⟨y, H2, I2, ry, a, v, ex, g, q2⟩ => ?_)
  subst ex
  obtain rfl : u = Value.ref a := rx
  exact ⟨dict_typeIs I2 g, d_getItem hu I2 g ry fun w' s3 I3 rw' => ⟨v, H2, I3, rw', q2⟩⟩
theorem pc_din (hu : X.A.units + 1 < cLine) (hi : PE X i ty) (ho : PE X o td) : PC X .In i o (tDIn ty td) := by
  intro pins s σ H Q I h
  refine thn (hi pins s σ H _ I h) fun iv s1 ⟨y, H1, I1, ry, q1⟩ => thn (ho pins s1 σ H1 _ I1 q1) fun u s2 ⟨x, H2, I2, rx, a, ov, ex, g, q2⟩ => ?_
  subst ex
  obtain rfl : u = Value.ref a := rx
  exact d_in hu I2 g ry fun s3 I3 => ⟨.bl ov.isSome, H2, I3, rfl, q2⟩
theorem pc_dnotin (hu : X.A.units + 1 < cLine) (hi : PE X i ty) (ho : PE X o td) : PC X .NotIn i o (tDNotIn ty td) := by
  intro pins s σ H Q I h
  refine thn (hi pins s σ H _ I h) fun iv s1 ⟨y, H1, I1, ry, q1⟩ => thn (ho pins s1 σ H1 _ I1 q1) fun u s2 ⟨x, H2, I2, rx, a, ov, ex, g, q2⟩ => ?_
  subst ex
  obtain rfl : u = Value.ref a := rx
  exact d_notIn hu I2 g ry fun s3 I3 => ⟨.bl (!ov.isSome), H2, I3, rfl, q2⟩
theorem ps_dput (hu : X.A.units + 1 < cLine) (ho : PE X o td) (hi : PE X i ty) (hv : PE X value tv) (hs : swapsWith value (some (.Subscript o i pos')) pos.line X.env = pure false) :
    PS X (.Assign [.Subscript o i pos'] value pos) (sDPut td ty tv) := by
  intro pins s σ H D I h
  refine wpAny_Assign_Subscript (thn (hv pins s σ H _ I h) fun r s1 ⟨v, H1, I1, rv, q1⟩ => thn (ho pins s1 σ H1 _ I1 q1) fun u s2 ⟨x, H2, I2, rx, q2⟩ => thn (hi pins s2 σ H2 _ I2 q2) fun iv s3 ⟨y, H3, I3, ry, a, H4, ex, g, q3⟩ => ?_) hs
  subst ex
  obtain rfl : u = Value.ref a := rx
  exact d_setItem hu I3 g ry rv fun s4 I4 => ⟨σ, H4, I4, q3⟩
end
theorem dk_empty {P : Program} {w : World} {H : Hp} (h : Heap) (hb : sysModules < h.objs.size) : ObjOk P w H (h.push { cls := .type "dict", data := .dict #[] }) h.objs.size (.dK []) :=
  ⟨Nat.zero_le _, beq_eq_false_iff_ne.mpr (Ne.symm (Nat.ne_of_lt hb)), [], .nil, Heap.DictOf.new h⟩
theorem dt_empty {P : Program} {w : World} {H : Hp} (h : Heap) (hb : sysModules < h.objs.size) : ObjOk P w H (h.push { cls := .type "dict", data := .dict #[] }) h.objs.size (.dT []) :=
  ⟨Nat.zero_le _, beq_eq_false_iff_ne.mpr (Ne.symm (Nat.ne_of_lt hb)), [], .nil, _, #[], 0, Heap.get?_push_size _ rfl, ⟨rfl, rfl, rfl⟩, rfl, rfl, List.nodup_nil⟩
def tDNewK : TE := fun _ H Q => ∀ p, H p = none → Q (.ref p) (upd H p (.dK []))
def tDNewT : TE := fun _ H Q => ∀ p, H p = none → Q (.ref p) (upd H p (.dT []))
section
variable {X : Cx} {pos : Pos}
theorem pe_dnewK : PE X (.Dict [] [] pos) tDNewK := fun pins s σ H Q I h =>
  wpAny_Dict_empty ⟨.ref s.heap.objs.size, _, I.laid (a := s.heap.objs.size) (o := .dK []) (t' := s.toks) (fun _ _ q => Heap.get?_push_of_some _ q) (Nat.le_refl _) (dk_empty s.heap I.big), rfl, h _ (I.hok.fresh (Nat.le_refl _))⟩
theorem pe_dnewT : PE X (.Dict [] [] pos) tDNewT := fun pins s σ H Q I h =>
  wpAny_Dict_empty ⟨.ref s.heap.objs.size, _, I.laid (a := s.heap.objs.size) (o := .dT []) (t' := s.toks) (fun _ _ q => Heap.get?_push_of_some _ q) (Nat.le_refl _) (dt_empty s.heap I.big), rfl, h _ (I.hok.fresh (Nat.le_refl _))⟩
end
def tPairs : List (TE × TE) → St → Hp → (List (V × V) → Hp → Prop) → Prop
  | [], _, H, Q => Q [] H
  | (tk, tv) :: r, σ, H, Q => tk σ H fun x H1 => tv σ H1 fun y H2 => tPairs r σ H2 fun ps H3 => Q ((x, y) :: ps) H3
abbrev VV : List (V × V) → List (Value × Value) → Prop := Paired fun p q => RelV p.1 q.1 ∧ RelV p.2 q.2
def PPs (X : Cx) (pos : Pos) (keys : List (Option Expr)) (values : List Expr) (trs : List (TE × TE)) : Prop :=
  ∀ (pins : List (Addr × Obj)) (s : Shared) (σ : St) (H : Hp) (Q : List (V × V) → Hp → Prop), Inv X pins σ H s → tPairs trs σ H Q →
    wpAny (model X.prog X.w) X.A (evalPairs (pairTrees keys values X.env pos)) (fun vs s' => ∃ ps H', Inv X pins σ H' s' ∧ VV ps vs ∧ Q ps H') X.xe s
theorem pps_nil {X : Cx} {pos : Pos} : PPs X pos [] [] [] := fun pins s σ H Q I h => pairTrees_nil_walk ⟨[], H, I, .nil, h⟩
theorem pps_cons {X : Cx} {pos : Pos} {k v : Expr} {ks : List (Option Expr)} {vs : List Expr} {tk tv : TE} {trs : List (TE × TE)} (hk : PE X k tk) (hv : PE X v tv) (hr : PPs X pos ks vs trs) :
    PPs X pos (some k :: ks) (v :: vs) ((tk, tv) :: trs) := fun pins s σ H Q I h =>
  pairTrees_cons_walk (thn (hk pins s σ H _ I h) fun u s1 ⟨x, H1, I1, rx, q1⟩ => thn (hv pins s1 σ H1 _ I1 q1) fun w2 s2 ⟨y, H2, I2, ry, q2⟩ =>
    thn (hr pins s2 σ H2 _ I2 q2) fun ws s3 ⟨ps, H3, I3, rel, q3⟩ => ⟨(x, y) :: ps, H3, I3, .cons ⟨rx, ry⟩ rel, q3⟩)
def mergeK (kvs more : List (Key × V)) : List (Key × V) := more.foldl (fun acc kv => putK acc kv.1 kv.2) kvs
theorem KV.merge : ∀ {more : List (Key × V)} {rs : List (Key × Value)} {kvs : List (Key × V)} {vs : List (Key × Value)}, KV more rs → KV kvs vs → KV (mergeK kvs more) (merged vs rs) := by
  intro more rs kvs vs r
  unfold KV at r
  induction r generalizing kvs vs with
  | nil => intro q; exact q
  | @cons p q ps qs h t ih =>
    intro r0
    have e : KV (putK kvs p.1 p.2) (stored vs q.1 q.2) := by
      have := r0.put p.1 h.2
      rw [← h.1]; exact this
    exact ih e
theorem length_mergeK : ∀ (more kvs : List (Key × V)), (mergeK kvs more).length ≤ kvs.length + more.length
  | [], kvs => by show kvs.length ≤ kvs.length + 0; omega
  | p :: r, kvs => by
    have h1 := length_mergeK r (putK kvs p.1 p.2)
    have h2 := length_putK kvs p.1 p.2
    show (mergeK (putK kvs p.1 p.2) r).length ≤ _
    rw [List.length_cons]; omega
theorem carries_of {P : Program} {w : World} : ∀ {kvs : List (Key × V)} {ws : List (Value × Value)}, VV (kvs.map fun kv => (kV kv.1, kv.2)) ws → ∃ rs, Carries (mixKind P w) ws rs ∧ KV kvs rs
  | [], _, r => by rw [List.map_nil] at r; cases r; exact ⟨[], True.intro, .nil⟩
  | p :: kvs, _, r => by
    rw [List.map_cons] at r
    cases r with
    | @cons a b as bs h t =>
      obtain ⟨rs, c, q⟩ := carries_of (P := P) (w := w) t
      obtain ⟨b1, b2⟩ := b
      exact ⟨(p.1, b2) :: rs, ⟨kV_is h.1, rfl, c⟩, .cons ⟨rfl, h.2⟩ q⟩
def tDisp (trs : List (TE × TE)) : TE := fun σ H Q => ∀ p, H p = none → tPairs trs σ (upd H p (.dK [])) fun ps H2 => H2 p = some (.dK []) ∧ ∃ kvs : List (Key × V), ps = kvs.map (fun kv => (kV kv.1, kv.2)) ∧ kvs.length ≤ 15 ∧ Q (.ref p) (upd H2 p (.dK (mergeK [] kvs)))
theorem pe_disp {X : Cx} {pos : Pos} {keys : List (Option Expr)} {values : List Expr} {trs : List (TE × TE)} (h : PPs X pos keys values trs) (hall : keys.all (·.isSome) = true) (hl : keys.length = values.length) (h0 : keys ≠ [])
    (h15 : keys.length ≤ 15) : PE X (.Dict keys values pos) (tDisp trs) := by
  intro pins s σ H Q I q
  have hn := I.hok.fresh (Nat.le_refl s.heap.objs.size)
  have I1 := I.laid (a := s.heap.objs.size) (o := .dK []) (h' := s.heap.push { cls := .type "dict", data := .dict #[] }) (t' := s.toks) (fun _ _ q => Heap.get?_push_of_some _ q) (Nat.le_refl _) (dk_empty s.heap I.big)
  refine wpAny_Dict_walk (knd := mixKind X.prog X.w) hall hl h0 h15 (thn (h pins _ σ _ _ I1 (q _ hn)) fun ws s2 ⟨ps, H2, I2, rel, e, kvs, ep, lk, q2⟩ => ?_)
  subst ep
  obtain ⟨rs, c, rk⟩ := carries_of (P := X.prog) (w := X.w) rel
  obtain ⟨z, hd, vs0, r0, dd⟩ := dk_of I2.hok e
  cases r0
  refine ⟨rs, c, dd, fun h' dd' hs => ⟨.ref s.heap.objs.size, _, ?_, rfl, q2⟩⟩
  have hz : (mergeK [] kvs).length ≤ sizeLine := by
    have h1 := length_mergeK kvs []
    rw [List.length_nil] at h1
    rw [sizeLine_eq]; omega
  have he : ∃ q, h'.get? s.heap.objs.size = some q := let ⟨q, _, _, hq, _⟩ := dd'; ⟨q, hq⟩
  exact d_write I2 (by rw [e]; exact True.intro) hs he (dk_new hz hd (rk.merge .nil) dd')
structure M1 (X : Cx) (o : Expr) (m : Str) (apos : Pos) (e : Expr) (cpos : Pos) : Prop where
  base : attributeBase o m X.env (eval o X.env) = eval o X.env
  few : ((backTo cpos (starEach [e] X.env)).all (fun x => !x.1) && (backToKw cpos (keywordEach [] X.env)).all (fun x => x.1.isSome)
    && decide (([e] : List Expr).length + ([] : List Keyword).length + (if ([] : List Keyword).isEmpty then 0 else 1) < 30)) = true
  line : (apos.endLine == cpos.line) = true
  trees : backTo cpos (starEach [e] X.env) = [(false, eval e X.env)]
structure M2 (X : Cx) (o : Expr) (m : Str) (apos : Pos) (e f : Expr) (cpos : Pos) : Prop where
  base : attributeBase o m X.env (eval o X.env) = eval o X.env
  few : ((backTo cpos (starEach [e, f] X.env)).all (fun x => !x.1) && (backToKw cpos (keywordEach [] X.env)).all (fun x => x.1.isSome)
    && decide (([e, f] : List Expr).length + ([] : List Keyword).length + (if ([] : List Keyword).isEmpty then 0 else 1) < 30)) = true
  line : (apos.endLine == cpos.line) = true
  trees : backTo cpos (starEach [e, f] X.env) = [(false, eval e X.env), (false, eval f X.env)]
def IsD (H : Hp) (a : Addr) : Prop := (∃ kvs, Rd H a (.dK kvs)) ∨ ∃ kvs, Rd H a (.dT kvs)
theorem isD_at {X : Cx} {pins : List (Addr × Obj)} {σ : St} {H : Hp} {s : Shared} {a : Addr} (I : Inv X pins σ H s) (d : IsD H a) :
    s.TypeIs (.ref a) "dict" ∧ (∀ b, Value.ref a = .ref b → ∃ ob, s.heap.get? b = some ob ∧ ob.dict = none) ∧ (a == sysModules) = false := by
  rcases d with ⟨kvs, e⟩ | ⟨kvs, e⟩
  · obtain ⟨_, hd, vs, _, dd⟩ := dk_rd I.hok e
    refine ⟨dd.typeIs, fun b q => ?_, hd⟩
    cases q
    obtain ⟨ob, _, _, h1, h2, _⟩ := dd
    exact ⟨ob, h1, h2.2.1⟩
  · obtain ⟨_, hd, xs, _, dd⟩ := dt_rd I.hok e
    refine ⟨dd.typeIs, fun b q => ?_, hd⟩
    cases q
    obtain ⟨ob, _, _, h1, h2, _⟩ := dd
    exact ⟨ob, h1, h2.2.1⟩
section
variable {X : Cx} {pins : List (Addr × Obj)} {σ : St} {H : Hp} {s : Shared} {a : Addr} {y d : V} {u r : Value} {o : Option V} {A : Around} {E : Value → Shared → Prop}
end
section
variable {X : Cx} {o e f : Expr} {apos cpos : Pos} {td ty tx : TE}
end
section
variable {X : Cx} {pins : List (Addr × Obj)} {σ : St} {H : Hp} {s : Shared} {a : Addr} {kvs : List (Key × V)} {A : Around} {E : Value → Shared → Prop}
end
section
variable {X : Cx} {pins : List (Addr × Obj)} {σ : St} {H : Hp} {s : Shared} {a : Addr} {y : V} {u : Value} {A : Around} {E : Value → Shared → Prop}
end
end L2
namespace Att
open PySem PySem.W PySem.Calls PyProof.Rows
theorem ints_of_wellAll {P : Params} {h : Heap} : ∀ (ns : List Int) (vs : List Value), WellAll P h vs (ns.map WData.int) → IntsAre vs ns := by
  intro ns
  induction ns with
  | nil =>
    intro vs w
    rw [List.map_nil] at w
    cases w
    exact .nil
  | cons n ns ih =>
    intro vs w
    rw [List.map_cons] at w
    cases w with
    | cons a b =>
      cases a
      exact .cons _ _ (ih _ b)
theorem script_of {l : OpenLaw} {n : Nat} (hn : l.most = some n) {P : Params} {h : Heap} {args : List WData} {vals : List Value}
    (hpre : l.row.toRowW.claim.pre args = true) (hwl : WellAll P h vals args) :
    ∃ a vs ns, vals = [Value.ref a] ∧ args = [WData.list (ns.map WData.int)] ∧ h.get? a = some { cls := .type "list", data := .seq vs.toArray } ∧ IntsAre vs ns ∧ ns.length ≤ n := by
  have hsh : WShape.hasAll [] args [.list .int] = true := (pre_splitW hpre).1
  have hc : l.pre.holds [] { args := args } = true := (pre_splitW hpre).2
  obtain ⟨d, r, rfl, h1, h2⟩ := hasAllW_cons hsh
  obtain rfl := hasAllW_nil h2
  obtain ⟨xs, rfl, h3⟩ := hasW_list h1
  obtain ⟨ns, rfl⟩ := items_int h3
  have hlen : ns.length ≤ n := by
    unfold OpenLaw.pre at hc
    have h4 : (WTm.not (.lt (.lit (.int (n : Int))) (.len (.arg 0)))).holds [] { args := [.list (ns.map .int)] } = true := by
      have h4 := (holds_andW hc).1
      rw [hn] at h4
      exact h4
    have h5 := condW_of h4 (w_not (w_lt w_lit (w_len_list (w_arg rfl))))
    rw [List.length_map] at h5
    refine Nat.le_of_not_lt fun q => ?_
    have q' : (n : Int) < ((ns.length : Nat) : Int) := by omega
    first
      | (rw [decide_eq_true q'] at h5; exact absurd h5 (by decide))
      | (simp at h5; omega)
  cases hwl with
  | cons w1 w2 =>
    cases w2
    cases w1 with
    | list ho hall => exact ⟨_, _, ns, rfl, rfl, ho, ints_of_wellAll ns _ hall, hlen⟩
theorem post_true (l : OpenLaw) (args : List WData) : l.row.toRowW.claim.post args (.bool true) args = true :=
  postW_of (r := l.row.toRowW) (X := (true == true))
    (show WShape.has [] (.bool true) .bool = true by first | rfl | decide | simp [WShape.has, WShape.arms, WShape.armsAll])
    (show (WTm.eq .res (.lit (.bool true))).value [] { args := args, res := some (.bool true), after := args } = some (.bool (true == true)) from w_eq_bool (w_res rfl) w_lit) rfl
theorem attach_call {l : OpenLaw} {n : Nat} {q : Program} {loose : List Str} {XP : (Str → Option Value) → Heap → Prop} {YP : World → Heap → Prop} {d : DefRec}
    (hn : l.most = some n) (hdf : d.params.defaults = [])
    (call : ∀ (w : World) (s₀ s₁ : Shared) (mg mb : Str → Option Value) (fa : Addr) (o : Obj) (pm cd doc : Value) (a : Addr) (vs : List Value) (ns : List Int),
      Ground q loose [] XP w s₀ mg mb s₁.heap → YP w s₁.heap →
      s₁.heap.get? fa = some o → o.data = .func (docDef d.name d.params d.body d.scope pm cd doc) → s₁.heap.CodeRec cd d.name → mg d.name = some (.ref fa) →
      s₁.heap.get? a = some { cls := .type "list", data := .seq vs.toArray } → IntsAre vs ns → ns.length ≤ n → s₁.gens = #[] →
      codeAny (model l.prog w) callerA (.call (.ref fa) ⟨[.ref a], []⟩) (fun r s' => r = .ok (.ret (.bool true)) ∧ OldK s₁.heap s'.heap ∧ s'.os = s₁.os ∧ AllBare s'.gens) s₁) :
    WalkO q loose XP YP l.row.toRowW d [] (fun f vs => PySem.call f vs) := by
  intro w s₀ s₁ mg mb G Y fa o pm cd doc dV kV ho hd hcd hD hmg hg args vals as hpre hlay hrd hwl hlo
  obtain rfl : dV = .none := Dflts.none hD hdf
  obtain rfl : kV = .none := Dflts.noKw hD
  obtain ⟨a, vs, ns, rfl, rfl, hobj, hints, hlen⟩ := script_of hn hpre hwl
  refine enter_call (codeAny_mono (call w s₀ s₁ mg mb fa o pm cd doc a vs ns G Y ho (fd_plain hd) hcd hmg hobj hints hlen hg) fun r s' hq => ?_)
  obtain ⟨rfl, h2, h3, h4⟩ := hq
  exact ⟨.inl ⟨.bool true, .bool true, [], rfl, fun _ => rfl, .bool true, post_true l _, fun _ => ⟨List.Pairwise.nil, fun _ hm => (nomatch hm)⟩⟩, h2, h3, h4⟩
section
variable {prog : Program} {w : World} {A : Around} {E : Value → Shared → Prop} {s : Shared} {K : Frag}
end
end Att
namespace L2
open PySem PySem.Spec PyProof.Rows
theorem vals_ints : ∀ {vs : List Value} {ns : List Int}, IntsAre vs ns → Vals (ns.map V.int) vs
  | _, _, .nil => .nil
  | _, _, .cons n t h => .cons ⟨t, rfl⟩ (vals_ints h)
def Only (H : Hp) : Prop := ∀ b, H b = none ∨ ∃ o xs, H b = some (.frz o (.lst xs))
theorem law_call {P : Program} {w : World} {K : PySem.W.Frag} {mg mb : Str → Option Value} {CX : CXT} {k : Nat} {fa a : Addr} {fd : FuncData} {x : Str} {sp : Sp} {s₁ : Shared} {vs : List Value} {ns : List Int}
    (KX : K.In s₁.heap) (hns : s₁.heap.Ns mainGlobals mg) (hb : s₁.heap.Ns builtinsNs mb) (hbb : ∀ x : Str, x ≠ "__name__" → mb x = bootBuiltins x) (hlim : s₁.heap.NoLimit) (hg : s₁.gens = #[])
    (ha : s₁.heap.get? a = some { cls := .type "list", data := .seq vs.toArray }) (hi : IntsAre vs ns) (hl : ns.length ≤ sizeLine) (hr : Room k callerA)
    (F : ∀ base : Heap, K.In base → base.Ns mainGlobals mg → FnOk P w K mg base CX k fa fd [x] sp) (hbind : ∀ (s : Shared) (u : Value), BindsTo s fd ⟨[u], []⟩ [(x, u)])
    (hsp : ∀ H : Hp, Only H → SqL K H a (ns.map V.int) → sp [.ref a] H (fun v _ => v = .bl true) fun _ _ _ => False)
    (hCX : ∀ H e s', CX [] H s₁ (fun _ _ _ => False) e s' → False) :
    codeAny (model P w) callerA (.call (.ref fa) ⟨[.ref a], []⟩) (fun r s' => r = .ok (.ret (.bool true)) ∧ OldK s₁.heap s'.heap ∧ s'.os = s₁.os ∧ AllBare s'.gens) s₁ := by
  have rv := vals_ints hi
  have lenV := hi.length
  have core : ∀ H : Hp, Only H → SqL K H a (ns.map V.int) → HOk P w H s₁.heap → (∀ b, H b ≠ none → b = a) → (H a ≠ none → K.lookup a = none) →
      codeAny (model P w) callerA (.call (.ref fa) ⟨[.ref a], []⟩) (fun r s' => r = .ok (.ret (.bool true)) ∧ OldK s₁.heap s'.heap ∧ s'.os = s₁.os ∧ AllBare s'.gens) s₁ := by
    intro H hO hS hok hA hK
    have base_of : ∀ {b : Addr} {o : Obj}, s₁.heap.get? b = some o → H b = none → (hidT s₁.heap H).get? b = some o := fun e n => hidT_get e n
    have noA : ∀ {b : Addr} {o : Obj} {es : Array DictEntry} {ep : Nat}, s₁.heap.get? b = some o → o.data = .dict es ep → H b = none := fun {b o es ep} e d => by
      cases q : H b with
      | none => rfl
      | some u =>
        have e' : b = a := hA b (by rw [q]; simp)
        subst e'
        rw [ha] at e; cases e
        have d' : Data.seq vs.toArray _ = Data.dict es ep := d
        cases d'
    have nsK : ∀ {b : Addr} {m : Str → Option Value}, s₁.heap.Ns b m → (hidT s₁.heap H).Ns b m := fun {b m} ⟨o, es, ep, e, d, r⟩ => ⟨o, es, ep, base_of e (noA e d), d, r⟩
    have hKb : K.In (hidT s₁.heap H) := fun b o e => base_of (KX b o e) (by
      cases q : H b with
      | none => rfl
      | some u =>
        have e' : b = a := hA b (by rw [q]; simp)
        subst e'
        rw [hK (by rw [q]; simp)] at e; cases e)
    have hM : Mod K mg (hidT s₁.heap H) := ⟨hKb, nsK hns, ⟨mb, nsK hb, hbb⟩, let ⟨mc, h1, h2⟩ := hlim; ⟨mc, nsK h1, h2⟩⟩
    have e0 : Env0 P w K mg (hidT s₁.heap H) callerA [] s₁ H := ⟨rfl, hM, fun b o e => of_hidT e, Nat.le_of_eq (hidT_size _ _), trivial, fun b hb => absurd (show b ∈ ([] : List Addr) from hb) (by simp), hok, .of_eq hg⟩
    refine codeAny_mono ((F _ hKb (nsK hns)).run callerA [] s₁ H ⟨[.ref a], []⟩ [.ref a] [.ref a] _ _ hr e0 (hbind s₁ (.ref a)) (.cons rfl .nil) (hsp H hO hS)) fun r s' h => ?_
    cases r with
    | error e => exact (hCX H e s' h).elim
    | ok fl =>
      cases fl with
      | next => exact False.elim h
      | brk => exact False.elim h
      | cont => exact False.elim h
      | ret u =>
        obtain ⟨v, H', os, bare, un, hok', r', q⟩ := h
        have q' : v = .bl true := q
        subst q'
        obtain rfl : u = Value.bool true := r'
        refine ⟨rfl, OldK.of_keep fun b o e => ?_, os, bare⟩
        cases q : H b with
        | none => exact un.keep b o e q (by intro z; exact absurd (show b ∈ ([] : List Addr) from z) (by simp)) (by simp)
        | some u =>
          rcases hO b with z | ⟨ob, xs, z⟩
          · rw [q] at z; cases z
          · have z2 := un.frzs b ob _ z
            obtain ⟨e1, _⟩ := hok b _ z
            obtain ⟨e2, _⟩ := hok' b _ z2
            rw [e] at e1; cases e1
            exact e2
  cases hk : K.lookup a with
  | some o =>
    have e := KX a o hk
    rw [ha] at e
    cases e
    refine core (fun _ => none) (fun _ => .inl rfl) (.inr ⟨_, vs.toArray, _, hk, rfl, rfl, rfl, by rw [List.size_toArray, lenV]; exact hl, by simpa using rv⟩) (fun b u z => by have z' : (none : Option HO) = some u := z; cases z') (fun b z => absurd rfl z) fun z => absurd rfl z
  | none =>
    refine core (fun b => if b = a then some (.frz { cls := .type "list", data := .seq vs.toArray } (.lst (ns.map V.int))) else none) (fun b => ?_) (.inl (.inr ⟨{ cls := .type "list", data := .seq vs.toArray }, if_pos rfl⟩)) (fun b u z => ?_) (fun b z => ?_) fun _ => hk
    · by_cases hb : b = a
      · exact .inr ⟨_, _, if_pos hb⟩
      · exact .inl (if_neg hb)
    · by_cases hb : b = a
      · have z' := (if_pos hb).symm.trans z
        cases z'
        subst hb
        exact ⟨ha, by rw [List.length_map]; exact hl, vs, _, rv, ha⟩
      · have z' := (if_neg hb).symm.trans z
        cases z'
    · by_cases hb : b = a
      · exact hb
      · exact absurd (if_neg hb) z
end L2
namespace L2
open PySem PySem.Spec PyProof.Rows
abbrev KOf {K : PySem.W.Frag} {h : Heap} (_ : K.In h) : PySem.W.Frag := K
theorem walk_of {l : PySem.W.OpenLaw} {n k : Nat} {q : Program} {loose : List Str} {XP : (Str → Option Value) → Heap → Prop} {YP : World → Heap → Prop} {d : DefRec} {K : Params → PySem.W.Frag} {CX : World → CXT} {sp : World → Sp} {x : Str}
    (hn : l.most = some n) (hn2 : n ≤ sizeLine) (hdf : d.params.defaults = []) (hr : Room k callerA)
    (hY : ∀ (w : World) (h : Heap), YP w h → (K w.params).In h)
    (F : ∀ (w : World) (mg : Str → Option Value) (fa : Addr) (h : Heap), (K w.params).In h → h.Ns mainGlobals mg → mg d.name = some (.ref fa) →
      ∃ fd : FuncData, (∀ (s : Shared) (u : Value), BindsTo s fd ⟨[u], []⟩ [(x, u)]) ∧
        ∀ base : Heap, (K w.params).In base → base.Ns mainGlobals mg → FnOk l.prog w (K w.params) mg base (CX w) k fa fd [x] (sp w))
    (hsp : ∀ (w : World) (H : Hp) (a : Addr) (ns : List Int), ns.length ≤ n → Only H → SqL (K w.params) H a (ns.map V.int) → sp w [.ref a] H (fun v _ => v = .bl true) fun _ _ _ => False)
    (hCX : ∀ (w : World) (H : Hp) (s : Shared) (e : Value) (s' : Shared), CX w [] H s (fun _ _ _ => False) e s' → False) :
    PySem.W.WalkO q loose XP YP l.row.toRowW d [] (fun f vs => PySem.call f vs) := by
  refine Att.attach_call hn hdf fun w s₀ s₁ mg mb fa o pm cd doc a vs ns G Y ho hd hcd hmg hobj hints hlen hg => ?_
  have KX := hY w _ Y
  obtain ⟨fd, hb, hF⟩ := F w mg fa _ KX G.T.g hmg
  exact law_call KX G.T.g G.T.b G.T.builtins G.T.nolimit hg hobj hints (Nat.le_trans hlen hn2) hr hF hb (fun H hO hS => hsp w H a ns hlen hO hS) fun H e s' => hCX w H s₁ e s'
theorem walk_ofK {l : PySem.W.OpenLaw} {n k : Nat} {q : Program} {loose : List Str} {XP : (Str → Option Value) → Heap → Prop} {YP : World → Heap → Prop} {d : DefRec} {K : Params → PySem.W.Frag} {CX : CXT} {sp : PySem.W.Frag → Sp} {x : Str}
    (hn : l.most = some n) (hn2 : n ≤ sizeLine) (hdf : d.params.defaults = []) (hr : Room k callerA)
    (hY : ∀ (w : World) (h : Heap), YP w h → (K w.params).In h)
    (F : ∀ (w : World) (mg : Str → Option Value) (fa : Addr) (h : Heap), (K w.params).In h → h.Ns mainGlobals mg → mg d.name = some (.ref fa) →
      ∃ fd : FuncData, (∀ (s : Shared) (u : Value), BindsTo s fd ⟨[u], []⟩ [(x, u)]) ∧
        ∀ base : Heap, (K w.params).In base → base.Ns mainGlobals mg → FnOk l.prog w (K w.params) mg base CX k fa fd [x] (sp (K w.params)))
    (hsp : ∀ (K : PySem.W.Frag) (H : Hp) (a : Addr) (ns : List Int), ns.length ≤ n → Only H → SqL K H a (ns.map V.int) → sp K [.ref a] H (fun v _ => v = .bl true) fun _ _ _ => False)
    (hCX : ∀ (H : Hp) (s : Shared) (e : Value) (s' : Shared), CX [] H s (fun _ _ _ => False) e s' → False) :
    PySem.W.WalkO q loose XP YP l.row.toRowW d [] (fun f vs => PySem.call f vs) :=
  walk_of (K := K) (CX := fun _ => CX) (sp := fun w => sp (K w.params)) hn hn2 hdf hr hY F (fun w H a ns h1 h2 h3 => hsp (K w.params) H a ns h1 h2 h3) fun _ H s e s' => hCX H s e s'
end L2
namespace L2
open PySem PySem.Spec PyProof.Rows
def defArgs (s : Stmt) : Arguments := match s with
  | .FunctionDef _ a _ _ _ _ _ _ _ _ => a
  | _ => { posonlyargs := [], args := [], vararg := none, kwonlyargs := [], kw_defaults := [], kwarg := none, defaults := [] }
def defBody (s : Stmt) : List Stmt := match s with
  | .FunctionDef _ _ b _ _ _ _ _ _ _ => b
  | _ => []
def defScope (s : Stmt) : Scope := match s with
  | .FunctionDef _ _ _ _ _ _ sc _ _ _ => sc
  | _ => { kind := .function, names := [], isGenerator := false, isCoroutine := false }
abbrev CX0 : CXT := fun _ _ _ _ _ _ => False
abbrev E0 : XK := fun _ _ _ => False
theorem pass0 {X : Cx} : Passes CX0 X E0 := fun _ _ _ _ _ _ _ h => h.elim
structure Fun (K : PySem.W.Frag) (x qual : Str) (st : Stmt) (f : Addr) (fd : FuncData) : Prop where
  ex : ∃ (oc : Value) (od : Option Addr) (kV doc pm : Value) (an : Option Addr) (cdv ct : Value) (osl : Array (Option Value)),
    fd = PySem.W.fnOf x qual (defArgs st) (defBody st) (defScope st) .none kV doc pm an cdv ct ∧ K.lookup f = some ⟨oc, od, .func fd, osl⟩ ∧ PySem.W.codeIn K cdv qual = true
  kp : PySem.W.keepIn K (.ref f) = true
section
variable {P : Program} {w : World} {K : PySem.W.Frag} {mg : Str → Option Value} {base : Heap}
theorem Fun.ok {x qual : Str} {st : Stmt} {f : Addr} {fd : FuncData} {N ps : List Str} {k : Nat} {sp : Sp} (F : Fun K x qual st f fd) (S : FnScope N ps (defScope st)) (len : ∀ vs H Q E, sp vs H Q E → vs.length = ps.length)
    (hbody : ∀ (cdv : Value) (A : Around) (outer : List Env) (s : Shared) (H : Hp) (vs : List V) (Q : VK) (E : XK), Room k (A.deeper (envOfC qual (defScope st) s.heap.objs.size f cdv)) → sp vs H Q E →
      ∃ t, PSs (cxOf CX0 P w K mg base N qual (defScope st) f cdv A outer s H E).nox (defBody st) t ∧ t { nx := fun _ H' => Q .non H', rt := Q } (start N vs) H) : FnOk P w K mg base CX0 (k + 1) f fd ps sp := by
  obtain ⟨oc, od, kV, doc, pm, an, cdv, ct, osl, rfl, lk, hcd⟩ := F.ex
  refine fn_of lk hcd S len fun A outer s H vs Q E hr hsp => ?_
  obtain ⟨t, h, q⟩ := hbody cdv A outer s H vs Q E hr hsp
  exact ⟨t, h.nox, q⟩
theorem Fun.binds {x qual : Str} {st : Stmt} {f : Addr} {fd : FuncData} {ps : List Str} (F : Fun K x qual st f fd)
    (h : ∀ (kV doc pm : Value) (an : Option Addr) (cdv ct : Value) (us : List Value), us.length = ps.length → bindArgs (PySem.W.fnOf x qual (defArgs st) (defBody st) (defScope st) .none kV doc pm an cdv ct) ⟨us, []⟩ = pure (ps.zip us)) : Binds K fd ps [] := by
  obtain ⟨oc, od, kV, doc, pm, an, cdv, ct, osl, rfl, lk, hcd⟩ := F.ex
  exact .all (h kV doc pm an cdv ct)
theorem fun_mk {x qual : Str} {st : Stmt} {f : Addr} {oc : Value} {od an : Option Addr} {osl : Array (Option Value)} {kV doc pm cdv ct : Value} (l : K.lookup f = some ⟨oc, od, .func (PySem.W.fnOf x qual (defArgs st) (defBody st) (defScope st) .none kV doc pm an cdv ct), osl⟩)
    (c : PySem.W.codeIn K cdv qual = true) (k : PySem.W.keepIn K (.ref f) = true) : Fun K x qual st f (PySem.W.fnOf x qual (defArgs st) (defBody st) (defScope st) .none kV doc pm an cdv ct) := ⟨⟨oc, od, kV, doc, pm, an, cdv, ct, osl, rfl, l, c⟩, k⟩
end
theorem hu_of {A : Around} {k : Nat} (hr : Room k A) : A.units + 1 < cLine := Nat.lt_of_le_of_lt (Nat.add_le_add_left (by decide : 1 ≤ 64) _) hr.units
theorem small1000 {n : Nat} (h : n ≤ 1000) : n < sizeLine := Nat.lt_of_le_of_lt h (by decide)
section
variable {X : Cx}
theorem pv (i : Nat) {x : Str} {pos : Pos} (hN : X.N[i]? = some x := by rfl) (hv : Vis X.env.scope x := by first | exact Or.inl rfl | exact Or.inr (Or.inl rfl) | exact Or.inr (Or.inr rfl)) (hd : (x == ("__debug__" : Str)) = false := by decide)
    (hcd : (x == ("__classdict__" : Str)) = false := by decide) : PE X (.Name x pos) (tVar i) := pe_var hN hv hd hcd
end
theorem ite2 {c A B : Prop} [Decidable c] (h1 : c → A) (h2 : ¬ c → B) : if c then A else B := by
  by_cases h : c
  · rw [if_pos h]
    exact h1 h
  · rw [if_neg h]
    exact h2 h
def Same (H H' : Hp) : Prop := ∀ b o, H b = some o → H' b = some o
theorem Same.refl (H : Hp) : Same H H := fun _ _ h => h
theorem Same.trans {H H1 H2 : Hp} (a : Same H H1) (b : Same H1 H2) : Same H H2 := fun c o h => b c o (a c o h)
theorem Same.free {H H' : Hp} (e : Same H H') {l : Addr} (h : H' l = Option.none) : H l = Option.none := by
  cases q : H l with
  | none => rfl
  | some o =>
    rw [e l o q] at h
    cases h
theorem Same.seq {K : PySem.W.Frag} {H H' : Hp} {a : Addr} {xs : List V} (e : Same H H') (h : SqL K H a xs) : SqL K H' a xs := by
  rcases h with (h | ⟨o, h⟩) | h
  · exact .inl (.inl (e _ _ h))
  · exact .inl (.inr ⟨o, e _ _ h⟩)
  · exact .inr h
section
variable {κ : Type} [DecidableEq κ]
end
end L2
set_option Elab.async false
set_option linter.all false
set_option maxRecDepth 100000
namespace L2
open PySem PySem.Spec PyProof.Rows
def closIn (cells : List (Str × Addr)) : List (Str × NameKind) → List (Str × Addr) → List (Str × Addr)
  | [], cs => cs
  | (n, k) :: r, cs => closIn cells r (if k == .free then (match cells.lookup n with | some c => (n, c) :: cs | none => cs) else cs)
def closOf (scope : Scope) (env : Env) : List (Str × Addr) := closIn env.cells scope.names []
theorem closIn_run (env : Env) : ∀ (names : List (Str × NameKind)) (cs : List (Str × Addr)), (∀ x ∈ names, x.2 = .free → ∃ c, env.cells.lookup x.1 = some c) →
    (forIn names cs fun (x : Str × NameKind) (r : List (Str × Addr)) => (if (x.2 == .free) = true then (do let a ← cellOf env x.1; pure (ForInStep.yield ((x.1, a) :: r))) else pure (ForInStep.yield r) : Sem (ForInStep (List (Str × Addr))))) = pure (closIn env.cells names cs) := by
  intro names
  induction names with
  | nil => intro cs _; rfl
  | cons x r ih =>
    intro cs h
    obtain ⟨n, k⟩ := x
    rw [List.forIn_cons]
    have hr : ∀ y ∈ r, y.2 = .free → ∃ c, env.cells.lookup y.1 = some c := fun y hy => h y (List.mem_cons_of_mem _ hy)
    unfold closIn
    by_cases hk : k = .free
    · subst hk
      obtain ⟨c, hc⟩ := h (n, .free) List.mem_cons_self rfl
      have e : cellOf env n = pure c := by unfold cellOf; rw [hc]
      rw [if_pos (show (NameKind.free == NameKind.free) = true from rfl), if_pos (show (NameKind.free == NameKind.free) = true from rfl), hc]
      show (cellOf env n >>= fun a => _) >>= _ = _
      rw [e]
      exact ih _ hr
    · have hb : (k == NameKind.free) = false := by simpa using hk
      rw [if_neg (show ¬ (k == NameKind.free) = true by rw [hb]; exact Bool.false_ne_true), if_neg (show ¬ (k == NameKind.free) = true by rw [hb]; exact Bool.false_ne_true)]
      exact ih _ hr
theorem closureFor_of {scope : Scope} {env : Env} (h : ∀ x ∈ scope.names, x.2 = .free → ∃ c, env.cells.lookup x.1 = some c) : closureFor scope env = pure (closOf scope env) := by
  have run := closIn_run env scope.names [] h
  unfold closureFor closOf
  have e : (forIn scope.names ([] : List (Str × Addr)) fun (x : Str × NameKind) (r : List (Str × Addr)) => (match x with
      | (name, kind) => if (kind == NameKind.free) = true then (do let a ← cellOf env name; pure (ForInStep.yield ((name, a) :: r))) else pure (ForInStep.yield r) : Sem (ForInStep (List (Str × Addr))))) = pure (closIn env.cells scope.names []) := run
  show (forIn scope.names ([] : List (Str × Addr)) _ >>= fun cs => pure cs) = _
  exact (congrArg (fun m : Sem (List (Str × Addr)) => m >>= fun cs => pure cs) e)
theorem closIn_old (cells : List (Str × Addr)) : ∀ (names : List (Str × NameKind)) (cs : List (Str × Addr)), (∀ p ∈ cs, cells.lookup p.1 = some p.2) → ∀ p ∈ closIn cells names cs, cells.lookup p.1 = some p.2
  | [], cs, h => h
  | (n, k) :: r, cs, h => by
    unfold closIn
    refine closIn_old cells r _ fun p hp => ?_
    by_cases hk : (k == NameKind.free) = true
    · rw [if_pos hk] at hp
      cases e : cells.lookup n with
      | none => rw [e] at hp; exact h p hp
      | some c =>
        rw [e] at hp
        rcases List.mem_cons.mp hp with rfl | hp
        · exact e
        · exact h p hp
    · rw [if_neg hk] at hp
      exact h p hp
theorem closOf_old {scope : Scope} {env : Env} {x : Str} {c : Addr} (h : (closOf scope env).lookup x = some c) : env.cells.lookup x = some c :=
  closIn_old env.cells scope.names [] (fun _ z => nomatch z) (x, c) (PySem.mem_of_lookup h)
theorem lookup_isSome_of_mem {cs : List (Str × Addr)} {x : Str} {c : Addr} (h : (x, c) ∈ cs) : ∃ d, cs.lookup x = some d := by
  induction cs with
  | nil => cases h
  | cons p r ih =>
    obtain ⟨y, d⟩ := p
    by_cases e : x == y
    · exact ⟨d, by rw [List.lookup_cons, e]⟩
    · rcases List.mem_cons.mp h with z | z
      · cases z; simp at e
      · obtain ⟨d', q⟩ := ih z
        exact ⟨d', by simp only [Bool.not_eq_true] at e; rw [List.lookup_cons, e]; exact q⟩
theorem closIn_mono (cells : List (Str × Addr)) : ∀ (names : List (Str × NameKind)) (cs : List (Str × Addr)) (p : Str × Addr), p ∈ cs → p ∈ closIn cells names cs
  | [], _, _, h => h
  | (n, k) :: r, cs, p, h => by
    unfold closIn
    refine closIn_mono cells r _ p ?_
    split
    · split
      · exact List.mem_cons_of_mem _ h
      · exact h
    · exact h
theorem closIn_new (cells : List (Str × Addr)) {x : Str} {c : Addr} (hc : cells.lookup x = some c) : ∀ (names : List (Str × NameKind)) (cs : List (Str × Addr)), (x, NameKind.free) ∈ names → (x, c) ∈ closIn cells names cs
  | [], _, h => nomatch h
  | (n, k) :: r, cs, h => by
    unfold closIn
    rcases List.mem_cons.mp h with z | z
    · cases z
      refine closIn_mono cells r _ _ ?_
      rw [if_pos (show (NameKind.free == NameKind.free) = true from rfl), hc]
      exact List.mem_cons_self
    · exact closIn_new cells hc r _ z
theorem closOf_new {scope : Scope} {env : Env} {x : Str} {c : Addr} (h : (x, NameKind.free) ∈ scope.names) (hc : env.cells.lookup x = some c) : (closOf scope env).lookup x = some c := by
  obtain ⟨d, e⟩ := lookup_isSome_of_mem (closIn_new env.cells hc scope.names [] h)
  have e' : (closOf scope env).lookup x = some d := e
  rw [e', ← closOf_old e', hc]
def blk (X : Cx) (scope : Scope) (N : List Str) (s : Shared) (H : Hp) (C : Addr) (fp : List Addr) : Cx where
  prog := X.prog
  w := X.w
  K := X.K
  mg := X.mg
  base := X.base
  A := X.A
  N := N
  s₀ := s
  H₀ := H
  env := compEnvC scope (closOf scope X.env) C X.env
  outer := X.stack
  stack := X.stack
  ex := fp
  fn := fun _ => false
  calm := X.calm
  pn := []
  xe := fun _ _ => False
def capt (σ : St) (js : List Nat) : St := js.map fun j => (σ[j]?).getD none
def capN (N : List Str) (js : List Nat) : List Str := js.map fun j => (N[j]?).getD ""
def bst (n : Nat) (σ : St) (js : List Nat) : St := List.replicate n none ++ capt σ js
theorem bst_len {n : Nat} {σ : St} {js : List Nat} : (bst n σ js).length = n + js.length := by unfold bst capt; simp
end L2
set_option Elab.async false
set_option linter.all false
set_option maxRecDepth 100000
namespace L2
open PySem PySem.Spec PyProof.Rows
section
variable {P : Program} {w : World} {A : Around} {R : Result → Shared → Prop} {s : Shared}
theorem compLoop_by {elt tg iter : Expr} {ifs : List Expr} {scope : Scope} {pos : Pos} {it acc : Value} {env : Env} (J : Nat → Shared → Prop)
    (turn : ∀ n s, J n s → wpAny (model P w) A (pyNext it) (fun r s1 => match r with
      | none => R (.ok .next) s1
      | some v => wpAny (model P w) A (letOwnedTupleGo tg it v) (fun _ s2 => wpAny (model P w) A (assign tg env v) (fun _ s3 =>
          wpAny (model P w) A (forIn ifs true fun c r => if r = true then do let ok ← isTrue c env (eval c env); pure (ForInStep.yield ok) else pure (ForInStep.yield r)) (fun ok s4 =>
            if ok = true then wpAny (model P w) A (eval elt env) (fun x s5 => wpAny (model P w) A (call (.builtin "list.append") [acc, x]) (fun _ s6 => ∃ m, m < n ∧ J m s6) (fun _ _ => False) s5) (fun _ _ => False) s4
            else ∃ m, m < n ∧ J m s4) (fun _ _ => False) s3) (fun _ _ => False) s2) (fun _ _ => False) s1) (fun _ _ => False) s)
    (n : Nat) (h : J n s) : codeAny (model P w) A (.compLoop (.ListComp elt [⟨tg, iter, ifs, 0⟩] scope pos) 0 it acc env) R s := by
  have no : ∀ {α : Type} {t : Sem α} {Q Q' : α → Shared → Prop} {E : Value → Shared → Prop} {s : Shared}, wpAny (model P w) A t Q (fun _ _ => False) s → (∀ a s, Q a s → Q' a s) → wpAny (model P w) A t Q' E s :=
    fun h hq => wpAny_mono h hq fun _ _ f => f.elim
  refine codeAny_loop rfl J (fun n s hJ => ?_) n h
  show wpAny _ A ((compTurn (.ListComp elt [⟨tg, iter, ifs, 0⟩] scope pos) 0 it acc env).onRaise (fun x => do noteFrame x env; theTreesLotGoes x)) _ _ s
  refine wpAny_noted ?_
  rw [compTurn_list]
  refine wpAny_bind (wpAny_standAt (wpAny_bind (no (turn n s hJ) fun r s1 h1 => ?_)))
  cases r with
  | none => exact wpAny_pure h1
  | some v =>
    refine wpAny_bind (no h1 fun _ s2 h2 => wpAny_bind (no h2 fun _ s3 h3 => wpAny_bind (no h3 fun ok s4 h4 => ?_)))
    cases ok with
    | false => exact wpAny_pure ⟨rfl, h4⟩
    | true => exact wpAny_bind (wpAny_bind (no h4 fun x s5 h5 => wpAny_bind (no h5 fun _ s6 h6 => wpAny_pure (wpAny_pure ⟨rfl, h6⟩))))
end
def PTs (X : Cx) (ifs : List Expr) (t : TT) : Prop :=
  ∀ (pins : List (Addr × Obj)) (s : Shared) (σ : St) (H : Hp) (Q : Bool → Hp → Prop), Inv X pins σ H s → t σ H Q →
    wpAny (model X.prog X.w) X.A (forIn ifs true fun c r => if r = true then do let ok ← isTrue c X.env (eval c X.env); pure (ForInStep.yield ok) else pure (ForInStep.yield r)) (TP X pins σ Q) X.xe s
def tAll : TT := fun _ H Q => Q true H
theorem pts_nil {X : Cx} : PTs X [] tAll := fun _ _ _ H _ I h => wpAny_tests_nil ⟨H, I, h⟩
theorem pts_one {X : Cx} {c : Expr} {t : TT} (h : PT X c t) : PTs X [c] t := fun pins s σ H Q I hq => wpAny_tests_one (h pins s σ H Q I hq)
def CompW (J : It) (n : Nat) (js : List Nat) (g : TG) (tc : TT) (te : TE) (Q : VK) (σ : St) (H1 : Hp) : Prop := ∃ W : Nat → Nat → List V → Hp → Prop, (∃ m, W 0 m [] H1) ∧ ∀ i m ys H, W i m ys H →
  (J.stop i H ∧ ys.length ≤ sizeLine ∧ ∀ l, H l = none → Q (.ref l) (upd H l (.lst ys))) ∨
  (J.go i H ∧ ys.length < sizeLine ∧ ∃ N : List V → Hp → Prop, (∀ zs H', N zs H' → ∃ m', m' < m ∧ W (i + 1) m' zs H') ∧ ∀ x H', J.yld i H x H' → g x (bst n σ js) H' fun σ2 H2 => σ2.drop n = capt σ js ∧ tc σ2 H2 fun b H3 =>
    if b = true then te σ2 H3 fun v H4 => N (ys ++ [v]) H4 else N ys H3)
def tComp (n : Nat) (js : List Nat) (wi : TI) (g : TG) (tc : TT) (te : TE) : TE := fun σ H Q => wi σ H fun J H1 => CompW J n js g tc te Q σ H1
section
variable {X : Cx}
structure Blk (X : Cx) (scope : Scope) (own : List Str) (js : List Nat) : Prop where
  kind : scope.kind = .function
  nocell : ∀ y ∈ scope.names, y.2 ≠ .cell
  names : ∀ y ∈ scope.names, y.2 = .local → scope.names.lookup y.1 = some .local
  free : ∀ y ∈ scope.names, y.2 = .free → X.env.kindOf y.1 = some .cell ∨ X.env.kindOf y.1 = some .free
  uniq : ∀ x, (x, NameKind.free) ∈ scope.names → scope.names.lookup x = some .free
  nd : (own ++ capN X.N js).Nodup
  cap : ∀ j ∈ js, j < X.N.length ∧ ((X.N[j]?).getD "", NameKind.free) ∈ scope.names
def blkB (sc : Scope) (N : List Str) (scope : Scope) (own : List Str) (js : List Nat) : Bool :=
  scope.kind == .function && scope.names.all (fun y => y.2 != .cell) && scope.names.all (fun y => y.2 != .local || scope.names.lookup y.1 == some .local) &&
  scope.names.all (fun y => y.2 != .free || sc.names.lookup y.1 == some .cell || sc.names.lookup y.1 == some .free) && scope.names.all (fun y => y.2 != .free || scope.names.lookup y.1 == some .free) &&
  decide (own ++ capN N js).Nodup && js.all (fun j => decide (j < N.length) && scope.names.any fun y => y.1 == (N[j]?).getD "" && y.2 == .free)
theorem Blk.of {scope : Scope} {own : List Str} {js : List Nat} (sc : Scope) (N : List Str) (h : blkB sc N scope own js = true := by decide +kernel) (e1 : X.env.scope = sc := by rfl) (e2 : X.N = N := by rfl) : Blk X scope own js := by
  subst e1 e2
  unfold blkB at h
  simp only [Bool.and_eq_true, List.all_eq_true, decide_eq_true_eq, beq_iff_eq] at h
  obtain ⟨⟨⟨⟨⟨⟨h1, h2⟩, h3⟩, h4⟩, h5⟩, h6⟩, h7⟩ := h
  refine ⟨h1, fun y hy => by simpa using h2 y hy, fun y hy e => ?_, fun y hy e => ?_, fun x hx => ?_, h6, fun j hj => ?_⟩
  · have := h3 y hy
    simpa [e] using this
  · have := h4 y hy
    simp only [e, bne_self_eq_false, Bool.false_or, Bool.or_eq_true, beq_iff_eq] at this
    exact this
  · have := h5 _ hx
    simpa using this
  · obtain ⟨a, b⟩ := h7 j hj
    refine ⟨a, ?_⟩
    obtain ⟨y, hy, e⟩ := List.any_eq_true.mp b
    simp only [Bool.and_eq_true, beq_iff_eq] at e
    obtain ⟨e1, e2⟩ := e
    rw [← e1, ← e2]
    exact hy
theorem lookup_relabel {env : Env} : ∀ {names : List (Str × NameKind)} {x : Str} {k : NameKind},
    (names.map fun (n, k) => if (k == NameKind.free && env.scope.kind == .function && env.kindOf n == some .cell) then (n, NameKind.cell) else (n, k)).lookup x = some k → names.lookup x = some k ∨ (k = .cell ∧ names.lookup x = some .free)
  | [], _, _, h => by simp at h
  | (n, q) :: r, x, k, h => by
    have ih := @lookup_relabel env r x k
    cases hx : x == n with
    | true =>
      by_cases hc : (q == NameKind.free && env.scope.kind == .function && env.kindOf n == some .cell) = true
      · simp only [List.map_cons, if_pos hc, List.lookup_cons, hx] at h
        cases h
        simp only [Bool.and_eq_true, beq_iff_eq] at hc
        obtain ⟨⟨hq, _⟩, _⟩ := hc
        subst hq
        exact .inr ⟨rfl, by rw [List.lookup_cons, hx]⟩
      · simp only [List.map_cons, if_neg hc, List.lookup_cons, hx] at h
        cases h
        exact .inl (by rw [List.lookup_cons, hx])
    | false =>
      have h' : (r.map fun (n, k) => if (k == NameKind.free && env.scope.kind == .function && env.kindOf n == some .cell) then (n, NameKind.cell) else (n, k)).lookup x = some k := by
        by_cases hc : (q == NameKind.free && env.scope.kind == .function && env.kindOf n == some .cell) = true
        · simp only [List.map_cons, if_pos hc, List.lookup_cons, hx] at h
          exact h
        · simp only [List.map_cons, if_neg hc, List.lookup_cons, hx] at h
          exact h
      rcases ih h' with z | ⟨z, z'⟩
      · exact .inl (by rw [List.lookup_cons, hx]; exact z)
      · exact .inr ⟨z, by rw [List.lookup_cons, hx]; exact z'⟩
theorem blk_inv {scope : Scope} {own : List Str} {js : List Nat} {pins : List (Addr × Obj)} {σ : St} {H : Hp} {s : Shared} {fp : List Addr} {C : Addr} {h1 : Heap} {tk : Nat} (B : Blk X scope own js) (I : Inv X pins σ H s)
    (hfp : ∀ b ∈ fp, FpOk X pins H b) (hfo : ∀ b ∈ fp, ∃ o, s.heap.get? b = some o) (hC : s.heap.objs.size ≤ C) (hns : h1.Ns C fun _ => none) (hk : ∀ b o, s.heap.get? b = some o → h1.get? b = some o) :
    Inv (blk X scope (own ++ capN X.N js) s H C fp) [] (bst own.length σ js) H { s with heap := h1, toks := tk } := by
  have kindC : ∀ x, (blk X scope (own ++ capN X.N js) s H C fp).env.kindOf x = some .cell ∨ (blk X scope (own ++ capN X.N js) s H C fp).env.kindOf x = some .free → (x, NameKind.free) ∈ scope.names := fun x hx => by
    have hx' : (relabel scope X.env).names.lookup x = some .cell ∨ (relabel scope X.env).names.lookup x = some .free := hx
    rcases hx' with z | z
    · rcases lookup_relabel z with q | ⟨_, q⟩
      · exact absurd rfl (B.nocell _ (PySem.mem_of_lookup q))
      · exact PySem.mem_of_lookup q
    · rcases lookup_relabel z with q | ⟨_, q⟩
      · exact PySem.mem_of_lookup q
      · exact PySem.mem_of_lookup q
  have has : ∀ x, (x, NameKind.free) ∈ scope.names → ∃ c, X.env.cells.lookup x = some c := fun x hx => I.ok.has x (B.free (x, .free) hx rfl)
  have old : ∀ {x c}, (closOf scope X.env).lookup x = some c → X.env.cells.lookup x = some c := fun e => closOf_old e
  have cellLt : ∀ {x c}, X.env.cells.lookup x = some c → c < s.heap.objs.size := fun {x c} e => by
    obtain ⟨v, o, ho, _⟩ := I.cell x c e
    exact Heap.lt_size ho
  have fpLt : ∀ b ∈ fp, b < s.heap.objs.size := fun b hb => let ⟨_, e⟩ := hfo b hb; Heap.lt_size e
  have fsOk : ∀ b ∈ frs X.stack, b ∈ X.env.locals :: X.fs := I.stkSub
  refine ⟨⟨I.ok.mod, ?_, I.ok.glob, I.ok.blt, hC, fun x y c e1 e2 => I.ok.inj x y c (old e1) (old e2), fun x hx => ?_, fun x c z _ => absurd z Bool.false_ne_true, I.ok.hd, I.ok.frames, .inl rfl, fun b hb => ⟨?_, fun x c e => ?_⟩, I.bs, Nat.le_trans I.ok.bsz I.sz,
      fun b o e hb => ?_, fun b hb hf => ?_, I.stack, I.stkFree⟩, rfl, I.bare, Un.kept hk, ⟨_, hns, fun i x v e1 e2 e3 => ?_⟩, fun x c e => ?_, ?_, fun x c e => I.freeC x c (old e), fun p hp => absurd hp (by show p ∉ [] ++ []; simp), I.hok.kept hk, ?_⟩
  · show (relabel scope X.env).kind = .function
    exact B.kind
  · obtain ⟨c, e⟩ := has x (kindC x hx)
    exact ⟨c, closOf_new (kindC x hx) e⟩
  · exact Nat.ne_of_lt (Nat.lt_of_lt_of_le (fpLt b hb) hC)
  · exact (hfp b hb).2.2.2.2.1 x c (old e)
  · have e1 := I.bs b o e
    obtain ⟨f0, f1, f2, f3, f4, f5⟩ := hfp b hb
    rcases f3 with z | z
    · exact I.ok.noex b o e z
    · exact absurd (Nat.lt_of_lt_of_le (Heap.lt_size (I.ok.bs b o e).1) z) (Nat.lt_irrefl _)
  · obtain ⟨f0, f1, f2, f3, f4, f5⟩ := hfp b hb
    rcases List.mem_cons.mp (fsOk b hf) with z | z
    · exact f1 z
    · exact f2 z
  · -- a captured name's value
    have hi : own.length ≤ i := by
      rcases Nat.lt_or_ge i own.length with z | z
      · exfalso
        have e2' : (List.replicate own.length (none : Option V) ++ capt σ js)[i]? = some (some v) := e2
        rw [List.getElem?_append_left (by simpa using z), List.getElem?_replicate] at e2'
        split at e2' <;> cases e2'
      · exact z
    have e1' : (own ++ capN X.N js)[i]? = some x := e1
    have e2' : (List.replicate own.length (none : Option V) ++ capt σ js)[i]? = some (some v) := e2
    rw [List.getElem?_append_right hi] at e1'
    rw [List.getElem?_append_right (by simpa using hi), List.length_replicate] at e2'
    unfold capN at e1'
    unfold capt at e2'
    rw [List.getElem?_map] at e1' e2'
    cases ej : js[i - own.length]? with
    | none => rw [ej] at e1'; cases e1'
    | some j =>
      rw [ej] at e1' e2'
      have e1'' : (X.N[j]?).getD "" = x := Option.some.inj e1'
      have e2'' : (σ[j]?).getD none = some v := Option.some.inj e2'
      obtain ⟨hj, hm⟩ := B.cap j (List.mem_of_getElem? ej)
      have eN : X.N[j]? = some x := by
        rw [List.getElem?_eq_getElem hj] at e1'' ⊢
        exact congrArg some e1''
      have eS : σ[j]? = some (some v) := by
        cases q : σ[j]? with
        | none => rw [q] at e2''; cases e2''
        | some u => rw [q] at e2''; exact congrArg some e2''
      rw [e1''] at hm
      obtain ⟨m, _, hl⟩ := I.loc
      have hv : Vis X.env.scope x := by
        rcases B.free (x, .free) hm rfl with z | z
        · exact .inr (.inl z)
        · exact .inr (.inr z)
      obtain ⟨u, r, l⟩ := hl j x v eN eS hv
      obtain ⟨c, hc⟩ := has x hm
      refine ⟨u, r, .inr ⟨?_, c, closOf_new hm hc, ?_⟩⟩
      · rcases e3 with z | z | z
        · exfalso
          have z' : (relabel scope X.env).names.lookup x = some .local := z
          rcases lookup_relabel z' with q | ⟨q, _⟩
          · rw [B.uniq x hm] at q
            cases q
          · cases q
        · exact .inl z
        · exact .inr z
      · rcases l with ⟨k1, _⟩ | ⟨k2, c2, e2, ic⟩
        · rcases B.free (x, .free) hm rfl with t | t <;> (rw [k1] at t; cases t)
        · rw [hc] at e2; cases e2
          obtain ⟨o, ho, hd⟩ := ic
          exact ⟨o, hk c o ho, hd⟩
  · obtain ⟨v, o, ho, hd⟩ := I.cell x c (old e)
    exact ⟨v, o, hk c o ho, hd⟩
  · exact I.hok.fresh hC
  · rw [bst_len]
    show _ = (own ++ capN X.N js).length
    unfold capN
    simp
end
end L2
set_option Elab.async false
set_option linter.all false
set_option maxRecDepth 100000
namespace L2
open PySem PySem.Spec PyProof.Rows
section
variable {X : Cx}
theorem Inv.young {pins : List (Addr × Obj)} {σ : St} {H : Hp} {s : Shared} {h' : Heap} {c : Addr} (I : Inv X pins σ H s) (hs : Heap.SameBut c s.heap h') (hn : H c = none) (h1 : X.s₀.heap.objs.size ≤ c) (hL : c ≠ X.env.locals)
    (h2 : ∀ x d, X.env.cells.lookup x = some d → d ≠ c) (h3 : ∀ p ∈ X.pn ++ pins, p.1 ≠ c) : Inv X pins σ H { s with heap := h' } :=
  I.turned (t' := s.toks) (fun b o hb e => (hs.2 b hb).trans e) hn hL (.inr h1) h2 h3
theorem Inv.track {pins : List (Addr × Obj)} {σ : St} {H : Hp} {s : Shared} {D : Addr} {ys : List V} {its : List Value} {n : Nat} (I : Inv X pins σ H s) (hn : H D = none) (h1 : X.s₀.heap.objs.size ≤ D) (hL : D ≠ X.env.locals)
    (h2 : ∀ x d, X.env.cells.lookup x = some d → d ≠ D) (h3 : ∀ p ∈ X.pn ++ pins, p.1 ≠ D) (hz : ys.length ≤ sizeLine) (r : Vals ys its) (e : s.heap.get? D = some { cls := .type "list", data := .seq its.toArray n }) :
    Inv X pins σ (upd H D (.lst ys)) s := by
  have ne : ∀ {b u}, H b = some u → b ≠ D := fun {b u} q => ne_of_none q hn
  refine ⟨I.ok, I.os, I.bare, ⟨I.base.keep, I.base.slot, fun b o q z hx => ?_, I.base.there, fun b xs q => ?_, fun b o u q => ?_, fun b ps q => ?_⟩, I.loc, I.cell, ?_, fun x c q => ?_, fun p hp => ?_, fun b o q => ?_, I.len⟩
  · rw [upd_ne (Nat.ne_of_lt (Nat.lt_of_lt_of_le (Heap.lt_size q) h1))]
    exact I.base.free b o q z hx
  · have q' := I.base.tups b xs q
    rw [upd_ne (ne q')]; exact q'
  · have q' := I.base.frzs b o u q
    rw [upd_ne (ne q')]; exact q'
  · obtain ⟨more, q'⟩ := I.base.tbls b ps q
    exact ⟨more, by rw [upd_ne (ne q')]; exact q'⟩
  · rw [upd_ne (Ne.symm hL)]; exact I.free
  · rw [upd_ne (h2 x c q)]; exact I.freeC x c q
  · obtain ⟨a1, a2, a3⟩ := I.pin p hp
    exact ⟨a1, by rw [upd_ne (h3 p hp)]; exact a2, a3⟩
  · by_cases hb : b = D
    · subst hb
      rw [upd_same] at q
      cases q
      exact ⟨hz, its, n, r, e⟩
    · rw [upd_ne hb] at q
      refine (I.hok b o q).stay (fun _ _ _ z => z) (fun c z => ?_) fun c xs z => ?_
      · rw [upd_ne (ne z)]; exact z
      · rw [upd_ne (ne z)]; exact z
def Behind (X : Cx) (pins : List (Addr × Obj)) (σ : St) (Q : VK) (C : Addr) (acc : Value) (s' : Shared) : Prop :=
  ∃ (D : Addr) (H : Hp) (m : Str → Option Value), acc = .ref D ∧ s'.heap.Ns C m ∧ Inv X pins σ H s' ∧ H C = none ∧ X.s₀.heap.objs.size ≤ C ∧ C ≠ X.env.locals ∧ (∀ x d, X.env.cells.lookup x = some d → d ≠ C) ∧ (∀ p ∈ X.pn ++ pins, p.1 ≠ C) ∧ Q (.ref D) H
theorem comp_block {elt tg iter : Expr} {ifs : List Expr} {scope : Scope} {pos : Pos} {own : List Str} {js : List Nat} {g : TG} {tc : TT} {te : TE} {Q : VK} {pins : List (Addr × Obj)} {σ : St} {s2 : Shared} {itv : Value} {E : Value → Shared → Prop}
    {RR : Value → Addr → Result → Shared → Prop} (hc : X.calm = true) (B : Blk X scope own js) (hg : ∀ s H C fp, (own ++ capN X.N js).Nodup → PG (blk X scope (own ++ capN X.N js) s H C fp) tg g) (ht : ∀ s H C fp, PTs (blk X scope (own ++ capN X.N js) s H C fp) ifs tc)
    (he : ∀ s H C fp, PE (blk X scope (own ++ capN X.N js) s H C fp) elt te)
    (h : PIE X pins σ tg (fun J H1 => CompW J own.length js g tc te Q σ H1) itv s2)
    (hR : ∀ C acc s', Behind X pins σ Q C acc s' → RR acc C (.ok .next) s') :
    wpAny (model X.prog X.w) X.A (newList []) (fun acc s3 => wpAny (model X.prog X.w) X.A (newFunctionEnv scope X.env.globals (closOf scope X.env) [] X.env.qual none .none (some X.env)) (fun cenv s4 =>
      codeAny (model X.prog X.w) X.A (.compStart (.ListComp elt [⟨tg, iter, ifs, 0⟩] scope pos) 0 itv acc { cenv with scope := relabel scope X.env }) (RR acc cenv.locals) s4) E s3) E s2 := by
  obtain ⟨it, fp, tn, J, H2, rfl, I2, T, st2, f2, W, ⟨m0, w0⟩, turn⟩ := h
  refine wpAny_newObj_type (wpAny_newFunctionEnv B.nocell (by intro y hy; simp at hy) (fun h1 hns1 hsb1 => ?_) B.kind)
  generalize hPu : s2.heap.push { cls := .type "list", dict := none, data := .seq ([] : List Value).toArray } = Pu at hns1 hsb1 ⊢
  dsimp only at hns1 hsb1 ⊢
  have hDC : Pu.objs.size = s2.heap.objs.size + 1 := by rw [← hPu, Heap.size_push]
  generalize hD : s2.heap.objs.size = D at hDC ⊢
  have gD : Pu.get? D = some { cls := .type "list", dict := none, data := .seq ([] : List Value).toArray } := by
    rw [← hPu, ← hD]; exact Heap.get?_push_size _ rfl
  generalize hC : Pu.objs.size = C at hns1 hsb1 hDC ⊢
  have ltDC : D < C := by rw [hDC]; exact Nat.lt_succ_self D
  have neDC : D ≠ C := Nat.ne_of_lt ltDC
  have keep1 : ∀ b o, s2.heap.get? b = some o → h1.get? b = some o := fun b o e => by
    have hb : b < D := by rw [← hD]; exact Heap.lt_size e
    have hb2 : b ≠ C := Nat.ne_of_lt (Nat.lt_trans hb ltDC)
    refine (hsb1.2 b hb2).trans (Heap.get?_push_of_some _ ?_)
    rw [← hPu]
    exact Heap.get?_push_of_some _ e
  have gD1 : h1.get? D = some { cls := .type "list", dict := none, data := .seq ([] : List Value).toArray } := (hsb1.2 D neDC).trans (Heap.get?_push_of_some _ gD)
  have szD : s2.heap.objs.size ≤ D := Nat.le_of_eq hD
  have szC : s2.heap.objs.size ≤ C := Nat.le_trans szD (Nat.le_of_lt ltDC)
  have old : ∀ {b : Addr}, b < s2.heap.objs.size → b ≠ D ∧ b ≠ C := fun hb => ⟨Nat.ne_of_lt (Nat.lt_of_lt_of_le hb szD), Nat.ne_of_lt (Nat.lt_of_lt_of_le hb szC)⟩
  have fpo : ∀ b ∈ fp, ∃ o, s2.heap.get? b = some o := fun b hb => let ⟨o, e, _⟩ := T.obj 0 _ st2 b hb; ⟨o, e⟩
  have fpD : ∀ b ∈ fp, b ≠ D ∧ b ≠ C := fun b hb => by
    obtain ⟨o, e⟩ := fpo b hb
    exact old (Heap.lt_size e)
  have clD : ∀ x d, X.env.cells.lookup x = some d → d ≠ D ∧ d ≠ C := fun x d e => by
    obtain ⟨v, o, ho, _⟩ := I2.cell x d e
    exact old (Heap.lt_size ho)
  have pinD : ∀ p ∈ X.pn ++ pins, p.1 ≠ D ∧ p.1 ≠ C := fun p hp => by
    exact old (Heap.lt_size (I2.pin p hp).1)
  have locD : D ≠ X.env.locals ∧ C ≠ X.env.locals := by
    exact ⟨(old I2.lt).1.symm, (old I2.lt).2.symm⟩
  let Y := blk X scope (own ++ capN X.N js) s2 H2 C fp
  have IB : Inv Y [] (bst own.length σ js) H2 { s2 with heap := h1, toks := s2.toks + ([] : List (Str × Value)).length } := blk_inv B I2 f2 fpo szC hns1 keep1
  have fpB : ∀ {H' : Hp} {pl : List (Addr × Obj)}, (∀ b ∈ fp, H' b = none) → (∀ p ∈ pl, p.1 = D) → ∀ b ∈ fp, FpOk Y pl H' b := fun {H' pl} hn hp b hb => by
    obtain ⟨f0, f1, f3, f4, f5, f6⟩ := f2 b hb
    refine ⟨hn b hb, (fpD b hb).2, fun z => ?_, .inl hb, fun x c e => f5 x c (closOf_old e), fun p q => ?_⟩
    · rcases List.mem_cons.mp (I2.stkSub b z) with z | z
      · exact f1 z
      · exact f3 z
    · have q' : p ∈ pl := by simpa [Y, blk] using q
      rw [hp p q']
      exact (fpD b hb).1.symm
  have clB : ∀ x d, Y.env.cells.lookup x = some d → d ≠ D := fun x d e => (clD x d (closOf_old e)).1
  have notFs : D ∉ Y.fs := fun z => by
    obtain ⟨_, o, ho, _⟩ := IB.ok.funs.mem z
    exact (old (Heap.lt_size (show s2.heap.get? D = some o from ho))).1 rfl
  have loop : ∀ s3 : Shared, s3 = { s2 with heap := h1, toks := s2.toks + ([] : List (Str × Value)).length } →
      codeAny (model X.prog X.w) X.A (.compLoop (.ListComp elt [⟨tg, iter, ifs, 0⟩] scope pos) 0 (.ref it) (.ref D) (compEnvC scope (closOf scope X.env) C X.env)) (RR (.ref D) C) s3 := by
    rintro s3 rfl
    refine compLoop_by (fun n s' => ∃ (i : Nat) (ys : List V) (its : List Value) (k : Nat) (H' : Hp), Inv Y [] (bst own.length σ js) H' s' ∧ tn i s'.heap ∧ (∀ b ∈ fp, H' b = none) ∧ H' D = none ∧ Vals ys its ∧
      s'.heap.get? D = some { cls := .type "list", data := .seq its.toArray k } ∧ W i n ys H') ?_ m0 ⟨0, [], [], 0, H2, IB, T.keep 0 _ _ st2 (fun b hb o e => keep1 b o e), fun b hb => (f2 b hb).1, I2.hok.fresh szD, .nil, gD1, w0⟩
    rintro n s3 ⟨i, ys, its, k, H3, I3, st3, fr3, hD3, r3, g3, w3⟩
    have I3p : Inv Y [(D, { cls := .type "list", data := .seq its.toArray k })] (bst own.length σ js) H3 s3 := I3.pins_of fun p hp => by
      have e : p = (D, { cls := .type "list", data := .seq its.toArray k }) := by simpa using hp
      subst e
      exact ⟨g3, hD3, neDC, notFs, fun v z => by cases z⟩
    have f3 : ∀ b ∈ fp, FpOk Y [(D, { cls := .type "list", data := .seq its.toArray k })] H3 b := fpB fr3 fun p hp => by
      have e : p = (D, { cls := .type "list", data := .seq its.toArray k }) := by simpa using hp
      rw [e]
    rcases turn i n ys H3 w3 with ⟨stop, hz, qn⟩ | ⟨go, hz, N, hN, step⟩
    · refine thn (T.done Y rfl rfl rfl hc i _ s3 _ H3 (fun _ _ => False) I3p f3 st3 stop) fun r s4 ⟨hr, I4⟩ => ?_
      subst hr
      refine hR C _ s4 ?_
      have g4 := (I4.pin (D, { cls := .type "list", data := .seq its.toArray k }) (by simp [Y, blk])).1
      obtain ⟨m, hn4, _⟩ := id I4.loc
      have un : Un (frs X.stack) fp H2 H3 s2.heap s4.heap := I4.base
      have I5 : Inv X pins σ H3 s4 := I2.call' I4.os un I4.hok I4.bare fun b hb => let ⟨_, b1, _, b3, b4, b5⟩ := f2 b hb; ⟨b3, b1, b4, b5⟩
      have I6 := I5.track (ys := ys) (its := its) (n := k) hD3 (Nat.le_trans I2.sz szD) locD.1 (fun x d e => (clD x d e).1) (fun p hp => (pinD p hp).1) hz r3 g4
      refine ⟨D, _, m, rfl, hn4, I6, ?_, Nat.le_trans I2.sz szC, locD.2, fun x d e => (clD x d e).2, fun p hp => (pinD p hp).2, qn D hD3⟩
      rw [upd_ne (Ne.symm neDC)]
      exact I4.free
    · refine thn (T.item Y rfl rfl rfl hc i _ s3 _ H3 (fun _ _ => False) I3p f3 st3 go) fun r s4 ⟨u, hr, h4⟩ => ?_
      subst hr
      refine thn h4 fun _ s5 ⟨x, H5, I5, r5, y5, st5, fr5⟩ => ?_
      have f5 : ∀ b ∈ fp, FpOk Y [(D, { cls := .type "list", data := .seq its.toArray k })] H5 b := fun b hb => ⟨fr5 b hb, (f3 b hb).2⟩
      have I5' := I5.pinned f5 (T.obj _ _ st5)
      refine thn (hg s2 H2 C fp B.nd _ s5 _ H5 x u _ I5' r5 (step x H5 y5)) fun _ s6 ⟨σ6, H6, I6, d6, q6⟩ => ?_
      refine thn (ht s2 H2 C fp _ s6 σ6 H6 _ I6 q6) fun ok s7 ⟨H7, I7, q7⟩ => ?_
      have after : ∀ {s8 : Shared} {H8 : Hp}, Inv Y ([(D, { cls := .type "list", data := .seq its.toArray k })] ++ pinsAt fp s5.heap) σ6 H8 s8 →
          s8.heap.get? D = some { cls := .type "list", data := .seq its.toArray k } ∧ H8 D = none ∧ tn (i + 1) s8.heap ∧ (∀ b ∈ fp, H8 b = none) ∧ Inv Y [] (bst own.length σ js) H8 s8 := fun {s8 H8} I8 => by
        have p8 := I8.pin (D, { cls := .type "list", data := .seq its.toArray k }) (by simp [Y, blk])
        refine ⟨p8.1, p8.2.1, T.keep _ _ _ st5 fun b hb o e => (I8.pin (b, o) (List.mem_append_right _ (List.mem_append_right _ (mem_pinsAt hb e)))).1, fun b hb => ?_, ?_⟩
        · obtain ⟨o, e, _⟩ := T.obj _ _ st5 b hb
          exact (I8.pin (b, o) (List.mem_append_right _ (List.mem_append_right _ (mem_pinsAt hb e)))).2.1
        · refine (I8.pins_of (pins' := []) fun p hp => absurd hp (by simp [Y, blk])).weak ?_ fun j v e => ?_
          · rw [I8.len, bst_len]
            show _ = (own ++ capN X.N js).length
            unfold capN
            simp
          · rcases Nat.lt_or_ge j own.length with z | z
            · exfalso
              unfold bst at e
              rw [List.getElem?_append_left (by simpa using z), List.getElem?_replicate] at e
              split at e <;> cases e
            · unfold bst at e
              rw [List.getElem?_append_right (by simpa using z), List.length_replicate, ← d6, List.getElem?_drop] at e
              rw [← e]
              congr 1
              omega
      cases ok with
      | false =>
        rw [if_neg Bool.false_ne_true] at q7 ⊢
        obtain ⟨m', hm, w7⟩ := hN _ _ q7
        obtain ⟨a1, a2, a3, a4, a5⟩ := after I7
        exact ⟨m', hm, i + 1, ys, its, k, H7, a5, a3, a4, a2, r3, a1, w7⟩
      | true =>
        rw [if_pos rfl] at q7 ⊢
        refine thn (he s2 H2 C fp _ s7 σ6 H7 _ I7 q7) fun u8 s8 ⟨v8, H8, I8, r8, n8⟩ => ?_
        obtain ⟨m', hm, w8⟩ := hN _ _ n8
        obtain ⟨a1, a2, a3, a4, a5⟩ := after I8
        have hsz : its.toArray.size < sizeLine := by rw [List.size_toArray, ← r3.length]; exact hz
        refine call_meets F.slot_list_append ⟨_, a1, rfl⟩ F.entry_list_append (F.args_list_append_2 _ _) (PySem.list_append D its.toArray k u8 (by omega)) ⟨a1, ?_⟩
        have q9 := PySem.IsL.update a1 (fun xs => xs.push u8)
        have sb : Heap.SameBut D s8.heap (s8.heap.update D (Obj.mapSeq fun xs => xs.push u8)) := Heap.SameBut.update ..
        have I9 := a5.young sb a2 szD neDC clB (fun p hp => absurd hp (by show p ∉ [] ++ []; simp))
        have fin : ∃ k', (s8.heap.update D (Obj.mapSeq fun xs => xs.push u8)).get? D = some { cls := .type "list", data := .seq (its ++ [u8]).toArray k' } := ⟨_, by
          rw [show (its ++ [u8]).toArray = its.toArray.push u8 by simp]
          exact q9⟩
        obtain ⟨k', fin⟩ := fin
        exact ⟨m', hm, i + 1, ys ++ [v8], its ++ [u8], k', H8, I9, T.keep _ _ _ a3 (fun b hb o e => (sb.2 b (fpD b hb).1).trans e), a4, a2, r3.append (.cons r8 .nil), fin, w8⟩
  exact codeAny_compStart_list (loop _ rfl) (T.self _ 0 _ _ _ (T.keep 0 _ _ st2 fun b hb o e => keep1 b o e) (loop _ rfl))
theorem pe_comp {elt tg iter : Expr} {ifs : List Expr} {scope : Scope} {pos : Pos} (own : List Str) (js : List Nat) {wi : TI} {g : TG} {tc : TT} {te : TE} (hc : X.calm = true) (B : Blk X scope own js) (hi : PI X tg iter wi)
    (hg : ∀ s H C fp, (own ++ capN X.N js).Nodup → PG (blk X scope (own ++ capN X.N js) s H C fp) tg g) (ht : ∀ s H C fp, PTs (blk X scope (own ++ capN X.N js) s H C fp) ifs tc) (he : ∀ s H C fp, PE (blk X scope (own ++ capN X.N js) s H C fp) elt te)
    (hs : ∀ x, foldedSetIterable iter X.env x = pure x := by intro _; rfl) : PE X (.ListComp elt [⟨tg, iter, ifs, 0⟩] scope pos) (tComp own.length js wi g tc te) := by
  intro pins s σ H Q I h
  have hcl : closureFor scope X.env = pure (closOf scope X.env) := closureFor_of fun x hx hf => I.ok.has x.1 (B.free x hx hf)
  rw [eval_ListComp]
  refine wpAny_comprehension_free (use := none) rfl hs hcl B.kind B.names (thn (hi pins s σ H _ I h) fun v s1 h1 => thn h1 fun itv s2 h2 => ?_)
  refine comp_block (RR := fun acc C => compPost (model X.prog X.w) X.A X.xe none (EP X pins σ Q) acc C) hc B hg ht he h2 fun C acc s' hb => ?_
  obtain ⟨D, H', m, rfl, hn, I', c1, c2, c3, c4, c5, q⟩ := hb
  exact ⟨m, hn, fun h' hs' => ⟨.ref D, H', I'.young hs' c1 c2 c3 c4 c5, rfl, q⟩⟩
theorem ps_setC {elt tg iter : Expr} {ifs : List Expr} {scope : Scope} {pos pos' spos : Pos} {i : Nat} {x : Str} (own : List Str) (js : List Nat) {wi : TI} {g : TG} {tc : TT} {te : TE} (hN : X.N.Nodup) (hi : X.N[i]? = some x) (hx : Loc X.env.scope x)
    (hc : X.calm = true) (B : Blk X scope own js) (hit : PI X tg iter wi)
    (hg : ∀ s H C fp, (own ++ capN X.N js).Nodup → PG (blk X scope (own ++ capN X.N js) s H C fp) tg g) (ht : ∀ s H C fp, PTs (blk X scope (own ++ capN X.N js) s H C fp) ifs tc) (he : ∀ s H C fp, PE (blk X scope (own ++ capN X.N js) s H C fp) elt te)
    (hf : X.fn x = true ∨ X.env.scope.names.lookup x = some .local := by first | exact .inl rfl | exact .inr rfl | assumption)
    (hw : swapsWith (.ListComp elt [⟨tg, iter, ifs, 0⟩] scope pos) (some (.Name x pos')) spos.line X.env = pure true := by rfl)
    (hs : ∀ x, foldedSetIterable iter X.env x = pure x := by intro _; rfl) :
    PS X (.Assign [.Name x pos'] (.ListComp elt [⟨tg, iter, ifs, 0⟩] scope pos) spos) (fun D σ H => tComp own.length js wi g tc te σ H fun v H' => D.nx (σ.set i (some v)) H') := by
  intro pins s σ H D I h
  have hcl : closureFor scope X.env = pure (closOf scope X.env) := closureFor_of fun x hx hf => I.ok.has x.1 (B.free x hx hf)
  rw [exec_Assign_Name_used _ _ _ _ hw]
  refine wpAny_bind (wpAny_standAt (wpAny_bind ?_))
  show wpAny _ X.A (do let _ ← comprehension (.ListComp elt [⟨tg, iter, ifs, 0⟩] scope pos) scope X.env _ (newList []) false (eval iter X.env) (some (assign (.Name x pos') X.env))) _ _ s
  refine wpAny_bind (thn (Q := fun _ s' => SP X pins D .next s') (wpAny_comprehension_free (use := some (assign (.Name x pos') X.env)) rfl hs hcl B.kind B.names (thn (hit pins s σ H _ I h) fun v s1 h1 => thn h1 fun itv s2 h2 => ?_)) fun _ s' q => wpAny_pure (wpAny_pure q))
  refine comp_block (Q := fun v H' => D.nx (σ.set i (some v)) H') (RR := fun acc C => compPost (model X.prog X.w) X.A X.xe (some (assign (.Name x pos') X.env)) (fun _ s' => SP X pins D .next s') acc C) hc B hg ht he h2 fun C acc s' hb => ?_
  obtain ⟨l, H', m, rfl, hn, I', c1, c2, c3, c4, c5, q⟩ := hb
  show wpAny _ X.A (assign (.Name x pos') X.env (.ref l)) _ _ _
  refine wpAny_assign_Name (store_ok2 (v := .ref l) I' hN hi hx rfl (fun s3 I3 ⟨a, sb, ha⟩ => ?_) hf)
  have ne : C ≠ a := by
    rcases ha with z | z
    · rw [z]; exact c3
    · exact (c4 x a z).symm
  exact ⟨m, hn.sameBut sb ne, fun h' hs' => ⟨_, H', I3.young hs' c1 c2 c3 c4 c5, q⟩⟩
end
end L2
set_option Elab.async false
set_option linter.all false
set_option maxRecDepth 100000
namespace L2
open PySem PySem.Spec PyProof.Rows
section
variable {X : Cx}
def Dv (j : Int) : Prop := 0 < j ∧ j.natAbs.log2 < 9000
theorem Dv.small {j : Int} (h : 0 < j) (h2 : j < 1073741824) : Dv j := ⟨h, by
  have e : j.natAbs ≠ 0 := by omega
  have : j.natAbs.log2 < 30 := (Nat.log2_lt e).mpr (by omega)
  omega⟩
theorem op_fdivL : OpR X (binaryOp .FloorDiv) (rI (fun _ j => Dv j) fun i j => .int (i / j)) := opI fun i j _ _ _ _ _ hc q => by
  rw [← Int.fdiv_eq_ediv_of_nonneg i (Int.le_of_lt hc.1)] at q
  exact floordiv_int (Int.ne_of_gt hc.1) q (.inl (PyProof.noPylong_of_log2 hc.2))
theorem mt_bits : MtR X "int.bit_length" (fun x xs H Q => ∃ i, x = .int i ∧ xs = [] ∧ Q (.int (Builtin.Int.intBits i : Nat)) H) := by
  intro pins s σ H x xs v us Q I rx rv h
  obtain ⟨i, rfl, rfl, q⟩ := h
  obtain ⟨t, rfl⟩ := rx
  cases rv
  exact call_int_bit_length ⟨.int (Builtin.Int.intBits i : Nat), H, I.tok _, ⟨_, rfl⟩, q⟩
def isaT (t T : String) : Option Bool := if (Value.type t == Value.type T) = true then some true else if PySem.W.kitMeta T = true then (fastBuiltinMro t).map (·.contains (.type T)) else none
theorem isaT_int_int : isaT "int" "int" = some true := by decide +kernel
theorem isaT_int_bool : isaT "int" "bool" = some false := by decide +kernel
theorem isaT_bool_int : isaT "bool" "int" = some true := by decide +kernel
theorem isaT_bool_bool : isaT "bool" "bool" = some true := by decide +kernel
theorem isaT_str_int : isaT "str" "int" = some false := by decide +kernel
theorem isaT_non_int : isaT "NoneType" "int" = some false := by decide +kernel
theorem isaT_list_int : isaT "list" "int" = some false := by decide +kernel
theorem isaT_list_list : isaT "list" "list" = some true := by decide +kernel
theorem isaT_tuple_int : isaT "tuple" "int" = some false := by decide +kernel
theorem isaT_tuple_tuple : isaT "tuple" "tuple" = some true := by decide +kernel
theorem isaT_kit {K : PySem.W.Frag} {t T : String} : PySem.W.kitOne K (.type t) (.type T) = isaT t T := rfl
theorem pe_ty {x : Str} {T : String} {pos : Pos} (hg : Gl X x) (hm : X.mg x = none) (hv : bootBuiltins x = some (.type T)) (hn : x ≠ "__name__" := by decide) (hd : (x == ("__debug__" : Str)) = false := by decide) : PE X (.Name x pos) (tC (.ty T)) :=
  pe_bltn hg hm hv rfl hn hd
structure OkN (P : Program) (w : World) (K : PySem.W.Frag) (mg : Str → Option Value) (base : Heap) (k : Nat) (x : Str) (ps : List Str) (sp : Sp) : Prop where
  ex : ∃ f fd, mg x = some (.ref f) ∧ PySem.W.keepIn K (.ref f) = true ∧ Binds K fd ps [] ∧ (∃ oc od osl, K.lookup f = some ⟨oc, od, .func fd, osl⟩) ∧ FnOk P w K mg base CX0 k f fd ps sp
theorem pe_fn {k : Nat} {x : Str} {ps : List Str} {sp : Sp} {p pos : Pos} {e : Expr} {es : List Expr} {t : TA} (F : OkN X.prog X.w X.K X.mg X.base k x ps sp) (hr : Room k X.A) (ha : PA X (e :: es) t) (hg : Gl X x := by rfl)
    (hdb : (x == ("__debug__" : Str)) = false := by decide) (he : starEach (e :: es) X.env = (false, eval e X.env) :: starEach es X.env := by rfl) (hpl : (backTo pos (starEach es X.env)).any (·.1) = false := by rfl) :
    PE X (.Call (.Name x p) (e :: es) [] pos) (tCall sp [] E0 t) := by
  obtain ⟨f, fd, hm, hk, hb, lk, F⟩ := F.ex
  exact pe_call F hr hg hm hk hb .nil pass0 ha hdb he hpl
structure DefN (K : PySem.W.Frag) (mg : Str → Option Value) (x : Str) (st : Stmt) (ps : List Str) : Prop where
  ex : ∃ f fd, mg x = some (.ref f) ∧ Fun K x x st f fd ∧ ∀ us : List Value, us.length = ps.length → bindArgs fd ⟨us, []⟩ = pure (ps.zip us)
theorem DefN.ok {P : Program} {w : World} {K : PySem.W.Frag} {mg : Str → Option Value} {base : Heap} {x : Str} {st : Stmt} {N ps : List Str} {k : Nat} {sp : Sp} (D : DefN K mg x st ps) (S : FnScope N ps (defScope st)) (len : ∀ vs H Q E, sp vs H Q E → vs.length = ps.length)
    (hbody : ∀ (f : Addr) (cdv : Value) (A : Around) (outer : List Env) (s : Shared) (H : Hp) (vs : List V) (Q : VK) (E : XK), Room k (A.deeper (envOfC x (defScope st) s.heap.objs.size f cdv)) → sp vs H Q E →
      ∃ t, PSs (cxOf CX0 P w K mg base N x (defScope st) f cdv A outer s H E).nox (defBody st) t ∧ t { nx := fun _ H' => Q .non H', rt := Q } (start N vs) H) : OkN P w K mg base (k + 1) x ps sp := by
  obtain ⟨f, fd, hm, F, hb⟩ := D.ex
  refine ⟨f, fd, hm, F.kp, .all hb, ?_, F.ok S len fun cdv A outer s H vs Q E hr h => hbody f cdv A outer s H vs Q E hr h⟩
  obtain ⟨oc, od, kV, doc, pm, an, cdv, ct, osl, _, lk, _⟩ := F.ex
  exact ⟨oc, od, osl, lk⟩
theorem OkN.mono {P : Program} {w : World} {K : PySem.W.Frag} {mg : Str → Option Value} {base : Heap} {x : Str} {ps : List Str} {j k : Nat} {sp : Sp} (F : OkN P w K mg base j x ps sp) (h : j ≤ k) : OkN P w K mg base k x ps sp := by
  obtain ⟨f, fd, hm, hk, hb, lk, F⟩ := F.ex
  exact ⟨f, fd, hm, hk, hb, lk, F.mono h⟩
theorem def_mk {K : PySem.W.Frag} {mg : Str → Option Value} {h : Heap} {x : Str} {st : Stmt} {ps : List Str} {f : Addr} {oc : Value} {od an : Option Addr} {osl : Array (Option Value)} {kV doc pm cdv ct : Value} (KX : K.In h) (G : h.Ns mainGlobals mg)
    (a : PySem.W.nsIn K mainGlobals x = some (some (.ref f))) (l : K.lookup f = some ⟨oc, od, .func (PySem.W.fnOf x x (defArgs st) (defBody st) (defScope st) .none kV doc pm an cdv ct), osl⟩)
    (c : PySem.W.codeIn K cdv x = true) (k : PySem.W.keepIn K (.ref f) = true)
    (hb : ∀ (kV doc pm : Value) (an : Option Addr) (cdv ct : Value) (us : List Value), us.length = ps.length → bindArgs (PySem.W.fnOf x x (defArgs st) (defBody st) (defScope st) .none kV doc pm an cdv ct) ⟨us, []⟩ = pure (ps.zip us)) : DefN K mg x st ps :=
  ⟨f, _, PySem.W.mg_of KX G a, fun_mk l c k, fun us hl => hb kV doc pm an cdv ct us hl⟩
theorem law_fin {P : Program} {w : World} {K : PySem.W.Frag} {mg : Str → Option Value} {x p : Str} {st : Stmt} {k : Nat} {fa : Addr} {sp : Sp} (D : DefN K mg x st [p]) (hfa : mg x = some (.ref fa))
    (F : ∀ base : Heap, OkN P w K mg base k x [p] sp) : ∃ fd : FuncData, (∀ (s : Shared) (v : Value), BindsTo s fd ⟨[v], []⟩ [(p, v)]) ∧ ∀ base : Heap, K.In base → base.Ns mainGlobals mg → FnOk P w K mg base CX0 k fa fd [p] sp := by
  obtain ⟨f, fd, hm, F0, hb⟩ := D.ex
  obtain ⟨oc, od, kV, doc, pm, an, cdv, ct, osl, _, lk, _⟩ := F0.ex
  refine ⟨fd, fun s v => .of_eq (hb [v] rfl), fun base _ _ => ?_⟩
  obtain ⟨f', fd', hm', _, _, ⟨oc', od', osl', lk'⟩, G⟩ := (F base).ex
  rw [hfa] at hm'
  cases hm'
  rw [hfa] at hm
  cases hm
  rw [lk] at lk'
  cases lk'
  exact G
end
end L2
set_option Elab.async false
set_option linter.all false
set_option maxRecDepth 100000
namespace L2
open PySem PySem.Spec PyProof.Rows
structure BI (mg : Str → Option Value) : Prop where
  len_ : mg "len" = none
  range_ : mg "range" = none
  isinstance_ : mg "isinstance" = none
  int_ : mg "int" = none
  bool_ : mg "bool" = none
  list_ : mg "list" = none
  tuple_ : mg "tuple" = none
  str_ : mg "str" = none
  sum_ : mg "sum" = none
  all_ : mg "all" = none
  max_ : mg "max" = none
  min_ : mg "min" = none
  sorted_ : mg "sorted" = none
  set_ : mg "set" = none
  zip_ : mg "zip" = none
  enumerate_ : mg "enumerate" = none
  reversed_ : mg "reversed" = none
  dict_ : mg "dict" = none
  any_ : mg "any" = none
  abs_ : mg "abs" = none
theorem bi_mk {K : PySem.W.Frag} {mg : Str → Option Value} {h : Heap} (KX : K.In h) (G : h.Ns mainGlobals mg)
    (len_ : PySem.W.nsIn K mainGlobals "len" = some none) (range_ : PySem.W.nsIn K mainGlobals "range" = some none) (isinstance_ : PySem.W.nsIn K mainGlobals "isinstance" = some none) (int_ : PySem.W.nsIn K mainGlobals "int" = some none) (bool_ : PySem.W.nsIn K mainGlobals "bool" = some none) (list_ : PySem.W.nsIn K mainGlobals "list" = some none) (tuple_ : PySem.W.nsIn K mainGlobals "tuple" = some none) (str_ : PySem.W.nsIn K mainGlobals "str" = some none) (sum_ : PySem.W.nsIn K mainGlobals "sum" = some none) (all_ : PySem.W.nsIn K mainGlobals "all" = some none) (max_ : PySem.W.nsIn K mainGlobals "max" = some none) (min_ : PySem.W.nsIn K mainGlobals "min" = some none) (sorted_ : PySem.W.nsIn K mainGlobals "sorted" = some none) (set_ : PySem.W.nsIn K mainGlobals "set" = some none) (zip_ : PySem.W.nsIn K mainGlobals "zip" = some none) (enumerate_ : PySem.W.nsIn K mainGlobals "enumerate" = some none) (reversed_ : PySem.W.nsIn K mainGlobals "reversed" = some none) (dict_ : PySem.W.nsIn K mainGlobals "dict" = some none) (any_ : PySem.W.nsIn K mainGlobals "any" = some none) (abs_ : PySem.W.nsIn K mainGlobals "abs" = some none) : BI mg :=
  ⟨PySem.W.mg_none_of KX G len_, PySem.W.mg_none_of KX G range_, PySem.W.mg_none_of KX G isinstance_, PySem.W.mg_none_of KX G int_, PySem.W.mg_none_of KX G bool_, PySem.W.mg_none_of KX G list_, PySem.W.mg_none_of KX G tuple_, PySem.W.mg_none_of KX G str_, PySem.W.mg_none_of KX G sum_, PySem.W.mg_none_of KX G all_, PySem.W.mg_none_of KX G max_, PySem.W.mg_none_of KX G min_, PySem.W.mg_none_of KX G sorted_, PySem.W.mg_none_of KX G set_, PySem.W.mg_none_of KX G zip_, PySem.W.mg_none_of KX G enumerate_, PySem.W.mg_none_of KX G reversed_, PySem.W.mg_none_of KX G dict_, PySem.W.mg_none_of KX G any_, PySem.W.mg_none_of KX G abs_⟩
def Grow (t : Addr) (H H' : Hp) : Prop := ∀ b o, H b = some o → b ≠ t → H' b = some o
theorem Grow.refl {t : Addr} {H : Hp} : Grow t H H := fun _ _ h _ => h
theorem Grow.trans {t : Addr} {H H1 H2 : Hp} (a : Grow t H H1) (b : Grow t H1 H2) : Grow t H H2 := fun c o h n => b c o (a c o h n) n
theorem Grow.upd {t : Addr} {H H' : Hp} (g : Grow t H H') (o : HO) : Grow t H (L2.upd H' t o) := fun b u h n => by rw [upd_ne n]; exact g b u h n
theorem Grow.new {t l : Addr} {H H' : Hp} {o : HO} (g : Grow t H H') (h : H' l = none) : Grow t H (L2.upd H' l o) := fun b u e n => by
  have := g b u e n
  rw [upd_ne (ne_of_none this h)]; exact this
theorem Same.grow {t : Addr} {H H' : Hp} (s : Same H H') : Grow t H H' := fun b o h _ => s b o h
theorem Same.new {H H' : Hp} {l : Addr} {o : HO} (s : Same H H') (h : H' l = none) : Same H (L2.upd H' l o) := fun b u e => by
  have := s b u e
  rw [upd_ne (ne_of_none this h)]; exact this
theorem Same.seqT {K : PySem.W.Frag} {H H' : Hp} {a : Addr} {xs : List V} (e : Same H H') (h : SqT K H a xs) : SqT K H' a xs := by
  rcases h with (h | ⟨o, h⟩) | h
  · exact .inl (.inl (e _ _ h))
  · exact .inl (.inr ⟨o, e _ _ h⟩)
  · exact .inr h
theorem Grow.seq {K : PySem.W.Frag} {t : Addr} {H H' : Hp} {a : Addr} {xs : List V} {kvs : List (Key × V)} (g : Grow t H H') (ht : H t = some (.dK kvs)) (h : SqL K H a xs) : SqL K H' a xs := by
  rcases h with (h | ⟨o, h⟩) | h
  · exact .inl (.inl (g _ _ h (ne_of h ht (by intro z; cases z))))
  · exact .inl (.inr ⟨o, g _ _ h (ne_of h ht (by intro z; cases z))⟩)
  · exact .inr h
def tapeK (c : Addr) (sp lf : Int) : List (Key × V) := [(Sum.inr "cells", .ref c), (Sum.inr "spot", .int sp), (Sum.inr "left", .int lf)]
theorem cs_ne : ¬ ((Sum.inr ("cells" : Str) : Key) = Sum.inr ("spot" : Str)) := by decide +kernel
theorem cl_ne : ¬ ((Sum.inr ("cells" : Str) : Key) = Sum.inr ("left" : Str)) := by decide +kernel
theorem sl_ne : ¬ ((Sum.inr ("spot" : Str) : Key) = Sum.inr ("left" : Str)) := by decide +kernel
theorem tape_cells {c : Addr} {sp lf : Int} : valV (tapeK c sp lf) (Sum.inr "cells" : Key) = some (.ref c) := by
  simp [valV, tapeK]
theorem tape_spot {c : Addr} {sp lf : Int} : valV (tapeK c sp lf) (Sum.inr "spot" : Key) = some (.int sp) := by
  simp only [valV, tapeK, List.find?_cons, decide_eq_false cs_ne, decide_true, Option.map_some]
theorem tape_left {c : Addr} {sp lf : Int} : valV (tapeK c sp lf) (Sum.inr "left" : Key) = some (.int lf) := by
  simp only [valV, tapeK, List.find?_cons, decide_eq_false cl_ne, decide_eq_false sl_ne, decide_true, Option.map_some]
theorem put_left {c : Addr} {sp lf x : Int} : putK (tapeK c sp lf) (Sum.inr "left" : Key) (.int x) = tapeK c sp x := by
  unfold putK
  rw [if_pos (by simp [tapeK])]
  simp only [tapeK, List.map_cons, List.map_nil, if_neg cl_ne, if_neg sl_ne, if_pos]
theorem put_spot {c : Addr} {sp lf x : Int} : putK (tapeK c sp lf) (Sum.inr "spot" : Key) (.int x) = tapeK c x lf := by
  unfold putK
  rw [if_pos (by simp [tapeK])]
  simp only [tapeK, List.map_cons, List.map_nil, if_neg cs_ne, if_pos, if_neg (show ¬ ((Sum.inr ("left" : Str) : Key) = Sum.inr ("spot" : Str)) from fun e => sl_ne e.symm)]
theorem tape_made {c : Addr} : mergeK [] [((Sum.inr ("cells" : Str) : Key), V.ref c), ((Sum.inr ("spot" : Str) : Key), V.int 0), ((Sum.inr ("left" : Str) : Key), V.int 0)] = tapeK c 0 0 := by
  simp only [mergeK, List.foldl_cons, List.foldl_nil]
  have e1 : putK ([] : List (Key × V)) (Sum.inr ("cells" : Str)) (V.ref c) = [((Sum.inr ("cells" : Str) : Key), V.ref c)] := by simp [putK]
  have e2 : putK [((Sum.inr ("cells" : Str) : Key), V.ref c)] (Sum.inr ("spot" : Str)) (V.int 0) = [((Sum.inr ("cells" : Str) : Key), V.ref c), ((Sum.inr ("spot" : Str) : Key), V.int 0)] := by
    unfold putK
    rw [if_neg (by simp only [List.any_cons, List.any_nil, decide_eq_false cs_ne]; simp)]
    rfl
  have e3 : putK [((Sum.inr ("cells" : Str) : Key), V.ref c), ((Sum.inr ("spot" : Str) : Key), V.int 0)] (Sum.inr ("left" : Str)) (V.int 0) = tapeK c 0 0 := by
    unfold putK
    rw [if_neg (by simp only [List.any_cons, List.any_nil, decide_eq_false cl_ne, decide_eq_false sl_ne]; simp)]
    rfl
  rw [e1, e2, e3]
def Tape (K : PySem.W.Frag) (H : Hp) (t : Addr) (n : Nat) : Prop := ∃ (c : Addr) (ns : List Int) (sp lf : Int), H t = some (.dK (tapeK c sp lf)) ∧ SqL K H c (ns.map V.int) ∧ 0 ≤ sp ∧ sp ≤ n ∧ 0 ≤ lf
theorem Tape.more {K : PySem.W.Frag} {H : Hp} {t : Addr} {n m : Nat} (T : Tape K H t n) (h : n ≤ m) : Tape K H t m := by
  obtain ⟨c, ns, sp, lf, a, b, c1, c2, c3⟩ := T
  exact ⟨c, ns, sp, lf, a, b, c1, by omega, c3⟩
theorem Tape.dict {K : PySem.W.Frag} {H : Hp} {t : Addr} {n : Nat} (T : Tape K H t n) : ∃ kvs, H t = some (.dK kvs) := by
  obtain ⟨c, ns, sp, lf, a, _⟩ := T
  exact ⟨_, a⟩
theorem Tape.same {K : PySem.W.Frag} {H H' : Hp} {t : Addr} {n : Nat} (T : Tape K H t n) (s : Same H H') : Tape K H' t n := by
  obtain ⟨c, ns, sp, lf, a, b, r⟩ := T
  exact ⟨c, ns, sp, lf, s _ _ a, s.seq b, r⟩
theorem Tape.put {K : PySem.W.Frag} {H : Hp} {t c : Addr} {ns : List Int} {sp lf sp' lf' : Int} {n : Nat} (a : H t = some (.dK (tapeK c sp lf))) (b : SqL K H c (ns.map V.int)) (h1 : 0 ≤ sp') (h2 : sp' ≤ n) (h3 : 0 ≤ lf') : Tape K (upd H t (.dK (tapeK c sp' lf'))) t n :=
  ⟨c, ns, sp', lf', upd_same, Grow.seq (Grow.refl.upd _) a b, h1, h2, h3⟩
theorem cut63 {ns : List Int} : cutV (ns.map V.int) none (some 63) = (ns.take 63).map V.int := by
  unfold cutV
  have e0 : HT.sIx (ns.map V.int).length 0 none = 0 := rfl
  rw [e0, List.drop_zero, Nat.sub_zero, List.map_take]
  show List.take (HT.sIx _ _ (some ((63 : Nat) : Int))) _ = _
  rw [HT.sIx_nat]
  rcases Nat.le_total 63 (ns.map V.int).length with h | h
  · rw [Nat.min_eq_left h]
  · rw [Nat.min_eq_right h, List.take_of_length_le (Nat.le_refl _), List.take_of_length_le h]
end L2
namespace L2
theorem drawn {Q : Int → Hp → Prop} {m x : Int} {H' : Hp} (hm : 0 < m) (k : ∀ r : Nat, (r : Int) < m → Q (r : Nat) H') : Q (x % m) H' := by
  obtain ⟨r, e⟩ := Int.eq_ofNat_of_zero_le (Int.emod_nonneg x (Int.ne_of_gt hm))
  have := Int.emod_lt_of_pos x hm
  rw [e] at this ⊢
  exact k r this
theorem seedOk {y : Int} : -(2 ^ 64) < y % 2147483647 ∧ y % 2147483647 < 2 ^ 64 := by omega
theorem dv64 : Dv 64 := Dv.small (by decide) (by decide)
end L2
set_option Elab.async false
set_option linter.all false
set_option maxRecDepth 100000
namespace L2
open PySem PySem.Spec PyProof.Rows
theorem and_nat (a b : Nat) : Builtin.bitAnd (a : Int) (b : Int) = ((a &&& b : Nat) : Int) := by
  unfold Builtin.bitAnd
  rw [decide_eq_true (Int.natCast_nonneg a), decide_eq_true (Int.natCast_nonneg b)]
  simp
theorem or_nat (a b : Nat) : Builtin.bitOr (a : Int) (b : Int) = ((a ||| b : Nat) : Int) := by
  unfold Builtin.bitOr Builtin.bitAnd Builtin.bitNot
  rw [decide_eq_false (show ¬ (0 : Int) ≤ -(a : Int) - 1 by omega), decide_eq_false (show ¬ (0 : Int) ≤ -(b : Int) - 1 by omega)]
  have h1 : (-(-(a : Int) - 1) - 1).toNat = a := by omega
  have h2 : (-(-(b : Int) - 1) - 1).toNat = b := by omega
  simp only [h1, h2]
  omega
theorem xor_and_nat : ∀ (a b : Nat), (a ^^^ b) + 2 * (a &&& b) = a + b := by
  intro a
  induction a using Nat.strongRecOn with
  | ind a ih =>
    intro b
    by_cases h0 : a = 0
    · subst h0; simp
    · have h := ih (a / 2) (by omega) (b / 2)
      have e1 : (a ^^^ b) / 2 = a / 2 ^^^ b / 2 := Nat.xor_div_two
      have e2 : (a &&& b) / 2 = a / 2 &&& b / 2 := Nat.and_div_two
      have e3 : (a ^^^ b) % 2 = (a + b) % 2 := by
        have := Nat.testBit_xor a b 0
        rw [Nat.testBit_zero, Nat.testBit_zero, Nat.testBit_zero] at this
        rcases Nat.mod_two_eq_zero_or_one a with p | p <;> rcases Nat.mod_two_eq_zero_or_one b with q | q <;> rcases Nat.mod_two_eq_zero_or_one (a ^^^ b) with r | r <;> simp [p, q, r] at this <;> omega
      have e4 : (a &&& b) % 2 = (a % 2) * (b % 2) := by
        have := Nat.testBit_and a b 0
        rw [Nat.testBit_zero, Nat.testBit_zero, Nat.testBit_zero] at this
        rcases Nat.mod_two_eq_zero_or_one a with p | p <;> rcases Nat.mod_two_eq_zero_or_one b with q | q <;> rcases Nat.mod_two_eq_zero_or_one (a &&& b) with r | r <;> simp [p, q, r] at this <;> simp [p, q, r]
      rcases Nat.mod_two_eq_zero_or_one a with p | p <;> rcases Nat.mod_two_eq_zero_or_one b with q | q <;> rw [p, q] at e4 <;> omega
theorem xor_nat (a b : Nat) : Builtin.bitXor (a : Int) (b : Int) = ((a ^^^ b : Nat) : Int) := by
  unfold Builtin.bitXor
  rw [or_nat, and_nat]
  have h1 : (a ||| b) + (a &&& b) = a + b := by
    have := xor_and_nat a b
    have e : (a ||| b) = (a ^^^ b) + (a &&& b) := by
      have h2 := xor_and_nat (a ^^^ b) (a &&& b)
      have h3 : (a ^^^ b) &&& (a &&& b) = 0 := by
        apply Nat.eq_of_testBit_eq
        intro i
        simp only [Nat.testBit_and, Nat.testBit_xor, Nat.zero_testBit]
        cases a.testBit i <;> cases b.testBit i <;> rfl
      have h4 : (a ^^^ b) ^^^ (a &&& b) = a ||| b := by
        apply Nat.eq_of_testBit_eq
        intro i
        simp only [Nat.testBit_and, Nat.testBit_xor, Nat.testBit_or]
        cases a.testBit i <;> cases b.testBit i <;> rfl
      rw [h3, h4] at h2
      omega
    omega
  have := xor_and_nat a b
  omega
theorem shl_nat (k : Nat) : (1 : Int) * (2 : Int) ^ ((k : Int).toNat) = ((1 <<< k : Nat) : Int) := by
  rw [Int.toNat_natCast, Nat.shiftLeft_eq, Int.one_mul, Nat.one_mul]
  simp
def bitsN (n : Nat) : Nat := if n = 0 then 0 else n.log2 + 1
theorem bits_nat (n : Nat) : Builtin.Int.intBits (n : Int) = bitsN n := by
  unfold Builtin.Int.intBits bitsN
  by_cases h : n = 0
  · subst h; rfl
  · rw [if_neg (by simp; omega), if_neg h]; simp
theorem lt_bits {n k : Nat} (h : n.testBit k = true) : k < bitsN n := by
  have h1 : 2 ^ k ≤ n := Nat.ge_two_pow_of_testBit h
  have h0 : n ≠ 0 := by
    intro z; subst z; simp at h
  unfold bitsN
  rw [if_neg h0]
  have := (Nat.le_log2 h0).mpr h1
  omega
def givens (n : Nat) : List Nat := (List.range (bitsN n)).filter n.testBit
theorem filter_beyond {p : Nat → Bool} {m : Nat} (h : ∀ k, p k = true → k < m) : ∀ d : Nat, (List.range (m + d)).filter p = (List.range m).filter p
  | 0 => rfl
  | d + 1 => by
    rw [← Nat.add_assoc, List.range_succ, List.filter_append, filter_beyond h d]
    have : p (m + d) = false := by
      cases e : p (m + d) with
      | false => rfl
      | true => have := h _ e; omega
    simp [this]
theorem givens_range {n m : Nat} (h : n < 2 ^ m) : (List.range m).filter n.testBit = givens n := by
  have h1 : ∀ k, n.testBit k = true → k < m := fun k e => by
    have := Nat.ge_two_pow_of_testBit e
    exact (Nat.pow_lt_pow_iff_right (by decide)).mp (Nat.lt_of_le_of_lt this h)
  unfold givens
  rcases Nat.le_total m (bitsN n) with q | q
  · obtain ⟨d, e⟩ := Nat.exists_eq_add_of_le q
    rw [e, filter_beyond h1]
  · obtain ⟨d, e⟩ := Nat.exists_eq_add_of_le q
    rw [e, filter_beyond fun k z => lt_bits z]
end L2
set_option Elab.async false
set_option linter.all false
namespace L2
open PySem PySem.Spec PyProof.Rows
def spLaw (K : PySem.W.Frag) : Sp := fun vs H Q _ => ∃ (a : Addr) (ns : List Int), vs = [.ref a] ∧ SqL K H a (ns.map V.int) ∧ ns.length ≤ 63 ∧ ∀ H', Q (.bl true) H'
theorem bits_le {n m : Nat} (h : n < 2 ^ m) : bitsN n ≤ m := by
  unfold bitsN
  by_cases h0 : n = 0
  · rw [if_pos h0]; omega
  · rw [if_neg h0]
    exact (Nat.log2_lt h0).mpr h
theorem lt_of_bits {n : Nat} : n < 2 ^ bitsN n := by
  unfold bitsN
  by_cases h0 : n = 0
  · rw [if_pos h0, h0]; decide
  · rw [if_neg h0]; exact Nat.lt_log2_self
end L2
set_option Elab.async false
set_option linter.all false
set_option maxRecDepth 100000
namespace L2
open PySem PySem.Spec PyProof.Rows
theorem bt_len : bootBuiltins "len" = some (.builtin "len") := by decide +kernel
theorem bt_isinstance : bootBuiltins "isinstance" = some (.builtin "isinstance") := by decide +kernel
theorem bt_int : bootBuiltins "int" = some (.type "int") := by decide +kernel
theorem bt_bool : bootBuiltins "bool" = some (.type "bool") := by decide +kernel
theorem bt_list : bootBuiltins "list" = some (.type "list") := by decide +kernel
theorem bt_tuple : bootBuiltins "tuple" = some (.type "tuple") := by decide +kernel
theorem bt_all : bootBuiltins "all" = some (.builtin "all") := by decide +kernel
theorem bt_enumerate : bootBuiltins "enumerate" = some (.type "enumerate") := by decide +kernel
theorem bt_dict : bootBuiltins "dict" = some (.type "dict") := by decide +kernel
section
variable {X : Cx} {a b e o : Expr} {es : List Expr} {ta tb te to : TE} {t : TA} {pos apos cpos : Pos} (K : PySem.W.Frag)
theorem pt_truthK (ha : PE X a ta) (he : ∀ whole, isTrue a X.env whole = (do let v ← whole; standAt a.pos; holding [v] (truthy v))) (hK : X.K = K := by rfl) :
    PT X a (fun σ H Q => ta σ H fun x H' => ∃ k, TruV K x H' k ∧ Q k H') := by subst hK; exact pt_truth ha he
theorem op_notIn_seqK (hK : X.K = K := by rfl) : OpR X (compareOp .NotIn) (rIn K true) := by subst hK; exact op_notIn_seq
theorem ix_seqK (hK : X.K = K := by rfl) : IxR X (rIx K) := by subst hK; exact ix_seq
theorem sl_listK (hK : X.K = K := by rfl) : SlR X (rSlL K) := by subst hK; exact sl_list
theorem call_lenK (hK : X.K = K := by rfl) : CallR X (.builtin "len") (fun xs H Q => ∃ p ys, xs = [.ref p] ∧ (SqL K H p ys ∨ SqT K H p ys) ∧ Q (.int ys.length) H) := by subst hK; exact call_len_seq
theorem call_listK (hK : X.K = K := by rfl) : CallR X (.type "list") (fun xs H Q => ∃ p ys, xs = [.ref p] ∧ (SqL K H p ys ∨ SqT K H p ys) ∧ ∀ l, H l = none → Q (.ref l) (upd H l (.lst ys))) := by subst hK; exact call_list_of
theorem call_tupleK (hK : X.K = K := by rfl) : CallR X (.type "tuple") (fun xs H Q => ∃ p ys, xs = [.ref p] ∧ ((SqL K H p ys ∧ ∀ l, H l = none → Q (.ref l) (upd H l (.tup ys))) ∨ (SqT K H p ys ∧ Q (.ref p) H))) := by subst hK; exact call_tuple_of
theorem pg_tupK {es : List Expr} {k : Nat} {t : TGs} {n : Nat} (hc : X.calm = true) (h : PGs X es t) (hn : (assignEach es X.env).length = n := by rfl) (hst : (assignEach es X.env).findIdx? (·.1) = none := by rfl) (hK : X.K = K := by rfl) :
    PG X (.Tuple es k pos) (gTup K n t) := by subst hK; exact pg_tup hc h hn hst
variable {name : Str} {T id : String} {r : V → List V → Hp → VK → Prop}
theorem pe_bm0K (pa : PlainAttrs T) (slot : Slot T name id) (hty : typeOf (.builtin id) = pure (.type "method_descriptor")) (hm : MtR X id r) (ho : PE X o to)
    (hbase : attributeBase o name X.env (eval o X.env) = eval o X.env := by rfl) (hline : (apos.endLine == cpos.line) = true := by rfl) (hK : X.K = K := by rfl) : PE X (.Call (.Attribute o name apos) [] [] cpos) (tBM0 K T r to) := by
  subst hK; exact pe_bm0 pa slot hty hm ho hbase hline
theorem pe_bmK (pa : PlainAttrs T) (slot : Slot T name id) (hty : typeOf (.builtin id) = pure (.type "method_descriptor")) (hm : MtR X id r) (ho : PE X o to) (ha : PA X (e :: es) t)
    (hbase : attributeBase o name X.env (eval o X.env) = eval o X.env := by rfl)
    (hfew : ((backTo cpos (starEach (e :: es) X.env)).all (fun x => !x.1) && (backToKw cpos (keywordEach [] X.env)).all (fun x => x.1.isSome) && decide ((e :: es).length + ([] : List Keyword).length + (if ([] : List Keyword).isEmpty then 0 else 1) < 30)) = true := by rfl)
    (hline : (apos.endLine == cpos.line) = true := by rfl) (he : starEach (e :: es) X.env = (false, eval e X.env) :: starEach es X.env := by rfl) (hpl : (backTo cpos (starEach es X.env)).any (·.1) = false := by rfl)
    (hK : X.K = K := by rfl) : PE X (.Call (.Attribute o name apos) (e :: es) [] cpos) (tBM K T r to t) := by
  subst hK
  exact pe_bm pa slot hty hm ho ha hbase hfew hline he hpl
end
end L2
set_option Elab.async false
set_option linter.all false
set_option maxRecDepth 100000
namespace L2
open PySem PySem.Spec PyProof.Rows
inductive D where
  | non | bl (b : Bool) | int (i : Int) | str (x : Str) | tup (ds : List D) | lst (ds : List D)
def StT (H : Hp) (a : Addr) (xs : List V) : Prop := H a = some (.tup xs)
theorem StT.sq {K : PySem.W.Frag} {H : Hp} {a : Addr} {xs : List V} (h : StT H a xs) : SqT K H a xs := SqT.of h
instance {K : PySem.W.Frag} {H : Hp} {a : Addr} {xs : List V} : Coe (StT H a xs) (SqT K H a xs) := ⟨StT.sq⟩
def StL (H : Hp) (a : Addr) (xs : List V) : Prop := H a = some (.lst xs)
theorem StL.sq {K : PySem.W.Frag} {H : Hp} {a : Addr} {xs : List V} (h : StL H a xs) : SqL K H a xs := SqL.of h
instance {K : PySem.W.Frag} {H : Hp} {a : Addr} {xs : List V} : Coe (StL H a xs) (SqL K H a xs) := ⟨StL.sq⟩
mutual
def RepD (K : PySem.W.Frag) (H : Hp) : V → D → Prop
  | v, .non => v = .non
  | v, .bl b => v = .bl b
  | v, .int i => v = .int i
  | v, .str x => v = .str x
  | v, .tup ds => ∃ a vs, v = .ref a ∧ StT H a vs ∧ RepDs K H vs ds
  | v, .lst ds => ∃ a vs, v = .ref a ∧ StL H a vs ∧ RepDs K H vs ds
def RepDs (K : PySem.W.Frag) (H : Hp) : List V → List D → Prop
  | [], [] => True
  | v :: vs, d :: ds => RepD K H v d ∧ RepDs K H vs ds
  | _, _ => False
end
mutual
def eqD : D → D → Bool
  | .non, .non => true
  | .bl a, .bl b => a == b
  | .bl a, .int b => (if a then 1 else 0) == b
  | .int a, .bl b => a == (if b then 1 else 0)
  | .int a, .int b => a == b
  | .str a, .str b => a == b
  | .tup ds, .tup es => eqDs ds es
  | .lst ds, .lst es => eqDs ds es
  | _, _ => false
def eqDs : List D → List D → Bool
  | [], [] => true
  | d :: ds, e :: es => eqD d e && eqDs ds es
  | _, _ => false
end
mutual
def D.depth : D → Nat
  | .tup ds => depths ds + 1
  | .lst ds => depths ds + 1
  | _ => 0
def depths : List D → Nat
  | [] => 0
  | d :: ds => max d.depth (depths ds)
end
section
variable {K : PySem.W.Frag} {H H' : Hp}
theorem RepDs.length : ∀ {vs : List V} {ds : List D}, RepDs K H vs ds → vs.length = ds.length
  | [], [], _ => rfl
  | v :: vs, d :: ds, h => by
    unfold RepDs at h
    rw [List.length_cons, List.length_cons, RepDs.length h.2]
  | [], d :: ds, h => by unfold RepDs at h; exact h.elim
  | v :: vs, [], h => by unfold RepDs at h; exact h.elim
theorem RepDs.get : ∀ {vs : List V} {ds : List D} {i : Nat} {d : D}, RepDs K H vs ds → ds[i]? = some d → ∃ v, vs[i]? = some v ∧ RepD K H v d
  | [], [], _, _, _, e => by simp at e
  | v :: vs, d :: ds, 0, _, h, e => by
    unfold RepDs at h
    simp at e; subst e
    exact ⟨v, rfl, h.1⟩
  | v :: vs, d :: ds, i + 1, _, h, e => by
    unfold RepDs at h
    obtain ⟨u, a, b⟩ := RepDs.get (i := i) h.2 (by simpa using e)
    exact ⟨u, by simpa using a, b⟩
  | [], d :: ds, _, _, h, _ => by unfold RepDs at h; exact h.elim
  | v :: vs, [], _, _, h, _ => by unfold RepDs at h; exact h.elim
theorem RepDs.getV : ∀ {vs : List V} {ds : List D} {i : Nat} {v : V}, RepDs K H vs ds → vs[i]? = some v → ∃ d, ds[i]? = some d ∧ RepD K H v d
  | [], [], _, _, _, e => by simp at e
  | v :: vs, d :: ds, 0, _, h, e => by
    unfold RepDs at h
    simp at e; subst e
    exact ⟨d, rfl, h.1⟩
  | v :: vs, d :: ds, i + 1, _, h, e => by
    unfold RepDs at h
    obtain ⟨u, a, b⟩ := RepDs.getV (i := i) h.2 (by simpa using e)
    exact ⟨u, by simpa using a, b⟩
  | [], d :: ds, _, _, h, _ => by unfold RepDs at h; exact h.elim
  | v :: vs, [], _, _, h, _ => by unfold RepDs at h; exact h.elim
theorem RepDs.append : ∀ {vs ws : List V} {ds es : List D}, RepDs K H vs ds → RepDs K H ws es → RepDs K H (vs ++ ws) (ds ++ es)
  | [], ws, [], es, _, h => h
  | v :: vs, ws, d :: ds, es, h, h' => by
    unfold RepDs at h
    show RepDs K H (v :: (vs ++ ws)) (d :: (ds ++ es))
    unfold RepDs
    exact ⟨h.1, RepDs.append h.2 h'⟩
  | [], _, d :: ds, _, h, _ => by unfold RepDs at h; exact h.elim
  | v :: vs, _, [], _, h, _ => by unfold RepDs at h; exact h.elim
theorem RepDs.one {v : V} {d : D} (h : RepD K H v d) : RepDs K H [v] [d] := by unfold RepDs; exact ⟨h, by unfold RepDs; trivial⟩
theorem RepDs.nil : RepDs K H [] [] := by unfold RepDs; trivial
theorem RepDs.cons {v : V} {d : D} {vs : List V} {ds : List D} (h : RepD K H v d) (t : RepDs K H vs ds) : RepDs K H (v :: vs) (d :: ds) := by unfold RepDs; exact ⟨h, t⟩
mutual
theorem RepD.keep (hl : ∀ a vs, StL H a vs → StL H' a vs) (ht : ∀ a vs, StT H a vs → StT H' a vs) : ∀ {v : V} {d : D}, RepD K H v d → RepD K H' v d
  | v, .non, h => by unfold RepD at h ⊢; exact h
  | v, .bl b, h => by unfold RepD at h ⊢; exact h
  | v, .int i, h => by unfold RepD at h ⊢; exact h
  | v, .str x, h => by unfold RepD at h ⊢; exact h
  | v, .tup ds, h => by
    unfold RepD at h ⊢
    obtain ⟨a, vs, e, h1, h2⟩ := h
    exact ⟨a, vs, e, ht _ _ h1, RepDs.keep hl ht h2⟩
  | v, .lst ds, h => by
    unfold RepD at h ⊢
    obtain ⟨a, vs, e, h1, h2⟩ := h
    exact ⟨a, vs, e, hl _ _ h1, RepDs.keep hl ht h2⟩
theorem RepDs.keep (hl : ∀ a vs, StL H a vs → StL H' a vs) (ht : ∀ a vs, StT H a vs → StT H' a vs) : ∀ {vs : List V} {ds : List D}, RepDs K H vs ds → RepDs K H' vs ds
  | [], [], _ => RepDs.nil
  | v :: vs, d :: ds, h => by
    unfold RepDs at h ⊢
    exact ⟨RepD.keep hl ht h.1, RepDs.keep hl ht h.2⟩
  | [], d :: ds, h => by unfold RepDs at h; exact h.elim
  | v :: vs, [], h => by unfold RepDs at h; exact h.elim
end
theorem RepD.same {v : V} {d : D} (h : RepD K H v d) (s : Same H H') : RepD K H' v d := h.keep (fun _ _ q => s _ _ q) fun _ _ q => s _ _ q
theorem RepDs.same {vs : List V} {ds : List D} (h : RepDs K H vs ds) (s : Same H H') : RepDs K H' vs ds := h.keep (fun _ _ q => s _ _ q) fun _ _ q => s _ _ q
theorem Grow.seqT {t : Addr} {a : Addr} {xs : List V} {kvs : List (Key × V)} (g : Grow t H H') (ht : H t = some (.dK kvs)) (h : SqT K H a xs) : SqT K H' a xs := by
  rcases h with (h | ⟨o, h⟩) | h
  · exact .inl (.inl (g _ _ h (ne_of h ht (by intro z; cases z))))
  · exact .inl (.inr ⟨o, g _ _ h (ne_of h ht (by intro z; cases z))⟩)
  · exact .inr h
theorem RepD.grow {v : V} {d : D} {t : Addr} {kvs : List (Key × V)} (h : RepD K H v d) (g : Grow t H H') (ht : H t = some (.dK kvs)) : RepD K H' v d := h.keep (fun _ _ q => g _ _ q (ne_of q ht (by intro z; cases z))) fun _ _ q => g _ _ q (ne_of q ht (by intro z; cases z))
theorem RepDs.grow {vs : List V} {ds : List D} {t : Addr} {kvs : List (Key × V)} (h : RepDs K H vs ds) (g : Grow t H H') (ht : H t = some (.dK kvs)) : RepDs K H' vs ds := h.keep (fun _ _ q => g _ _ q (ne_of q ht (by intro z; cases z))) fun _ _ q => g _ _ q (ne_of q ht (by intro z; cases z))
end
mutual
theorem eqD_refl : ∀ d : D, eqD d d = true
  | .non => by simp [eqD]
  | .bl b => by simp [eqD]
  | .int i => by simp [eqD]
  | .str x => by simp [eqD]
  | .tup ds => by unfold eqD; exact eqDs_refl ds
  | .lst ds => by unfold eqD; exact eqDs_refl ds
theorem eqDs_refl : ∀ ds : List D, eqDs ds ds = true
  | [] => by simp [eqDs]
  | d :: ds => by unfold eqDs; rw [eqD_refl d, eqDs_refl ds]; rfl
end
section
variable {X : Cx} {pins : List (Addr × Obj)} {σ : St} {H : Hp} {s : Shared}
mutual
theorem repD_inj (I : Inv X pins σ H s) : ∀ {v : V} {d e : D}, RepD X.K H v d → RepD X.K H v e → d = e
  | v, .non, e, h, h' => by
    unfold RepD at h; subst h
    cases e <;> (unfold RepD at h'; first | rfl | (obtain ⟨_, _, z, _⟩ := h'; cases z) | cases h')
  | v, .bl b, e, h, h' => by
    unfold RepD at h; subst h
    cases e <;> (unfold RepD at h'; first | (cases h'; rfl) | (obtain ⟨_, _, z, _⟩ := h'; cases z) | cases h')
  | v, .int b, e, h, h' => by
    unfold RepD at h; subst h
    cases e <;> (unfold RepD at h'; first | (cases h'; rfl) | (obtain ⟨_, _, z, _⟩ := h'; cases z) | cases h')
  | v, .str b, e, h, h' => by
    unfold RepD at h; subst h
    cases e <;> (unfold RepD at h'; first | (cases h'; rfl) | (obtain ⟨_, _, z, _⟩ := h'; cases z) | cases h')
  | v, .tup ds, e, h, h' => by
    unfold RepD at h
    obtain ⟨a, vs, rfl, h1, h2⟩ := h
    cases e with
    | tup es =>
      unfold RepD at h'
      obtain ⟨b, ws, z, g1, g2⟩ := h'
      cases z
      rw [I.tuple_inj g1.sq h1.sq] at g2
      rw [repDs_inj I h2 g2]
    | lst es =>
      unfold RepD at h'
      obtain ⟨b, ws, z, g1, g2⟩ := h'
      cases z
      obtain ⟨_, _, ⟨o, n, e1, c1, _⟩, _⟩ := I.list (StL.sq g1)
      obtain ⟨_, _, ⟨o', e2, c2, _⟩, _⟩ := I.tuple h1.sq
      rw [e1] at e2; cases e2
      rw [c1] at c2
      exact absurd c2 (by decide)
    | non => unfold RepD at h'; cases h'
    | bl _ => unfold RepD at h'; cases h'
    | int _ => unfold RepD at h'; cases h'
    | str _ => unfold RepD at h'; cases h'
  | v, .lst ds, e, h, h' => by
    unfold RepD at h
    obtain ⟨a, vs, rfl, h1, h2⟩ := h
    cases e with
    | lst es =>
      unfold RepD at h'
      obtain ⟨b, ws, z, g1, g2⟩ := h'
      cases z
      rw [I.list_inj (StL.sq g1) (StL.sq h1)] at g2
      rw [repDs_inj I h2 g2]
    | tup es =>
      unfold RepD at h'
      obtain ⟨b, ws, z, g1, g2⟩ := h'
      cases z
      obtain ⟨_, _, ⟨o, n, e1, c1, _⟩, _⟩ := I.list (StL.sq h1)
      obtain ⟨_, _, ⟨o', e2, c2, _⟩, _⟩ := I.tuple g1.sq
      rw [e1] at e2; cases e2
      rw [c1] at c2
      exact absurd c2 (by decide)
    | non => unfold RepD at h'; cases h'
    | bl _ => unfold RepD at h'; cases h'
    | int _ => unfold RepD at h'; cases h'
    | str _ => unfold RepD at h'; cases h'
theorem repDs_inj (I : Inv X pins σ H s) : ∀ {vs : List V} {ds es : List D}, RepDs X.K H vs ds → RepDs X.K H vs es → ds = es
  | [], [], [], _, _ => rfl
  | v :: vs, d :: ds, e :: es, h, h' => by
    unfold RepDs at h h'
    rw [repD_inj I h.1 h'.1, repDs_inj I h.2 h'.2]
  | [], d :: ds, _, h, _ => by unfold RepDs at h; exact h.elim
  | v :: vs, [], _, h, _ => by unfold RepDs at h; exact h.elim
  | [], _, d :: ds, _, h => by unfold RepDs at h; exact h.elim
  | v :: vs, _, [], _, h => by unfold RepDs at h; exact h.elim
end
end
theorem in1_units (A : Around) : A.in1.units = A.units + 1 := rfl
theorem depths_get : ∀ {ds : List D} {j : Nat} {d : D}, ds[j]? = some d → d.depth ≤ depths ds
  | [], _, _, h => by simp at h
  | d :: ds, 0, _, h => by simp at h; subst h; unfold depths; omega
  | d :: ds, j + 1, e, h => by
    have := depths_get (ds := ds) (j := j) (by simpa using h)
    unfold depths; omega
def eqAtI (ds es : List D) (j : Nat) : Bool := match ds[j]?, es[j]? with
  | some d, some e => eqD d e
  | _, _ => true
theorem eqDs_range : ∀ {ds es : List D}, ds.length = es.length → (List.range ds.length).all (eqAtI ds es) = eqDs ds es
  | [], [], _ => by simp [eqDs]
  | d :: ds, e :: es, h => by
    have ih := eqDs_range (ds := ds) (es := es) (by simpa using h)
    rw [List.length_cons, List.range_succ_eq_map, List.all_cons, List.all_map]
    unfold eqDs
    rw [← ih]
    congr 1
  | [], _ :: _, h => by simp at h
  | _ :: _, [], h => by simp at h
theorem eqDs_lengths : ∀ {ds es : List D}, ds.length ≠ es.length → eqDs ds es = false
  | [], [], h => absurd rfl h
  | [], _ :: _, _ => by simp [eqDs]
  | _ :: _, [], _ => by simp [eqDs]
  | d :: ds, e :: es, h => by
    unfold eqDs
    rw [eqDs_lengths (ds := ds) (es := es) (by simpa using h), Bool.and_false]
section
variable {X : Cx} {pins : List (Addr × Obj)} {σ : St} {H : Hp} {s : Shared}
theorem items_eq (I : Inv X pins σ H s) {m : Nat} (ih : ∀ {A : Around} {v u : V} {vv uu : Value} {d e : D}, d.depth ≤ m → A.units + m < cLine → RelV v vv → RelV u uu → RepD X.K H v d → RepD X.K H u e → SeqAt.EqAt A s vv uu (eqD d e)) {A : Around} (hu : A.units + m < cLine)
    {vs us : List V} {vvs uus : List Value} {ds es : List D} (hd : depths ds ≤ m) (rv : Vals vs vvs) (ru : Vals us uus) (hv : RepDs X.K H vs ds) (he : RepDs X.K H us es) :
    ∀ j (h1 : j < vvs.toArray.size) (h2 : j < uus.toArray.size), SeqAt.EqAt A s vvs.toArray[j] uus.toArray[j] (eqAtI ds es j) := by
  intro j h1 h2
  rw [List.size_toArray] at h1 h2
  have l1 := rv.length
  have l2 := ru.length
  have g1 : vs[j]? = some vs[j] := List.getElem?_eq_getElem (by omega)
  have g2 : us[j]? = some us[j] := List.getElem?_eq_getElem (by omega)
  obtain ⟨x, ex, rx⟩ := rv.get g1
  obtain ⟨y, ey, ry⟩ := ru.get g2
  obtain ⟨d, ed, rd⟩ := hv.getV g1
  obtain ⟨e, ee, re⟩ := he.getV g2
  rw [List.getElem?_eq_getElem h1] at ex
  rw [List.getElem?_eq_getElem h2] at ey
  cases ex
  cases ey
  have : eqAtI ds es j = eqD d e := by unfold eqAtI; rw [ed, ee]
  rw [this, List.getElem_toArray, List.getElem_toArray]
  exact ih (Nat.le_trans (depths_get ed) hd) hu rx ry rd re
theorem rcStep (I : Inv X pins σ H s) (n : Nat) (ih : 0 < n → ∀ {A : Around} {v u : V} {vv uu : Value} {d e : D}, d.depth ≤ n - 1 → A.units + (n - 1) < cLine → RelV v vv → RelV u uu → RepD X.K H v d → RepD X.K H u e → SeqAt.EqAt A s vv uu (eqD d e))
    {A : Around} {v u : V} {vv uu : Value} {d e : D} (hd : d.depth ≤ n) (hu : A.units + n < cLine) (rv : RelV v vv) (ru : RelV u uu) (hv : RepD X.K H v d) (he : RepD X.K H u e) : SeqAt.RcAt A s vv uu (eqD d e) ∧ SeqAt.EqAt A s vv uu (eqD d e) := by
  have hu0 : A.units < cLine := by omega
  have isL : ∀ {a xs}, StL H a xs → ∃ its : List Value, Vals xs its ∧ s.heap.IsList a its.toArray := fun q => by
    obtain ⟨its, r, p, _⟩ := I.list q.sq
    exact ⟨its, r, p.isList⟩
  have isT : ∀ {a xs}, StT H a xs → ∃ its : List Value, Vals xs its ∧ s.heap.IsTuple a its.toArray := fun q => by
    obtain ⟨its, r, p, _⟩ := I.tuple q.sq
    exact ⟨its, r, p⟩
  cases d with
  | non =>
    unfold RepD at hv; subst hv; cases rv
    cases e with
    | non => unfold RepD at he; subst he; cases ru; exact ⟨.none_none, .same _⟩
    | bl b => unfold RepD at he; subst he; cases ru; exact ⟨.none_bool _, .none_bool _⟩
    | int b => unfold RepD at he; subst he; obtain ⟨t, rfl⟩ := ru; exact ⟨.none_int _ _, .none_int _ _⟩
    | str b => unfold RepD at he; subst he; obtain ⟨t, rfl⟩ := ru; exact ⟨.none_str _ _, .none_str _ _⟩
    | tup es => unfold RepD at he; obtain ⟨a, vs, rfl, q, _⟩ := he; cases ru; obtain ⟨its, _, q⟩ := isT q; exact ⟨.none_tuple q hu0, .none_tuple q hu0⟩
    | lst es => unfold RepD at he; obtain ⟨a, vs, rfl, q, _⟩ := he; cases ru; obtain ⟨its, _, q⟩ := isL q; exact ⟨.none_list q hu0, .none_list q hu0⟩
  | bl x =>
    unfold RepD at hv; subst hv; cases rv
    cases e with
    | non => unfold RepD at he; subst he; cases ru; exact ⟨.bool_none _, .bool_none _⟩
    | bl b => unfold RepD at he; subst he; cases ru; exact ⟨.bool_bool _ _, .bool_bool _ _⟩
    | int b => unfold RepD at he; subst he; obtain ⟨t, rfl⟩ := ru; exact ⟨.bool_int _ _ _, .bool_int _ _ _⟩
    | str b => unfold RepD at he; subst he; obtain ⟨t, rfl⟩ := ru; exact ⟨.bool_str _ _ _, .bool_str _ _ _⟩
    | tup es => unfold RepD at he; obtain ⟨a, vs, rfl, q, _⟩ := he; cases ru; obtain ⟨its, _, q⟩ := isT q; exact ⟨.bool_tuple _ q hu0, .bool_tuple _ q hu0⟩
    | lst es => unfold RepD at he; obtain ⟨a, vs, rfl, q, _⟩ := he; cases ru; obtain ⟨its, _, q⟩ := isL q; exact ⟨.bool_list _ q hu0, .bool_list _ q hu0⟩
  | int x =>
    unfold RepD at hv; subst hv; obtain ⟨t0, rfl⟩ := rv
    cases e with
    | non => unfold RepD at he; subst he; cases ru; exact ⟨.int_none _ _, .int_none _ _⟩
    | bl b => unfold RepD at he; subst he; cases ru; exact ⟨.int_bool _ _ _, .int_bool _ _ _⟩
    | int b => unfold RepD at he; subst he; obtain ⟨t, rfl⟩ := ru; exact ⟨.int_int _ _ _ _, .int_int _ _ _ _⟩
    | str b => unfold RepD at he; subst he; obtain ⟨t, rfl⟩ := ru; exact ⟨.int_str _ _ _ _, .int_str _ _ _ _⟩
    | tup es => unfold RepD at he; obtain ⟨a, vs, rfl, q, _⟩ := he; cases ru; obtain ⟨its, _, q⟩ := isT q; exact ⟨.int_tuple _ _ q hu0, .int_tuple _ _ q hu0⟩
    | lst es => unfold RepD at he; obtain ⟨a, vs, rfl, q, _⟩ := he; cases ru; obtain ⟨its, _, q⟩ := isL q; exact ⟨.int_list _ _ q hu0, .int_list _ _ q hu0⟩
  | str x =>
    unfold RepD at hv; subst hv; obtain ⟨t0, rfl⟩ := rv
    cases e with
    | non => unfold RepD at he; subst he; cases ru; exact ⟨.str_none _ _, .str_none _ _⟩
    | bl b => unfold RepD at he; subst he; cases ru; exact ⟨.str_bool _ _ _, .str_bool _ _ _⟩
    | int b => unfold RepD at he; subst he; obtain ⟨t, rfl⟩ := ru; exact ⟨.str_int _ _ _ _, .str_int _ _ _ _⟩
    | str b => unfold RepD at he; subst he; obtain ⟨t, rfl⟩ := ru; exact ⟨.str_str _ _ _ _, .str_str _ _ _ _⟩
    | tup es => unfold RepD at he; obtain ⟨a, vs, rfl, q, _⟩ := he; cases ru; obtain ⟨its, _, q⟩ := isT q; exact ⟨.str_tuple _ _ q hu0, .str_tuple _ _ q hu0⟩
    | lst es => unfold RepD at he; obtain ⟨a, vs, rfl, q, _⟩ := he; cases ru; obtain ⟨its, _, q⟩ := isL q; exact ⟨.str_list _ _ q hu0, .str_list _ _ q hu0⟩
  | tup ds =>
    have hv0 := hv
    unfold RepD at hv
    obtain ⟨a, vs, rfl, q, hq⟩ := hv
    cases rv
    obtain ⟨its, r1, q1⟩ := isT q
    cases e with
    | non => unfold RepD at he; subst he; cases ru; exact ⟨.tuple_none q1 hu0, .tuple_none q1 hu0⟩
    | bl b => unfold RepD at he; subst he; cases ru; exact ⟨.tuple_bool _ q1 hu0, .tuple_bool _ q1 hu0⟩
    | int b => unfold RepD at he; subst he; obtain ⟨t, rfl⟩ := ru; exact ⟨.tuple_int _ _ q1 hu0, .tuple_int _ _ q1 hu0⟩
    | str b => unfold RepD at he; subst he; obtain ⟨t, rfl⟩ := ru; exact ⟨.tuple_str _ _ q1 hu0, .tuple_str _ _ q1 hu0⟩
    | lst es => unfold RepD at he; obtain ⟨b, ws, rfl, g, _⟩ := he; cases ru; obtain ⟨its2, _, g1⟩ := isL g; exact ⟨.tuple_list q1 g1 hu0, .tuple_list q1 g1 hu0⟩
    | tup es =>
      have he0 := he
      unfold RepD at he
      obtain ⟨b, ws, rfl, g, hg⟩ := he
      cases ru
      obtain ⟨its2, r2, g1⟩ := isT g
      have hd' : depths ds + 1 ≤ n := by simpa [D.depth] using hd
      have l1 := r1.length
      have l2 := r2.length
      have m1 := hq.length
      have m2 := hg.length
      have rc : SeqAt.RcAt A s (.ref a) (.ref b) (eqD (.tup ds) (.tup es)) := by
        have := SeqAt.RcAt.tuples (e := eqAtI ds es) q1 g1 hu0 (items_eq I (fun {A} {v} {u} {vv} {uu} {d} {e} => ih (by omega) (A := A)) (A := A.in1) (by rw [in1_units]; omega) (m := n - 1) (by omega) r1 r2 hq hg)
        rw [List.size_toArray, List.size_toArray] at this
        unfold eqD
        by_cases hl : ds.length = es.length
        · have z : (its.length == its2.length) = true := by rw [beq_iff_eq]; omega
          have mm : min its.length its2.length = ds.length := by omega
          rw [z, Bool.and_true, mm, eqDs_range hl] at this
          exact this
        · have z : (its.length == its2.length) = false := by rw [beq_eq_false_iff_ne]; omega
          rw [z, Bool.and_false] at this
          rw [eqDs_lengths hl]
          exact this
      refine ⟨rc, ?_⟩
      by_cases hab : a = b
      · subst hab
        rw [repD_inj I hv0 he0, eqD_refl]
        exact .same _
      · exact .of_refs hab rc
  | lst ds =>
    have hv0 := hv
    unfold RepD at hv
    obtain ⟨a, vs, rfl, q, hq⟩ := hv
    cases rv
    obtain ⟨its, r1, q1⟩ := isL q
    cases e with
    | non => unfold RepD at he; subst he; cases ru; exact ⟨.list_none q1 hu0, .list_none q1 hu0⟩
    | bl b => unfold RepD at he; subst he; cases ru; exact ⟨.list_bool _ q1 hu0, .list_bool _ q1 hu0⟩
    | int b => unfold RepD at he; subst he; obtain ⟨t, rfl⟩ := ru; exact ⟨.list_int _ _ q1 hu0, .list_int _ _ q1 hu0⟩
    | str b => unfold RepD at he; subst he; obtain ⟨t, rfl⟩ := ru; exact ⟨.list_str _ _ q1 hu0, .list_str _ _ q1 hu0⟩
    | tup es => unfold RepD at he; obtain ⟨b, ws, rfl, g, _⟩ := he; cases ru; obtain ⟨its2, _, g1⟩ := isT g; exact ⟨.list_tuple q1 g1 hu0, .list_tuple q1 g1 hu0⟩
    | lst es =>
      have he0 := he
      unfold RepD at he
      obtain ⟨b, ws, rfl, g, hg⟩ := he
      cases ru
      obtain ⟨its2, r2, g1⟩ := isL g
      have hd' : depths ds + 1 ≤ n := by simpa [D.depth] using hd
      have l1 := r1.length
      have l2 := r2.length
      have m1 := hq.length
      have m2 := hg.length
      have rc : SeqAt.RcAt A s (.ref a) (.ref b) (eqD (.lst ds) (.lst es)) := by
        unfold eqD
        by_cases hl : ds.length = es.length
        · have := SeqAt.RcAt.lists (e := eqAtI ds es) q1 g1 (by rw [List.size_toArray, List.size_toArray]; omega) hu0 (items_eq I (fun {A} {v} {u} {vv} {uu} {d} {e} => ih (by omega) (A := A)) (A := A.in1) (by rw [in1_units]; omega) (m := n - 1) (by omega) r1 r2 hq hg)
          rw [List.size_toArray, show its.length = ds.length by omega, eqDs_range hl] at this
          exact this
        · rw [eqDs_lengths hl]
          exact SeqAt.RcAt.lists_lengths q1 g1 (by rw [List.size_toArray, List.size_toArray, bne_iff_ne]; omega) hu0
      refine ⟨rc, ?_⟩
      by_cases hab : a = b
      · subst hab
        rw [repD_inj I hv0 he0, eqD_refl]
        exact .same _
      · exact .of_refs hab rc
theorem rcAt_D (I : Inv X pins σ H s) : ∀ (n : Nat) {A : Around} {v u : V} {vv uu : Value} {d e : D}, d.depth ≤ n → A.units + n < cLine → RelV v vv → RelV u uu → RepD X.K H v d → RepD X.K H u e →
    SeqAt.RcAt A s vv uu (eqD d e) ∧ SeqAt.EqAt A s vv uu (eqD d e) := by
  intro n
  induction n with
  | zero => exact fun hd hu => rcStep I 0 (fun hlt => absurd hlt (by omega)) hd hu
  | succ n ih => exact fun hd hu => rcStep I (n + 1) (fun _ A v u vv uu d e h1 h2 h3 h4 h5 h6 => (ih (A := A) h1 h2 h3 h4 h5 h6).2) hd hu
end
end L2
set_option Elab.async false
set_option linter.all false
set_option maxRecDepth 100000
namespace L2
open PySem PySem.Spec PyProof.Rows
section
variable {X : Cx} (K : PySem.W.Frag)
def rEqD (K : PySem.W.Frag) : R2 := fun x y H Q => ∃ d e, RepD K H x d ∧ RepD K H y e ∧ d.depth ≤ 60 ∧ Q (.bl (eqD d e)) H
def rNeD (K : PySem.W.Frag) : R2 := fun x y H Q => ∃ d e, RepD K H x d ∧ RepD K H y e ∧ d.depth ≤ 60 ∧ Q (.bl (!eqD d e)) H
theorem op_eqD (hu : X.A.units + 64 < cLine) (hK : X.K = K := by rfl) : OpR X (compareOp .Eq) (rEqD K) := by
  subst hK
  intro pins s σ H x y v u Q I rx ry h
  obtain ⟨d, e, hd, he, hz, q⟩ := h
  exact (rcAt_D I 60 hz (by omega) rx ry hd he).1 X.prog X.w _ _ ⟨.bl _, H, I, rfl, q⟩
theorem rcne_D {pins : List (Addr × Obj)} {σ : St} {H : Hp} {s : Shared} (I : Inv X pins σ H s) {A : Around} {v u : V} {vv uu : Value} {d e : D} (hd : d.depth ≤ 60) (hu : A.units + 61 < cLine) (rv : RelV v vv) (ru : RelV u uu) (hv : RepD X.K H v d) (he : RepD X.K H u e) :
    SeqAt.RcNeAt A s vv uu (!eqD d e) := by
  have hu0 : A.units < cLine := by omega
  have isL : ∀ {a xs}, StL H a xs → ∃ its : List Value, Vals xs its ∧ s.heap.IsList a its.toArray := fun q => by
    obtain ⟨its, r, p, _⟩ := I.list q.sq
    exact ⟨its, r, p.isList⟩
  have isT : ∀ {a xs}, StT H a xs → ∃ its : List Value, Vals xs its ∧ s.heap.IsTuple a its.toArray := fun q => by
    obtain ⟨its, r, p, _⟩ := I.tuple q.sq
    exact ⟨its, r, p⟩
  cases d with
  | non =>
    unfold RepD at hv; subst hv; cases rv
    cases e with
    | non => unfold RepD at he; subst he; cases ru; exact .none_none
    | bl b => unfold RepD at he; subst he; cases ru; exact .none_bool _
    | int b => unfold RepD at he; subst he; obtain ⟨t, rfl⟩ := ru; exact .none_int _ _
    | str b => unfold RepD at he; subst he; obtain ⟨t, rfl⟩ := ru; exact .none_str _ _
    | tup es => unfold RepD at he; obtain ⟨a, vs, rfl, q, _⟩ := he; cases ru; obtain ⟨its, _, q⟩ := isT q; exact .none_tuple q hu0
    | lst es => unfold RepD at he; obtain ⟨a, vs, rfl, q, _⟩ := he; cases ru; obtain ⟨its, _, q⟩ := isL q; exact .none_list q hu0
  | bl x =>
    unfold RepD at hv; subst hv; cases rv
    cases e with
    | non => unfold RepD at he; subst he; cases ru; exact .bool_none _
    | bl b => unfold RepD at he; subst he; cases ru; exact .bool_bool _ _
    | int b => unfold RepD at he; subst he; obtain ⟨t, rfl⟩ := ru; exact .bool_int _ _ _
    | str b => unfold RepD at he; subst he; obtain ⟨t, rfl⟩ := ru; exact .bool_str _ _ _
    | tup es => unfold RepD at he; obtain ⟨a, vs, rfl, q, _⟩ := he; cases ru; obtain ⟨its, _, q⟩ := isT q; exact .bool_tuple _ q hu0
    | lst es => unfold RepD at he; obtain ⟨a, vs, rfl, q, _⟩ := he; cases ru; obtain ⟨its, _, q⟩ := isL q; exact .bool_list _ q hu0
  | int x =>
    unfold RepD at hv; subst hv; obtain ⟨t0, rfl⟩ := rv
    cases e with
    | non => unfold RepD at he; subst he; cases ru; exact .int_none _ _
    | bl b => unfold RepD at he; subst he; cases ru; exact .int_bool _ _ _
    | int b => unfold RepD at he; subst he; obtain ⟨t, rfl⟩ := ru; exact .int_int _ _ _ _
    | str b => unfold RepD at he; subst he; obtain ⟨t, rfl⟩ := ru; exact .int_str _ _ _ _
    | tup es => unfold RepD at he; obtain ⟨a, vs, rfl, q, _⟩ := he; cases ru; obtain ⟨its, _, q⟩ := isT q; exact .int_tuple _ _ q hu0
    | lst es => unfold RepD at he; obtain ⟨a, vs, rfl, q, _⟩ := he; cases ru; obtain ⟨its, _, q⟩ := isL q; exact .int_list _ _ q hu0
  | str x =>
    unfold RepD at hv; subst hv; obtain ⟨t0, rfl⟩ := rv
    cases e with
    | non => unfold RepD at he; subst he; cases ru; exact .str_none _ _
    | bl b => unfold RepD at he; subst he; cases ru; exact .str_bool _ _ _
    | int b => unfold RepD at he; subst he; obtain ⟨t, rfl⟩ := ru; exact .str_int _ _ _ _
    | str b => unfold RepD at he; subst he; obtain ⟨t, rfl⟩ := ru; exact .str_str _ _ _ _
    | tup es => unfold RepD at he; obtain ⟨a, vs, rfl, q, _⟩ := he; cases ru; obtain ⟨its, _, q⟩ := isT q; exact .str_tuple _ _ q hu0
    | lst es => unfold RepD at he; obtain ⟨a, vs, rfl, q, _⟩ := he; cases ru; obtain ⟨its, _, q⟩ := isL q; exact .str_list _ _ q hu0
  | tup ds =>
    unfold RepD at hv
    obtain ⟨a, vs, rfl, q, hq⟩ := hv
    cases rv
    obtain ⟨its, r1, q1⟩ := isT q
    cases e with
    | non => unfold RepD at he; subst he; cases ru; exact .tuple_none q1 hu0
    | bl b => unfold RepD at he; subst he; cases ru; exact .tuple_bool _ q1 hu0
    | int b => unfold RepD at he; subst he; obtain ⟨t, rfl⟩ := ru; exact .tuple_int _ _ q1 hu0
    | str b => unfold RepD at he; subst he; obtain ⟨t, rfl⟩ := ru; exact .tuple_str _ _ q1 hu0
    | lst es => unfold RepD at he; obtain ⟨b, ws, rfl, g, _⟩ := he; cases ru; obtain ⟨its2, _, g1⟩ := isL g; exact .tuple_list q1 g1 hu0
    | tup es =>
      unfold RepD at he
      obtain ⟨b, ws, rfl, g, hg⟩ := he
      cases ru
      obtain ⟨its2, r2, g1⟩ := isT g
      have hd' : depths ds + 1 ≤ 60 := by simpa [D.depth] using hd
      have l1 := r1.length
      have l2 := r2.length
      have m1 := hq.length
      have m2 := hg.length
      have := SeqAt.RcNeAt.tuples (e := eqAtI ds es) q1 g1 hu0 (items_eq I (fun {A} {v} {u} {vv} {uu} {d} {e} a1 a2 a3 a4 a5 a6 => (rcAt_D I 60 a1 a2 a3 a4 a5 a6).2) (A := A.in1) (by rw [in1_units]; omega) (m := 60) (by omega) r1 r2 hq hg)
      rw [List.size_toArray, List.size_toArray] at this
      unfold eqD
      by_cases hl : ds.length = es.length
      · have z : (its.length == its2.length) = true := by rw [beq_iff_eq]; omega
        have mm : min its.length its2.length = ds.length := by omega
        rw [z, Bool.and_true, mm, eqDs_range hl] at this
        exact this
      · have z : (its.length == its2.length) = false := by rw [beq_eq_false_iff_ne]; omega
        rw [z, Bool.and_false] at this
        rw [eqDs_lengths hl]
        exact this
  | lst ds =>
    unfold RepD at hv
    obtain ⟨a, vs, rfl, q, hq⟩ := hv
    cases rv
    obtain ⟨its, r1, q1⟩ := isL q
    cases e with
    | non => unfold RepD at he; subst he; cases ru; exact .list_none q1 hu0
    | bl b => unfold RepD at he; subst he; cases ru; exact .list_bool _ q1 hu0
    | int b => unfold RepD at he; subst he; obtain ⟨t, rfl⟩ := ru; exact .list_int _ _ q1 hu0
    | str b => unfold RepD at he; subst he; obtain ⟨t, rfl⟩ := ru; exact .list_str _ _ q1 hu0
    | tup es => unfold RepD at he; obtain ⟨b, ws, rfl, g, _⟩ := he; cases ru; obtain ⟨its2, _, g1⟩ := isT g; exact .list_tuple q1 g1 hu0
    | lst es =>
      unfold RepD at he
      obtain ⟨b, ws, rfl, g, hg⟩ := he
      cases ru
      obtain ⟨its2, r2, g1⟩ := isL g
      have hd' : depths ds + 1 ≤ 60 := by simpa [D.depth] using hd
      have l1 := r1.length
      have l2 := r2.length
      have m1 := hq.length
      have m2 := hg.length
      unfold eqD
      by_cases hl : ds.length = es.length
      · have := SeqAt.RcNeAt.lists (e := eqAtI ds es) q1 g1 (by rw [List.size_toArray, List.size_toArray]; omega) hu0 (items_eq I (fun {A} {v} {u} {vv} {uu} {d} {e} a1 a2 a3 a4 a5 a6 => (rcAt_D I 60 a1 a2 a3 a4 a5 a6).2) (A := A.in1) (by rw [in1_units]; omega) (m := 60) (by omega) r1 r2 hq hg)
        rw [List.size_toArray, show its.length = ds.length by omega, eqDs_range hl] at this
        exact this
      · rw [eqDs_lengths hl]
        exact SeqAt.RcNeAt.lists_lengths q1 g1 (by rw [List.size_toArray, List.size_toArray, bne_iff_ne]; omega) hu0
theorem op_neD (hu : X.A.units + 64 < cLine) (hK : X.K = K := by rfl) : OpR X (compareOp .NotEq) (rNeD K) := by
  subst hK
  intro pins s σ H x y v u Q I rx ry h
  obtain ⟨d, e, hd, he, hz, q⟩ := h
  exact rcne_D I hz (by omega) rx ry hd he X.prog X.w _ _ ⟨.bl _, H, I, rfl, q⟩
theorem call_allK (hc : X.calm = true) (hK : X.K = K := by rfl) : CallR X (.builtin "all") (fun xs H Q => ∃ (p : Addr) (bs : List Bool), xs = [.ref p] ∧ SqL K H p (bs.map V.bl) ∧ Q (.bl (bs.all id)) H) := by
  subst hK
  intro pins s σ H xs us Q I r h
  obtain ⟨p, bs, rfl, hq, q⟩ := h
  obtain ⟨u, rfl, ru⟩ := vals1 r
  cases ru
  obtain ⟨its, rv, pl, hz⟩ := I.list hq
  refine call_all_walk (wpAny_pyIter_list pl.isList ?_)
  have hne : p ≠ s.heap.objs.size := Nat.ne_of_lt (by obtain ⟨o, n, e, _⟩ := pl; exact Heap.lt_size e)
  have hl : its.length = bs.length := by have := rv.length; rw [List.length_map] at this; omega
  refine ⟨s.heap.objs.size, _, _, _, _, _, fun i => bs.getD i true, rfl, Walks.list (A := X.A.in1) (show X.A.in1.handled = none from I.ok.hd hc) s.heap.objs.size p hne its.toArray, ⟨⟨_, Heap.get?_push_size _ rfl, rfl, rfl⟩, ?_⟩, fun i v s' Q' E' hv hQ' => ?_, fun h' tk hk => ?_⟩
  · exact pl.isList.at fun o e => Heap.get?_push_of_some _ e
  · have hv' : its[i]? = some v := by simpa using hv
    have hi : i < its.length := (List.getElem?_eq_some_iff.mp hv').1
    obtain ⟨w, e1, e2⟩ := rv.get (i := i) (x := V.bl bs[i]) (by rw [List.getElem?_map, List.getElem?_eq_getElem (by omega)]; rfl)
    rw [hv'] at e1; cases e1
    cases e2
    have hQ2 : Q' (bs.getD i true) s' := hQ'
    rw [List.getD_eq_getElem?_getD, List.getElem?_eq_getElem (by omega)] at hQ2
    exact wpAny_truthy_bool hQ2
  · rw [List.size_toArray, hl]
    have e : ((List.range bs.length).all fun i => bs.getD i true) = bs.all id := by
      rw [Bool.eq_iff_iff]
      simp only [List.all_eq_true, List.mem_range, id]
      constructor
      · intro g b hb
        obtain ⟨i, hi, rfl⟩ := List.getElem_of_mem hb
        have := g i hi
        rw [List.getD_eq_getElem?_getD, List.getElem?_eq_getElem hi] at this
        exact this
      · intro g i hi
        rw [List.getD_eq_getElem?_getD, List.getElem?_eq_getElem hi]
        exact g _ (List.getElem_mem _)
    rw [e]
    refine ⟨.bl (bs.all id), H, I.kept fun b o e => ?_, rfl, q⟩
    refine hk b o (fun z => ?_) (Heap.get?_push_of_some _ e)
    rw [List.mem_singleton.mp z] at e
    exact absurd (Heap.lt_size e) (Nat.lt_irrefl _)
end
end L2
set_option Elab.async false
set_option linter.all false
set_option maxRecDepth 100000
namespace L2
open PySem PySem.Spec PyProof.Rows
def rowOfN (ks : List Nat) : Nat := ks.foldl (fun r k => r ^^^ (1 <<< k)) 0
theorem rowOf_snoc (ks : List Nat) (k : Nat) : rowOfN (ks ++ [k]) = rowOfN ks ^^^ (1 <<< k) := by
  unfold rowOfN
  rw [List.foldl_append]
  rfl
theorem rowOf_bit (k : Nat) : ∀ ks : List Nat, (rowOfN ks).testBit k = decide (ks.count k % 2 = 1) := by
  intro ks
  have gen : ∀ (ks : List Nat) (r : Nat), (ks.foldl (fun r k => r ^^^ (1 <<< k)) r).testBit k = (r.testBit k ^^ decide (ks.count k % 2 = 1)) := by
    intro ks
    induction ks with
    | nil => intro r; simp
    | cons a t ih =>
      intro r
      rw [List.foldl_cons, ih, Nat.testBit_xor, Nat.one_shiftLeft, Nat.testBit_two_pow, List.count_cons]
      by_cases h : a = k
      · subst h
        simp only [decide_true, beq_self_eq_true, if_true]
        rcases Nat.mod_two_eq_zero_or_one (t.count a) with p | p
        · have q : (t.count a + 1) % 2 = 1 := by omega
          simp [p, q]
        · have q : (t.count a + 1) % 2 = 0 := by omega
          simp [p, q]
      · have hb : (a == k) = false := beq_eq_false_iff_ne.mpr h
        simp [h, hb]
  have := gen ks 0
  simpa [rowOfN] using this
theorem count_range {k : Nat} : ∀ m : Nat, (List.range m).count k = if k < m then 1 else 0
  | 0 => by simp
  | m + 1 => by
    rw [List.range_succ, List.count_append, count_range m]
    by_cases h : m = k
    · subst h; simp
    · have hb : (m == k) = false := beq_eq_false_iff_ne.mpr h
      rw [List.count_cons, hb]
      simp only [List.count_nil]
      by_cases h2 : k < m
      · rw [if_pos h2, if_pos (show k < m + 1 by omega)]; simp
      · rw [if_neg h2, if_neg (show ¬ k < m + 1 by omega)]; simp
theorem givens_count (n k : Nat) : (givens n).count k = if n.testBit k then 1 else 0 := by
  unfold givens
  by_cases h : n.testBit k = true
  · rw [if_pos h]
    have hk := lt_bits h
    rw [List.count_filter h]
    rw [count_range, if_pos hk]
  · rw [if_neg h]
    exact List.count_eq_zero.mpr fun m => h (List.mem_filter.mp m).2
theorem rowOf_givens (n : Nat) : rowOfN (givens n) = n := by
  apply Nat.eq_of_testBit_eq
  intro k
  rw [rowOf_bit, givens_count]
  cases n.testBit k <;> simp
abbrev natsV (ks : List Nat) : List V := ks.map fun j => V.int (j : Nat)
abbrev natsD (ks : List Nat) : List D := ks.map fun j => D.int (j : Nat)
theorem depth_nats : ∀ ks : List Nat, depths (natsD ks) = 0
  | [] => by simp [depths]
  | a :: r => by
    have := depth_nats r
    show depths (D.int (a : Nat) :: natsD r) = 0
    unfold depths
    rw [this]
    simp [D.depth]
end L2
set_option Elab.async false
set_option linter.all false
namespace L2
open PySem PySem.Spec PyProof.Rows
end L2
set_option Elab.async false
set_option linter.all false
set_option maxRecDepth 100000
namespace L2
open PySem PySem.Spec PyProof.Rows
section
variable {X : Cx}
end
end L2
set_option Elab.async false
set_option linter.all false
namespace L2
open PySem PySem.Spec PyProof.Rows
theorem PSs.pre {X : Cx} {sts : List Stmt} {u P : TS} (h : PSs X sts u) (hw : ∀ D σ H, P D σ H → u D σ H) : PSs X sts P := fun pins s σ H D I hp => h pins s σ H D I (hw D σ H hp)
end L2
set_option Elab.async false
set_option linter.all false
set_option maxRecDepth 100000
namespace L2
open PySem PySem.Spec PyProof.Rows
section
variable {X : Cx}
theorem pe_gc {x : Str} {v : V} {pos : Pos} (h : ∃ u, X.mg x = some u ∧ RelV v u) (hg : Gl X x) (hd : (x == ("__debug__" : Str)) = false := by decide) : PE X (.Name x pos) (tC v) := by
  obtain ⟨u, hm, r⟩ := h
  exact pe_glob hg hm r hd
end
structure Net where
  m : Nat
  js : List (Nat × Nat)
  os : List Nat
abbrev pairD (p : Nat × Nat) : D := .tup [.int (p.1 : Nat), .int (p.2 : Nat)]
def stepRows (rows : List Nat) (p : Nat × Nat) : List Nat := rows ++ [rows.getD p.1 0 ^^^ rows.getD p.2 0]
def ownRows (m : Nat) : List Nat := (List.range m).map fun k => 1 <<< k
def rowsN (N : Net) : List Nat := N.js.foldl stepRows (ownRows N.m)
def okIx : Nat → List (Nat × Nat) → Prop
  | _, [] => True
  | n, p :: r => p.1 < p.2 ∧ p.2 < n ∧ okIx (n + 1) r
def okJs : List Nat → List (Nat × Nat) → Prop
  | _, [] => True
  | rows, p :: r => p.1 < p.2 ∧ p.2 < rows.length ∧ rows.getD p.1 0 ≠ rows.getD p.2 0 ∧ okJs (stepRows rows p) r
theorem step_len (rows : List Nat) (p : Nat × Nat) : (stepRows rows p).length = rows.length + 1 := by simp [stepRows]
theorem fold_len (js : List (Nat × Nat)) : ∀ rows : List Nat, (js.foldl stepRows rows).length = rows.length + js.length := by
  induction js with
  | nil => intro rows; rfl
  | cons p r ih => intro rows; rw [List.foldl_cons, ih, step_len, List.length_cons]; omega
theorem own_len (m : Nat) : (ownRows m).length = m := by simp [ownRows]
section
variable {K : PySem.W.Frag} {H H' : Hp}
end
end L2
set_option Elab.async false
set_option linter.all false
set_option maxRecDepth 100000
namespace L2
open PySem PySem.Spec PyProof.Rows
def tyD : D → String
  | .non => "NoneType" | .bl _ => "bool" | .int _ => "int" | .str _ => "str" | .tup _ => "tuple" | .lst _ => "list"
theorem call_isaD (K : PySem.W.Frag) {X : Cx} (hK : X.K = K := by rfl) : CallR X (.builtin "isinstance") (fun xs H Q => ∃ x d T b, xs = [x, .ty T] ∧ RepD K H x d ∧ isaT (tyD d) T = some b ∧ Q (.bl b) H) := by
  subst hK
  intro pins s σ H xs us Q I r h
  obtain ⟨x, d, T, b, rfl, hd, e, q⟩ := h
  cases r with
  | cons r1 rr =>
    cases rr with
    | cons r2 rr =>
      cases rr
      cases (show _ = Value.type T from r2)
      have e' : ∀ {t : String}, tyD d = t → PySem.W.kitOne X.K (.type t) (.type T) = some b := fun {t} z => by rw [← z]; exact isaT_kit.trans e
      have fin : ∀ tk, EP X pins σ Q (.bool b) { s with toks := tk } := fun tk => ⟨.bl b, H, I.tok tk, rfl, q⟩
      cases d with
      | non => unfold RepD at hd; subst hd; exact isinst_ok I r1 .non (e' rfl) fin
      | bl y => unfold RepD at hd; subst hd; exact isinst_ok I r1 (.bl y) (e' rfl) fin
      | int y => unfold RepD at hd; subst hd; exact isinst_ok I r1 (.int y) (e' rfl) fin
      | str y => unfold RepD at hd; subst hd; exact isinst_ok I r1 (.str y) (e' rfl) fin
      | tup ds =>
        unfold RepD at hd
        obtain ⟨a, vs, rfl, hq, _⟩ := hd
        cases r1
        obtain ⟨its, _, ⟨o, h1, h2, _⟩, _⟩ := I.tuple hq.sq
        exact PySem.W.kia_one PySem.W.kitx_tuple I.kIn ⟨o, h1, h2⟩ (e' rfl) (fun z => nomatch z) fin
      | lst ds =>
        unfold RepD at hd
        obtain ⟨a, vs, rfl, hq, _⟩ := hd
        cases r1
        obtain ⟨its, _, ⟨o, n, h1, h2, _⟩, _⟩ := I.list (StL.sq hq)
        exact PySem.W.kia_one PySem.W.kitx_list I.kIn ⟨o, h1, h2⟩ (e' rfl) (fun z => nomatch z) fin
def PairsAt (K : PySem.W.Frag) (H : Hp) : List V → List (Nat × Nat) → Prop
  | [], [] => True
  | v :: vs, p :: ps => (∃ a, v = .ref a ∧ StT H a [.int (p.1 : Nat), .int (p.2 : Nat)]) ∧ PairsAt K H vs ps
  | _, _ => False
section
variable {K : PySem.W.Frag} {H H' : Hp}
def KeepT (K : PySem.W.Frag) (H H' : Hp) : Prop := ∀ a xs, StT H a xs → StT H' a xs
theorem KeepT.trans {H1 : Hp} (a : KeepT K H H1) (b : KeepT K H1 H') : KeepT K H H' := fun x xs q => b x xs (a x xs q)
theorem PairsAt.keep (k : KeepT K H H') : ∀ {vs : List V} {ps : List (Nat × Nat)}, PairsAt K H vs ps → PairsAt K H' vs ps
  | [], [], _ => trivial
  | v :: vs, p :: ps, ⟨⟨a, e, h⟩, t⟩ => ⟨⟨a, e, k _ _ h⟩, t.keep k⟩
  | [], _ :: _, h => h.elim
  | _ :: _, [], h => h.elim
theorem PairsAt.snoc {v : V} {p : Nat × Nat} (hv : ∃ a, v = .ref a ∧ StT H a [.int (p.1 : Nat), .int (p.2 : Nat)]) : ∀ {vs : List V} {ps : List (Nat × Nat)}, PairsAt K H vs ps → PairsAt K H (vs ++ [v]) (ps ++ [p])
  | [], [], _ => ⟨hv, trivial⟩
  | _ :: _, _ :: _, ⟨h, t⟩ => ⟨h, t.snoc hv⟩
  | [], _ :: _, h => h.elim
  | _ :: _, [], h => h.elim
theorem PairsAt.length : ∀ {vs : List V} {ps : List (Nat × Nat)}, PairsAt K H vs ps → vs.length = ps.length
  | [], [], _ => rfl
  | _ :: _, _ :: _, ⟨_, t⟩ => by rw [List.length_cons, List.length_cons, t.length]
  | [], _ :: _, h => h.elim
  | _ :: _, [], h => h.elim
theorem Grow.keepT {t : Addr} {kvs : List (Key × V)} (g : Grow t H H') (ht : H t = some (.dK kvs)) : KeepT K H H' := fun _ _ q => g _ _ q (ne_of q ht (by intro z; cases z))
theorem Same.keepT (s : Same H H') : KeepT K H H' := fun _ _ q => s _ _ q
end
structure Mid (K : PySem.W.Frag) (t lr lj : Addr) (m : Nat) (js : List (Nat × Nat)) (H0 H : Hp) : Prop where
  rows : H lr = some (.lst (natsV (js.foldl stepRows (ownRows m))))
  joins : ∃ ps, H lj = some (.lst ps) ∧ PairsAt K H ps js
  ok : okJs (ownRows m) js
  gr : Grow t H0 H
  fr : H0 lr = none
  fj : H0 lj = none
  ne : lr ≠ lj
  td : ∃ kvs, H t = some (.dK kvs)
theorem Mid.grow {K : PySem.W.Frag} {t lr lj : Addr} {m : Nat} {js : List (Nat × Nat)} {H0 H H' : Hp} (M : Mid K t lr lj m js H0 H) (g : Grow t H H') (T : ∃ kvs, H' t = some (.dK kvs)) : Mid K t lr lj m js H0 H' := by
  obtain ⟨kvs, ht⟩ := M.td
  obtain ⟨ps, h1, h2⟩ := M.joins
  exact ⟨g _ _ M.rows (ne_of M.rows ht (by intro z; cases z)), ⟨ps, g _ _ h1 (ne_of h1 ht (by intro z; cases z)), h2.keep (g.keepT ht)⟩, M.ok, M.gr.trans g, M.fr, M.fj, M.ne, T⟩
theorem Mid.len {K : PySem.W.Frag} {t lr lj : Addr} {m : Nat} {js : List (Nat × Nat)} {H0 H : Hp} (M : Mid K t lr lj m js H0 H) : (natsV (js.foldl stepRows (ownRows m))).length = m + js.length := by
  rw [List.length_map, fold_len, own_len]
end L2
set_option Elab.async false
set_option linter.all false
set_option maxRecDepth 100000
namespace L2
open PySem PySem.Spec PyProof.Rows
inductive Sv where
  | un | vl (d : D) | ow (ds : List D) | tp (n : Nat) | dk (kvs : List (Key × D)) | dt (kvs : List (List Key × D)) | ex (C : Addr) (fs : Option (List (Str × D))) | sc (ns : List Int)
def Sv.own : Sv → Bool
  | .ow _ => true
  | .tp _ => true
  | .dk _ => true
  | .dt _ => true
  | _ => false
abbrev En := List Sv
inductive R where
  | d (d : D) | o (i : Nat) | n (s : Sv) | t (n : String)
abbrev R.f (ds : List D) : R := .n (.ow ds)
def gt : En → Nat → Sv
  | [], _ => .un
  | s :: _, 0 => s
  | _ :: r, n + 1 => gt r n
def pt : En → Nat → Sv → En
  | [], _, _ => []
  | _ :: r, 0, s => s :: r
  | x :: r, n + 1, s => x :: pt r n s
theorem pt_len : ∀ (ρ : En) (i : Nat) (s : Sv), (pt ρ i s).length = ρ.length
  | [], _, _ => rfl
  | _ :: _, 0, _ => rfl
  | x :: r, n + 1, s => by simp [pt, pt_len r n s]
theorem gt_pt_ne : ∀ (ρ : En) (i j : Nat) (s : Sv), i ≠ j → gt (pt ρ i s) j = gt ρ j
  | [], _, _, _, _ => rfl
  | _ :: _, 0, 0, _, h => absurd rfl h
  | _ :: _, 0, j + 1, _, _ => rfl
  | x :: r, i + 1, 0, s, _ => rfl
  | x :: r, i + 1, j + 1, s, h => gt_pt_ne r i j s (by omega)
theorem gt_pt : ∀ (ρ : En) (i : Nat) (s : Sv), i < ρ.length → gt (pt ρ i s) i = s
  | [], _, _, h => by simp at h
  | _ :: _, 0, _, _ => rfl
  | x :: r, i + 1, s, h => gt_pt r i s (by simpa using h)
theorem gt_out : ∀ (ρ : En) (i : Nat), ρ.length ≤ i → gt ρ i = .un
  | [], _, _ => rfl
  | x :: r, 0, h => by simp at h
  | x :: r, i + 1, h => gt_out r i (by simpa using h)
theorem own_lt {ρ : En} {i : Nat} (h : (gt ρ i).own = true) : i < ρ.length := by
  rcases Nat.lt_or_ge i ρ.length with q | q
  · exact q
  · rw [gt_out ρ i q] at h; cases h
def owned (σ : St) (ρ : En) (a : Addr) : Prop := ∃ i, (gt ρ i).own = true ∧ σ[i]? = some (some (.ref a))
open Classical in
noncomputable def hid (H : Hp) (S : Addr → Prop) : Hp := fun a => if S a then none else H a
theorem hid_some {H : Hp} {S : Addr → Prop} {a : Addr} {o : HO} : hid H S a = some o ↔ ¬ S a ∧ H a = some o := by
  unfold hid
  split
  · rename_i h; simp [h]
  · rename_i h; simp [h]
theorem hid_of {H : Hp} {S : Addr → Prop} {a : Addr} {o : HO} (h : ¬ S a) (e : H a = some o) : hid H S a = some o := hid_some.mpr ⟨h, e⟩
theorem hid_same {H H' : Hp} {S S' : Addr → Prop} (h : ∀ a o, H a = some o → ¬ S a → H' a = some o ∧ ¬ S' a) : Same (hid H S) (hid H' S') := fun a o e => by
  obtain ⟨n, e⟩ := hid_some.mp e
  obtain ⟨e', n'⟩ := h a o e n
  exact hid_of n' e'
theorem hid_sub {H : Hp} {S : Addr → Prop} : Same (hid H S) H := fun a o e => (hid_some.mp e).2
structure Fr where
  H0 : Hp
  Z : Addr → Prop
  M : Addr → Prop
  I : Nat → Addr → Prop
  P : Nat → Addr → Prop
def Fr.pin (F : Fr) (i : Nat) (a : Addr) : Prop := F.I i a ∨ F.P i a
def hs (F : Fr) (σ : St) (ρ : En) : Addr → Prop := fun a => F.Z a ∨ owned σ ρ a
def exP (e C : Addr) (od : Option Addr) : Heap → Prop := fun h => ∃ oe vs, h.get? e = some oe ∧ oe.cls = .ref C ∧ oe.dict = od ∧ oe.data = .fields vs
def exD (K : PySem.W.Frag) (Hh : Hp) : Option (List (Str × D)) → Option Addr → Prop
  | none, none => True
  | some fs, some dx => ∃ ks, Hh dx = some (.xd ks) ∧ ks.map Prod.fst = fs.map Prod.fst ∧ RepDs K Hh (ks.map Prod.snd) (fs.map Prod.snd)
  | _, _ => False
theorem exD.same {K : PySem.W.Frag} {Hh Hh' : Hp} : ∀ {fs : Option (List (Str × D))} {od : Option Addr}, exD K Hh fs od → Same Hh Hh' → exD K Hh' fs od
  | none, none, h, _ => h
  | some fs, some dx, ⟨ks, h1, h2, h3⟩, g => ⟨ks, g _ _ h1, h2, h3.same g⟩
  | none, some _, h, _ => h.elim
  | some _, none, h, _ => h.elim
def SvOk (K : PySem.W.Frag) (Hh H : Hp) (v : Option (Option V)) : Sv → Prop
  | .sc ns => ∃ c, v = some (some (.ref c)) ∧ SqL K Hh c (List.map V.int ns)
  | .ex C fs => ∃ e od, v = some (some (.ref e)) ∧ Hh e = some (.ext (exP e C od)) ∧ exD K Hh fs od
  | .un => True
  | .vl d => ∃ x, v = some (some x) ∧ RepD K Hh x d
  | .ow ds => ∃ l vs, v = some (some (.ref l)) ∧ H l = some (.lst vs) ∧ RepDs K Hh vs ds
  | .tp n => ∃ t c ns sp lf, v = some (some (.ref t)) ∧ H t = some (.dK (tapeK c sp lf)) ∧ SqL K Hh c (List.map V.int ns) ∧ 0 ≤ sp ∧ sp ≤ n ∧ 0 ≤ lf
  | .dk kvs => ∃ t ks, v = some (some (.ref t)) ∧ H t = some (.dK ks) ∧ ks.map Prod.fst = kvs.map Prod.fst ∧ RepDs K Hh (ks.map Prod.snd) (kvs.map Prod.snd)
  | .dt kvs => ∃ t ks, v = some (some (.ref t)) ∧ H t = some (.dT ks) ∧ ks.map Prod.fst = kvs.map Prod.fst ∧ RepDs K Hh (ks.map Prod.snd) (kvs.map Prod.snd)
theorem SvOk.keep {K : PySem.W.Frag} {Hh Hh' H H' : Hp} {v : Option (Option V)} {s : Sv} (h : SvOk K Hh H v s) (g : Same Hh Hh') (k : ∀ l o, s.own = true → v = some (some (.ref l)) → H l = some o → H' l = some o) : SvOk K Hh' H' v s := by
  cases s with
  | un => trivial
  | vl d => obtain ⟨x, e, r⟩ := h; exact ⟨x, e, r.same g⟩
  | ow ds => obtain ⟨l, vs, e, a, r⟩ := h; exact ⟨l, vs, e, k _ _ rfl e a, r.same g⟩
  | tp n => obtain ⟨t, c, ns, sp, lf, e, a, b, r⟩ := h; exact ⟨t, c, ns, sp, lf, e, k _ _ rfl e a, g.seq b, r⟩
  | dk kvs => obtain ⟨t, ks, e, a, b, r⟩ := h; exact ⟨t, ks, e, k _ _ rfl e a, b, r.same g⟩
  | dt kvs => obtain ⟨t, ks, e, a, b, r⟩ := h; exact ⟨t, ks, e, k _ _ rfl e a, b, r.same g⟩
  | ex C fs => obtain ⟨t, od, e, a, b⟩ := h; exact ⟨t, od, e, g _ _ a, b.same g⟩
  | sc ns => obtain ⟨c, e, a⟩ := h; exact ⟨c, e, g.seq a⟩
theorem SvOk.alive {K : PySem.W.Frag} {Hh H : Hp} {v : Option (Option V)} {s : Sv} (h : SvOk K Hh H v s) (ho : s.own = true) : ∃ l o, v = some (some (.ref l)) ∧ H l = some o := by
  cases s with
  | un => cases ho
  | vl d => cases ho
  | ow ds => obtain ⟨l, vs, e, a, r⟩ := h; exact ⟨l, _, e, a⟩
  | tp n => obtain ⟨t, c, ns, sp, lf, e, a, b, r⟩ := h; exact ⟨t, _, e, a⟩
  | dk kvs => obtain ⟨t, ks, e, a, b, r⟩ := h; exact ⟨t, _, e, a⟩
  | dt kvs => obtain ⟨t, ks, e, a, b, r⟩ := h; exact ⟨t, _, e, a⟩
  | ex C fs => cases ho
  | sc ns => cases ho
def Nt (H : Hp) (a : Addr) : Prop := H a ≠ none ∧ ∀ xs, H a ≠ some (.tup xs)
theorem nt_upd {H : Hp} {a l : Addr} {o : HO} (al : a ≠ l) (h : Nt H a) : Nt (upd H l o) a := by unfold Nt; rw [upd_ne al]; exact h
structure Rel (K : PySem.W.Frag) (F : Fr) (σ : St) (ρ : En) (H : Hp) : Prop where
  len : σ.length = ρ.length
  fr : ∀ a o, F.H0 a = some o → ¬ F.M a → H a = some o
  zl : ∀ a, F.Z a → Nt H a
  zo : ∀ a, owned σ ρ a → ¬ F.Z a
  ow : ∀ i a, (gt ρ i).own = true → σ[i]? = some (some (.ref a)) → (F.I i a ∧ F.M a) ∨ F.H0 a = none
  mi : ∀ i a, F.pin i a → σ[i]? = some (some (.ref a))
  ml : ∀ a, F.M a → F.H0 a ≠ none
  ma : ∀ a, F.M a → H a ≠ none
  nd : ∀ i j a, (gt ρ i).own = true → (gt ρ j).own = true → σ[i]? = some (some (.ref a)) → σ[j]? = some (some (.ref a)) → i = j
  sl : ∀ i, SvOk K (hid H (hs F σ ρ)) H σ[i]? (gt ρ i)
structure Kp (σ : St) (ρ ρ' : En) (H H' : Hp) : Prop where
  st : ∀ a o, H a = some o → ¬ owned σ ρ a → H' a = some o
  sb : ∀ i, (gt ρ' i).own = true → (gt ρ i).own = true
theorem Kp.so {σ : St} {ρ ρ' : En} {H H' : Hp} (k : Kp σ ρ ρ' H H') {a : Addr} (h : owned σ ρ' a) : owned σ ρ a := by
  obtain ⟨i, hi, e⟩ := h
  exact ⟨i, k.sb i hi, e⟩
theorem Kp.refl {σ : St} {ρ : En} {H : Hp} : Kp σ ρ ρ H H := ⟨fun _ _ e _ => e, fun _ h => h⟩
theorem Kp.trans {σ : St} {ρ ρ1 ρ2 : En} {H H1 H2 : Hp} (a : Kp σ ρ ρ1 H H1) (b : Kp σ ρ1 ρ2 H1 H2) : Kp σ ρ ρ2 H H2 :=
  ⟨fun x o e n => b.st x o (a.st x o e n) fun z => n (a.so z), fun x z => a.sb x (b.sb x z)⟩
theorem Kp.fresh {σ : St} {ρ : En} {H : Hp} {l : Addr} {o : HO} (h : H l = none) : Kp σ ρ ρ H (upd H l o) :=
  ⟨fun a u e _ => by rw [upd_ne (ne_of_none e h)]; exact e, fun _ h => h⟩
section
variable {K : PySem.W.Frag} {F : Fr} {σ : St} {ρ ρ' : En} {H H' : Hp}
theorem owned_alive (r : Rel K F σ ρ H) {a : Addr} (h : owned σ ρ a) : H a ≠ none := by
  obtain ⟨i, hi, e⟩ := h
  obtain ⟨l, o, e', h'⟩ := (r.sl i).alive hi
  rw [e] at e'; injection e' with e'; injection e' with e'; injection e' with e'
  rw [e', h']; exact fun z => nomatch z
theorem hs_alive (r : Rel K F σ ρ H) {a : Addr} (h : hs F σ ρ a) : H a ≠ none := by
  rcases h with h | h
  · exact (r.zl a h).1
  · exact owned_alive r h
theorem SvOk.nt {K : PySem.W.Frag} {Hh H : Hp} {v : Option (Option V)} {s : Sv} (h : SvOk K Hh H v s) (ho : s.own = true) : ∃ l, v = some (some (.ref l)) ∧ Nt H l := by
  cases s with
  | un => cases ho
  | vl d => cases ho
  | ow ds => obtain ⟨l, vs, e, a, r⟩ := h; exact ⟨l, e, by rw [a]; exact (fun z => nomatch z), by rw [a]; exact fun _ z => nomatch z⟩
  | tp n => obtain ⟨l, c, ns, sp, lf, e, a, b, r⟩ := h; exact ⟨l, e, by rw [a]; exact (fun z => nomatch z), by rw [a]; exact fun _ z => nomatch z⟩
  | dk kvs => obtain ⟨l, ks, e, a, b, r⟩ := h; exact ⟨l, e, by rw [a]; exact (fun z => nomatch z), by rw [a]; exact fun _ z => nomatch z⟩
  | dt kvs => obtain ⟨l, ks, e, a, b, r⟩ := h; exact ⟨l, e, by rw [a]; exact (fun z => nomatch z), by rw [a]; exact fun _ z => nomatch z⟩
  | ex C fs => cases ho
  | sc ns => cases ho
theorem owned_nt (r : Rel K F σ ρ H) {a : Addr} (h : owned σ ρ a) : Nt H a := by
  obtain ⟨i, hi, e⟩ := h
  obtain ⟨l, e', h'⟩ := (r.sl i).nt hi
  rw [e] at e'; injection e' with e'; injection e' with e'; injection e' with e'
  rw [e']; exact h'
theorem hs_nt (r : Rel K F σ ρ H) {a : Addr} (h : hs F σ ρ a) : Nt H a := by
  rcases h with h | h
  · exact r.zl a h
  · exact owned_nt r h
theorem fresh_vis (r : Rel K F σ ρ H) {l : Addr} (h : H l = none) : ¬ hs F σ ρ l := fun z => hs_alive r z h
theorem fresh_H0 (r : Rel K F σ ρ H) {l : Addr} (h : H l = none) : F.H0 l = none := by
  cases h0 : F.H0 l with
  | none => rfl
  | some o =>
    by_cases q : F.M l
    · exact absurd h (r.ma l q)
    · have := r.fr l o h0 q
      rw [h] at this; cases this
theorem Kp.vis (k : Kp σ ρ ρ' H H') : Same (hid H (hs F σ ρ)) (hid H' (hs F σ ρ')) := hid_same fun a o e n =>
  ⟨k.st a o e fun z => n (.inr z), fun z => by
    rcases z with z | z
    · exact n (.inl z)
    · exact n (.inr (k.so z))⟩
theorem grow_alive {a : Addr} (g : Same H H') (h : H a ≠ none) : H' a ≠ none := fun e => by
  cases h' : H a with
  | none => exact h h'
  | some o => rw [g a o h'] at e; cases e
theorem grow_nt {a : Addr} (g : Same H H') (h : Nt H a) : Nt H' a := by
  cases h' : H a with
  | none => exact (h.1 h').elim
  | some o =>
    have e := g a o h'
    unfold Nt
    rw [e, ← h']; exact h
theorem Rel.grow (r : Rel K F σ ρ H) (g : Same H H') : Rel K F σ ρ H' where
  len := r.len
  fr := fun a o e n => g a o (r.fr a o e n)
  zl := fun a z => grow_nt g (r.zl a z)
  zo := r.zo
  ow := r.ow
  mi := r.mi
  ml := r.ml
  ma := fun a z => grow_alive g (r.ma a z)
  nd := r.nd
  sl := fun i => (r.sl i).keep (hid_same fun a o e n => ⟨g a o e, n⟩) fun l o _ _ e => g l o e
theorem Rel.fresh (r : Rel K F σ ρ H) {l : Addr} {o : HO} (h : H l = none) : Rel K F σ ρ (upd H l o) := r.grow ((Same.refl H).new h)
theorem pt_out : ∀ (ρ : En) (i : Nat) (s : Sv), ρ.length ≤ i → pt ρ i s = ρ
  | [], _, _, _ => rfl
  | x :: r, 0, s, h => by simp at h
  | x :: r, i + 1, s, h => by simp [pt, pt_out r i s (by simpa using h)]
theorem own_set {i j : Nat} {s : Sv} (hs : s.own = false) (hj : (gt (pt ρ i s) j).own = true) : i ≠ j ∧ (gt ρ j).own = true := by
  by_cases ij : i = j
  · subst ij
    rcases Nat.lt_or_ge i ρ.length with q | q
    · rw [gt_pt ρ i s q, hs] at hj; cases hj
    · rw [gt_out _ i (by rw [pt_len]; exact q)] at hj; cases hj
  · rw [gt_pt_ne ρ i j s ij] at hj
    exact ⟨ij, hj⟩
theorem Rel.setS (r : Rel K F σ ρ H) {i : Nat} {v : V} {s : Sv} (hs' : s.own = false) (hd : SvOk K (hid H (hs F σ ρ)) H (some (some v)) s) (hm : ∀ a, ¬ F.pin i a) : Rel K F (σ.set i (some v)) (pt ρ i s) H := by
  rcases Nat.lt_or_ge i ρ.length with hi | hi
  case inr =>
    rw [pt_out ρ i s hi, List.set_eq_of_length_le (by rw [r.len]; exact hi)]; exact r
  have sub : ∀ a, owned (σ.set i (some v)) (pt ρ i s) a → owned σ ρ a := fun a ⟨j, hj, e⟩ => by
    obtain ⟨ij, hj⟩ := own_set hs' hj
    rw [List.getElem?_set_ne ij] at e
    exact ⟨j, hj, e⟩
  have vis : Same (hid H (hs F σ ρ)) (hid H (hs F (σ.set i (some v)) (pt ρ i s))) := hid_same fun a o e n => ⟨e, fun z => n (z.imp id (sub a))⟩
  refine ⟨by rw [List.length_set, pt_len, r.len], r.fr, r.zl, fun a h => r.zo a (sub a h), fun j a hj e => ?_, fun j a h => ?_, r.ml, r.ma, fun j k a hj hk ej ek => ?_, fun j => ?_⟩
  · obtain ⟨ij, hj⟩ := own_set hs' hj
    rw [List.getElem?_set_ne ij] at e
    exact r.ow j a hj e
  · have : i ≠ j := fun e => hm a (e ▸ h)
    rw [List.getElem?_set_ne this]; exact r.mi j a h
  · obtain ⟨nj, hj⟩ := own_set hs' hj
    obtain ⟨nk, hk⟩ := own_set hs' hk
    rw [List.getElem?_set_ne nj] at ej
    rw [List.getElem?_set_ne nk] at ek
    exact r.nd j k a hj hk ej ek
  · by_cases ij : i = j
    · subst ij
      rw [gt_pt ρ i _ hi, List.getElem?_set_self (by rw [r.len]; exact hi)]
      exact hd.keep vis fun l o ho => by rw [hs'] at ho; cases ho
    · rw [gt_pt_ne ρ i j _ ij, List.getElem?_set_ne ij]
      exact (r.sl j).keep vis fun l o _ _ e => e
theorem Rel.set (r : Rel K F σ ρ H) {i : Nat} {v : V} {d : D} (hd : RepD K (hid H (hs F σ ρ)) v d) (hm : ∀ a, ¬ F.pin i a) : Rel K F (σ.set i (some v)) (pt ρ i (.vl d)) H :=
  r.setS rfl ⟨v, rfl, hd⟩ hm
theorem Rel.setF (r : Rel K F σ ρ H) {i : Nat} {l : Addr} {o : HO} {s : Sv} (hs' : s.own = true) (hd : SvOk K (hid H (hs F σ ρ)) (upd H l o) (some (some (.ref l))) s) (hn : H l = none) (hm : ∀ a, ¬ F.pin i a) :
    Rel K F (σ.set i (some (.ref l))) (pt ρ i s) (upd H l o) := by
  have rf := r.fresh (o := o) hn
  rcases Nat.lt_or_ge i ρ.length with hi | hi
  case inr =>
    rw [pt_out ρ i s hi, List.set_eq_of_length_le (by rw [r.len]; exact hi)]; exact rf
  have at1 : ∀ {a}, (σ.set i (some (V.ref l)))[i]? = some (some (.ref a)) → a = l := fun e => by
    rw [List.getElem?_set_self (by rw [r.len]; exact hi)] at e
    injection e with e; injection e with e; injection e with e
    exact e.symm
  have sub : ∀ a, owned (σ.set i (some (.ref l))) (pt ρ i s) a → owned σ ρ a ∨ a = l := fun a h => by
    obtain ⟨j, hj, e⟩ := h
    by_cases ij : i = j
    · subst ij; exact .inr (at1 e)
    · rw [gt_pt_ne ρ i j _ ij] at hj
      rw [List.getElem?_set_ne ij] at e
      exact .inl ⟨j, hj, e⟩
  have vis : Same (hid H (hs F σ ρ)) (hid (upd H l o) (hs F (σ.set i (some (.ref l))) (pt ρ i s))) := hid_same fun a u e n => by
    have al := ne_of_none e hn
    refine ⟨by rw [upd_ne al]; exact e, fun z => ?_⟩
    rcases z with z | z
    · exact n (.inl z)
    · rcases sub a z with z | z
      · exact n (.inr z)
      · exact al z
  have nol : ∀ j, (gt ρ j).own = true → σ[j]? ≠ some (some (.ref l)) := fun j hj e => owned_alive r ⟨j, hj, e⟩ hn
  refine ⟨by rw [List.length_set, pt_len, r.len], rf.fr, rf.zl, fun a h => ?_, fun j a hj e => ?_, fun j a h => ?_, r.ml, rf.ma, fun j k a hj hk ej ek => ?_, fun j => ?_⟩
  · rcases sub a h with h | h
    · exact r.zo a h
    · subst h; exact fun z => (r.zl _ z).1 hn
  · by_cases ij : i = j
    · subst ij
      rw [at1 e]; exact .inr (fresh_H0 r hn)
    · rw [gt_pt_ne ρ i j _ ij] at hj
      rw [List.getElem?_set_ne ij] at e
      exact r.ow j a hj e
  · have : i ≠ j := fun e => hm a (e ▸ h)
    rw [List.getElem?_set_ne this]; exact r.mi j a h
  · by_cases nj : i = j
    · by_cases nk : i = k
      · omega
      · subst nj
        have := at1 ej
        subst this
        rw [gt_pt_ne ρ i k _ nk] at hk
        rw [List.getElem?_set_ne nk] at ek
        exact absurd ek (nol k hk)
    · rw [gt_pt_ne ρ i j _ nj] at hj
      rw [List.getElem?_set_ne nj] at ej
      by_cases nk : i = k
      · subst nk
        have := at1 ek
        subst this
        exact absurd ej (nol j hj)
      · rw [gt_pt_ne ρ i k _ nk] at hk
        rw [List.getElem?_set_ne nk] at ek
        exact r.nd j k a hj hk ej ek
  · by_cases ij : i = j
    · subst ij
      rw [gt_pt ρ i _ hi, List.getElem?_set_self (by rw [r.len]; exact hi)]
      exact hd.keep vis fun _ _ _ _ e => e
    · rw [gt_pt_ne ρ i j _ ij, List.getElem?_set_ne ij]
      exact (r.sl j).keep vis fun a o ho e h => by
        rw [upd_ne (ne_of_none h hn)]; exact h
theorem Rel.write (r : Rel K F σ ρ H) {i : Nat} {l : Addr} {o : HO} {s : Sv} (hi : (gt ρ i).own = true) (el : σ[i]? = some (some (.ref l))) (hs' : s.own = true) (new : SvOk K (hid H (hs F σ ρ)) (upd H l o) (some (some (.ref l))) s) : Rel K F σ (pt ρ i s) (upd H l o) ∧ Kp σ ρ (pt ρ i s) H (upd H l o) := by
  have lt := own_lt hi
  have own' : ∀ j, (gt (pt ρ i s) j).own = true → (gt ρ j).own = true := fun j h => by
    by_cases ij : i = j
    · subst ij; exact hi
    · rw [gt_pt_ne ρ i j _ ij] at h; exact h
  have sub : ∀ a, owned σ (pt ρ i s) a → owned σ ρ a := fun a ⟨j, hj, e⟩ => ⟨j, own' j hj, e⟩
  have hso : owned σ ρ l := ⟨i, hi, el⟩
  have vis : Same (hid H (hs F σ ρ)) (hid (upd H l o) (hs F σ (pt ρ i s))) := hid_same fun a u e n => by
    have al : a ≠ l := fun z => n (.inr (z ▸ hso))
    exact ⟨by rw [upd_ne al]; exact e, fun z => n (z.imp id (sub a))⟩
  have up : ∀ {a}, H a ≠ none → (upd H l o) a ≠ none := fun {a} h e => by
    by_cases al : a = l
    · subst al; rw [upd_same] at e; cases e
    · rw [upd_ne al] at e; exact h e
  refine ⟨⟨by rw [pt_len, r.len], fun a u e n => ?_, fun a z => nt_upd (fun q => r.zo l hso (q ▸ z)) (r.zl a z), fun a h => r.zo a (sub a h), fun j a hj e => r.ow j a (own' j hj) e, r.mi, r.ml, fun a z => up (r.ma a z), fun j k a hj hk ej ek => r.nd j k a (own' j hj) (own' k hk) ej ek, fun j => ?_⟩, ⟨fun a u e n => ?_, own'⟩⟩
  · have al : a ≠ l := fun z => by
      subst z
      rcases r.ow i _ hi el with ⟨_, q⟩ | q
      · exact n q
      · rw [e] at q; cases q
    rw [upd_ne al]; exact r.fr a u e n
  · by_cases ij : i = j
    · subst ij
      rw [gt_pt ρ i s lt, el]
      exact new.keep vis fun _ _ _ _ e => e
    · rw [gt_pt_ne ρ i j _ ij]
      refine (r.sl j).keep vis fun a u ho e h => ?_
      have al : a ≠ l := fun z => ij (r.nd i j l hi ho el (z ▸ e))
      rw [upd_ne al]; exact h
  · have al : a ≠ l := fun z => n (z ▸ hso)
    rw [upd_ne al]; exact e
theorem Rel.frz (r : Rel K F σ ρ H) {i : Nat} {ds : List D} (hi : gt ρ i = .ow ds) : ∃ l, σ[i]? = some (some (.ref l)) ∧ Rel K F σ (pt ρ i (.vl (.lst ds))) H ∧ Kp σ ρ (pt ρ i (.vl (.lst ds))) H H ∧ RepD K (hid H (hs F σ (pt ρ i (.vl (.lst ds))))) (.ref l) (.lst ds) := by
  have ho : (gt ρ i).own = true := by rw [hi]; rfl
  have lt := own_lt ho
  have q := r.sl i
  rw [hi] at q
  obtain ⟨l, vs, el, hl, hd⟩ := q
  have own' : ∀ j, (gt (pt ρ i (.vl (.lst ds))) j).own = true → i ≠ j ∧ (gt ρ j).own = true := fun j h => own_set rfl h
  have sub : ∀ a, owned σ (pt ρ i (.vl (.lst ds))) a → owned σ ρ a ∧ a ≠ l := fun a ⟨j, hj, e⟩ => by
    obtain ⟨ij, hj⟩ := own' j hj
    exact ⟨⟨j, hj, e⟩, fun z => ij (r.nd i j l ho hj el (z ▸ e))⟩
  have vis : Same (hid H (hs F σ ρ)) (hid H (hs F σ (pt ρ i (.vl (.lst ds))))) := hid_same fun a u e n => ⟨e, fun z => n (z.imp id fun z => (sub a z).1)⟩
  have vl : ¬ hs F σ (pt ρ i (.vl (.lst ds))) l := fun z => by
    rcases z with z | z
    · exact r.zo l ⟨i, ho, el⟩ z
    · exact (sub l z).2 rfl
  have rd : RepD K (hid H (hs F σ (pt ρ i (.vl (.lst ds))))) (.ref l) (.lst ds) := by
    unfold RepD
    exact ⟨l, vs, rfl, hid_of vl hl, hd.same vis⟩
  refine ⟨l, el, ⟨by rw [pt_len, r.len], r.fr, r.zl, fun a h => r.zo a (sub a h).1, fun j a hj e => r.ow j a (own' j hj).2 e, r.mi, r.ml, r.ma, fun j k a hj hk ej ek => r.nd j k a (own' j hj).2 (own' k hk).2 ej ek, fun j => ?_⟩, ⟨fun _ _ e _ => e, fun j h => (own' j h).2⟩, rd⟩
  by_cases ij : i = j
  · subst ij
    rw [gt_pt ρ i _ lt, el]
    exact ⟨_, rfl, rd⟩
  · rw [gt_pt_ne ρ i j _ ij]
    exact (r.sl j).keep vis fun a u _ _ h => h
end
end L2
set_option Elab.async false
set_option linter.all false
set_option maxRecDepth 100000
namespace L2
open PySem PySem.Spec PyProof.Rows
def RelR (K : PySem.W.Frag) (F : Fr) (σ : St) (ρ : En) (v : V) (H : Hp) : R → Prop
  | .d d => Rel K F σ ρ H ∧ RepD K (hid H (hs F σ ρ)) v d
  | .o i => Rel K F σ ρ H ∧ σ[i]? = some (some v)
  | .n s => ∃ Hb l o, Rel K F σ ρ Hb ∧ s.own = true ∧ SvOk K (hid Hb (hs F σ ρ)) (upd Hb l o) (some (some (.ref l))) s ∧ Hb l = none ∧ H = upd Hb l o ∧ v = .ref l
  | .t n => Rel K F σ ρ H ∧ v = .ty n
def Out (K : PySem.W.Frag) (F : Fr) (σ : St) (ρ : En) (H : Hp) (ρ' : En) (v : V) (H' : Hp) : R → Prop
  | .d d => Rel K F σ ρ' H' ∧ Kp σ ρ ρ' H H' ∧ RepD K (hid H' (hs F σ ρ')) v d
  | .o i => Rel K F σ ρ' H' ∧ Kp σ ρ ρ' H H' ∧ σ[i]? = some (some v)
  | .n s => ∃ Hb l o, Rel K F σ ρ' Hb ∧ Kp σ ρ ρ' H Hb ∧ s.own = true ∧ SvOk K (hid Hb (hs F σ ρ')) (upd Hb l o) (some (some (.ref l))) s ∧ Hb l = none ∧ H' = upd Hb l o ∧ v = .ref l
  | .t n => Rel K F σ ρ' H' ∧ Kp σ ρ ρ' H H' ∧ v = .ty n
def InF (K : PySem.W.Frag) (F : Fr) (σ : St) (ρ : En) (H : Hp) (v : V) : R → Prop
  | .d d => RepD K (hid H (hs F σ ρ)) v d
  | .o i => σ[i]? = some (some v)
  | .n _ => True
  | .t n => v = .ty n
def R.frz : R → R
  | .n (.ow ds) => .d (.lst ds)
  | r => r
inductive InFs (K : PySem.W.Frag) (F : Fr) (σ : St) (ρ : En) (H : Hp) : List V → List R → Prop
  | nil : InFs K F σ ρ H [] []
  | cons {v : V} {r : R} {vs : List V} {rs : List R} : InF K F σ ρ H v r → InFs K F σ ρ H vs rs → InFs K F σ ρ H (v :: vs) (r :: rs)
def view (ρ : En) : R → Option D
  | .d d => some d
  | .o i => (match gt ρ i with | .ow ds => some (.lst ds) | .vl d => some d | _ => none)
  | _ => none
section
variable {K : PySem.W.Frag} {F : Fr} {σ : St} {ρ ρ' : En} {H H' : Hp} {v : V} {r : R}
theorem InF.keep (h : InF K F σ ρ H v r) (k : Kp σ ρ ρ' H H') : InF K F σ ρ' H' v r := by
  cases r with
  | d d => exact RepD.same h k.vis
  | o i => exact h
  | n s => exact h
  | t n => exact h
theorem InFs.keep {vs : List V} {rs : List R} (h : InFs K F σ ρ H vs rs) (k : Kp σ ρ ρ' H H') : InFs K F σ ρ' H' vs rs := by
  induction h with
  | nil => exact .nil
  | cons a _ ih => exact .cons (a.keep k) ih
theorem Out.inF (h : Out K F σ ρ H ρ' v H' r) : Rel K F σ ρ' H' ∧ Kp σ ρ ρ' H H' ∧ InF K F σ ρ' H' v r.frz := by
  cases r with
  | d d => exact ⟨h.1, h.2.1, h.2.2⟩
  | o i => exact ⟨h.1, h.2.1, h.2.2⟩
  | t n => exact ⟨h.1, h.2.1, h.2.2⟩
  | n s =>
    obtain ⟨Hb, l, o, a, k0, hs', b, c, rfl, rfl⟩ := h
    have k : Kp σ ρ' ρ' Hb (upd Hb l o) := Kp.fresh c
    refine ⟨a.fresh c, k0.trans k, ?_⟩
    cases s with
    | un => trivial
    | vl d => trivial
    | tp n => trivial
    | dk n => trivial
    | dt n => trivial
    | ex n m => trivial
    | sc n => trivial
    | ow ds =>
      obtain ⟨l', vs, e, h1, h2⟩ := b
      injection e with e; injection e with e; injection e with e; subst e
      show RepD K _ (.ref l) (.lst ds)
      unfold RepD
      exact ⟨l, vs, rfl, hid_of (fresh_vis a c) h1, h2.same k.vis⟩
theorem Out.rel (h : Out K F σ ρ H ρ' v H' r) : RelR K F σ ρ' v H' r := by
  cases r with
  | d d => exact ⟨h.1, h.2.2⟩
  | o i => exact ⟨h.1, h.2.2⟩
  | t n => exact ⟨h.1, h.2.2⟩
  | n s =>
    obtain ⟨Hb, l, o, a, k0, hs', b, c, e1, e2⟩ := h
    exact ⟨Hb, l, o, a, hs', b, c, e1, e2⟩
theorem Out.after {ρ1 : En} {H1 : Hp} (k : Kp σ ρ ρ1 H H1) (h : Out K F σ ρ1 H1 ρ' v H' r) : Out K F σ ρ H ρ' v H' r := by
  cases r with
  | d d => exact ⟨h.1, k.trans h.2.1, h.2.2⟩
  | o i => exact ⟨h.1, k.trans h.2.1, h.2.2⟩
  | t n => exact ⟨h.1, k.trans h.2.1, h.2.2⟩
  | n s =>
    obtain ⟨Hb, l, o, a, k0, hs', b, c, e1, e2⟩ := h
    exact ⟨Hb, l, o, a, k.trans k0, hs', b, c, e1, e2⟩
theorem view_rep {d : D} (a : Rel K F σ ρ H) (h : InF K F σ ρ H v r) (e : view ρ r = some d) : RepD K H v d := by
  cases r with
  | d d' => injection e with e; subst e; exact RepD.same h hid_sub
  | t n => cases e
  | n s => cases e
  | o i =>
    have q := a.sl i
    unfold view at e
    cases hg : gt ρ i with
    | un => simp [hg] at e
    | tp n => simp [hg] at e
    | dk n => simp [hg] at e
    | dt n => simp [hg] at e
    | ex n m => simp [hg] at e
    | sc n => simp [hg] at e
    | vl d' =>
      simp [hg] at e
      subst e
      rw [hg] at q
      obtain ⟨x, e1, r1⟩ := q
      rw [show σ[i]? = _ from h] at e1
      injection e1 with e1; injection e1 with e1; subst e1
      exact r1.same hid_sub
    | ow ds =>
      simp [hg] at e
      subst e
      rw [hg] at q
      obtain ⟨l, vs, e1, r1, r2⟩ := q
      rw [show σ[i]? = _ from h] at e1
      injection e1 with e1; injection e1 with e1; subst e1
      unfold RepD
      exact ⟨l, vs, rfl, r1, r2.same hid_sub⟩
theorem view_lst {ds : List D} (a : Rel K F σ ρ H) (h : InF K F σ ρ H v r) (e : view ρ r = some (.lst ds)) : ∃ l vs, v = .ref l ∧ SqL K H l vs ∧ RepDs K (hid H (hs F σ ρ)) vs ds := by
  cases r with
  | d d' =>
    injection e with e; subst e
    have h' : RepD K _ v (.lst ds) := h
    unfold RepD at h'
    obtain ⟨l, vs, e, q, r⟩ := h'
    exact ⟨l, vs, e, hid_sub.seq (StL.sq q), r⟩
  | t n => cases e
  | n s => cases e
  | o i =>
    have q := a.sl i
    unfold view at e
    cases hg : gt ρ i with
    | un => simp [hg] at e
    | tp n => simp [hg] at e
    | dk n => simp [hg] at e
    | dt n => simp [hg] at e
    | ex n m => simp [hg] at e
    | sc n => simp [hg] at e
    | vl d' =>
      simp [hg] at e
      subst e
      rw [hg] at q
      obtain ⟨x, e1, r1⟩ := q
      rw [show σ[i]? = _ from h] at e1
      injection e1 with e1; injection e1 with e1; subst e1
      unfold RepD at r1
      obtain ⟨l, vs, e, q, r⟩ := r1
      exact ⟨l, vs, e, hid_sub.seq (StL.sq q), r⟩
    | ow ds =>
      simp [hg] at e
      subst e
      rw [hg] at q
      obtain ⟨l, vs, e1, r1, r2⟩ := q
      rw [show σ[i]? = _ from h] at e1
      injection e1 with e1; injection e1 with e1; subst e1
      exact ⟨l, vs, rfl, SqL.of r1, r2⟩
theorem view_tup {ds : List D} (a : Rel K F σ ρ H) (h : InF K F σ ρ H v r) (e : view ρ r = some (.tup ds)) : ∃ l vs, v = .ref l ∧ SqT K H l vs ∧ RepDs K (hid H (hs F σ ρ)) vs ds ∧ StT (hid H (hs F σ ρ)) l vs := by
  have go : ∀ {x : V}, RepD K (hid H (hs F σ ρ)) x (.tup ds) → ∃ l vs, x = .ref l ∧ SqT K H l vs ∧ RepDs K (hid H (hs F σ ρ)) vs ds ∧ StT (hid H (hs F σ ρ)) l vs := fun h' => by
    unfold RepD at h'
    obtain ⟨l, vs, e, q, r⟩ := h'
    exact ⟨l, vs, e, hid_sub.seqT q.sq, r, q⟩
  cases r with
  | d d' => injection e with e; subst e; exact go h
  | t n => cases e
  | n s => cases e
  | o i =>
    have q := a.sl i
    unfold view at e
    cases hg : gt ρ i with
    | un => simp [hg] at e
    | tp n => simp [hg] at e
    | dk n => simp [hg] at e
    | dt n => simp [hg] at e
    | ex n m => simp [hg] at e
    | sc n => simp [hg] at e
    | ow ds' => simp [hg] at e
    | vl d' =>
      simp [hg] at e
      subst e
      rw [hg] at q
      obtain ⟨x, e1, r1⟩ := q
      rw [show σ[i]? = _ from h] at e1
      injection e1 with e1; injection e1 with e1; subst e1
      exact go r1
end
abbrev Ko := R → En → Prop
abbrev AE := En → Ko → Prop
abbrev AT := En → (Bool → En → Prop) → Prop
abbrev AA := En → (List R → En → Prop) → Prop
structure AEnds where
  nx : En → Prop
  rt : R → En → Prop
  bk : En → Prop
  ct : En → Prop
abbrev AS := AEnds → En → Prop
def Beh (K : PySem.W.Frag) (F : Fr) (σ : St) (ρ : En) (H : Hp) (q : Ko) (Q : VK) : Prop := ∀ r ρ' v H', q r ρ' → Out K F σ ρ H ρ' v H' r → Q v H'
def TEok (K : PySem.W.Frag) (t : TE) (a : AE) : Prop := ∀ F σ ρ H q Q, Rel K F σ ρ H → a ρ q → Beh K F σ ρ H q Q → t σ H Q
def TTok (K : PySem.W.Frag) (t : TT) (a : AT) : Prop := ∀ F σ ρ H q Q, Rel K F σ ρ H → a ρ q → (∀ b ρ' H', q b ρ' → Rel K F σ ρ' H' → Kp σ ρ ρ' H H' → Q b H') → t σ H Q
def TAok (K : PySem.W.Frag) (t : TA) (a : AA) : Prop := ∀ F σ ρ H q Q, Rel K F σ ρ H → a ρ q → (∀ rs ρ' vs H', q rs ρ' → Rel K F σ ρ' H' → InFs K F σ ρ' H' vs rs → Kp σ ρ ρ' H H' → Q vs H') → t σ H Q
def OpOk (K : PySem.W.Frag) (r : R2) (g : R → R → AE) : Prop := ∀ F σ ρ H x y r1 r2 q Q, Rel K F σ ρ H → InF K F σ ρ H x r1 → InF K F σ ρ H y r2 → g r1 r2 ρ q → Beh K F σ ρ H q Q → r x y H Q
def CbOk (K : PySem.W.Frag) (r : List V → Hp → VK → Prop) (g : List R → AE) : Prop := ∀ F σ ρ H vs rs q Q, Rel K F σ ρ H → InFs K F σ ρ H vs rs → g rs ρ q → Beh K F σ ρ H q Q → r vs H Q
section
variable {K : PySem.W.Frag} {F : Fr} {σ : St} {ρ ρ' : En} {H H' : Hp} {v : V} {r : R} {q : Ko} {Q : VK}
theorem Beh.dat (b : Beh K F σ ρ H q Q) (a : Rel K F σ ρ H) {d : D} (hq : q (.d d) ρ) (h : RepD K (hid H (hs F σ ρ)) v d) : Q v H := b (.d d) ρ v H hq ⟨a, .refl, h⟩
theorem Beh.int (b : Beh K F σ ρ H q Q) (a : Rel K F σ ρ H) {i : Int} (hq : q (.d (.int i)) ρ) : Q (.int i) H := b.dat a hq (by unfold RepD; rfl)
theorem Beh.bl (b : Beh K F σ ρ H q Q) (a : Rel K F σ ρ H) {i : Bool} (hq : q (.d (.bl i)) ρ) : Q (.bl i) H := b.dat a hq (by unfold RepD; rfl)
theorem Beh.non (b : Beh K F σ ρ H q Q) (a : Rel K F σ ρ H) (hq : q (.d .non) ρ) : Q .non H := b.dat a hq (by unfold RepD; rfl)
theorem Beh.str (b : Beh K F σ ρ H q Q) (a : Rel K F σ ρ H) {x : Str} (hq : q (.d (.str x)) ρ) : Q (.str x) H := b.dat a hq (by unfold RepD; rfl)
theorem Beh.new (b : Beh K F σ ρ H q Q) (a : Rel K F σ ρ H) {ds : List D} {vs : List V} {l : Addr} (hq : q (.f ds) ρ) (hd : RepDs K (hid H (hs F σ ρ)) vs ds) (hl : H l = none) : Q (.ref l) (upd H l (.lst vs)) :=
  b (.f ds) ρ _ _ hq ⟨H, l, _, a, .refl, rfl, ⟨l, vs, rfl, upd_same, hd⟩, hl, rfl, rfl⟩
theorem Beh.newT (b : Beh K F σ ρ H q Q) (a : Rel K F σ ρ H) {ds : List D} {vs : List V} {l : Addr} (hq : q (.d (.tup ds)) ρ) (hd : RepDs K (hid H (hs F σ ρ)) vs ds) (hl : H l = none) : Q (.ref l) (upd H l (.tup vs)) := by
  have k : Kp σ ρ ρ H (upd H l (.tup vs)) := Kp.fresh hl
  refine b (.d (.tup ds)) ρ _ _ hq ⟨a.fresh hl, k, ?_⟩
  unfold RepD
  exact ⟨l, vs, rfl, (hid_of (fresh_vis a hl) upd_same), hd.same k.vis⟩
theorem Beh.after {ρ1 : En} {H1 : Hp} (b : Beh K F σ ρ H q Q) (k : Kp σ ρ ρ1 H H1) : Beh K F σ ρ1 H1 q Q := fun r ρ' v H' hq h => b r ρ' v H' hq (.after k h)
def aVar (i : Nat) : AE := fun ρ q => match gt ρ i with
  | .un => False
  | .vl d => q (.d d) ρ
  | .ow _ => q (.o i) ρ
  | .tp _ => q (.o i) ρ
  | .dk _ => q (.o i) ρ
  | .dt _ => q (.o i) ρ
  | .ex _ _ => q (.o i) ρ
  | .sc _ => q (.o i) ρ
theorem tok_var {i : Nat} : TEok K (tVar i) (aVar i) := by
  intro F σ ρ H q Q a h b
  have s := a.sl i
  unfold aVar at h
  cases hg : gt ρ i with
  | un => rw [hg] at h; exact h.elim
  | vl d =>
    rw [hg] at h s
    obtain ⟨x, e, r⟩ := s
    exact ⟨x, e, b _ _ _ _ h ⟨a, .refl, r⟩⟩
  | ow ds =>
    rw [hg] at h s
    obtain ⟨l, vs, e, _⟩ := s
    exact ⟨_, e, b _ _ _ _ h ⟨a, .refl, e⟩⟩
  | tp n =>
    rw [hg] at h s
    obtain ⟨l, c, ns, sp, lf, e, _⟩ := s
    exact ⟨_, e, b _ _ _ _ h ⟨a, .refl, e⟩⟩
  | dk kvs =>
    rw [hg] at h s
    obtain ⟨l, ks, e, _⟩ := s
    exact ⟨_, e, b _ _ _ _ h ⟨a, .refl, e⟩⟩
  | dt kvs =>
    rw [hg] at h s
    obtain ⟨l, ks, e, _⟩ := s
    exact ⟨_, e, b _ _ _ _ h ⟨a, .refl, e⟩⟩
  | ex C fs =>
    rw [hg] at h s
    obtain ⟨l, ks, e, _⟩ := s
    exact ⟨_, e, b _ _ _ _ h ⟨a, .refl, e⟩⟩
  | sc ns =>
    rw [hg] at h s
    obtain ⟨l, e, _⟩ := s
    exact ⟨_, e, b _ _ _ _ h ⟨a, .refl, e⟩⟩
def aC (r : R) : AE := fun ρ q => q r ρ
theorem tok_int {i : Int} : TEok K (tC (.int i)) (aC (.d (.int i))) := fun _ _ _ _ _ _ a h b => b.int a h
theorem tok_bl {i : Bool} : TEok K (tC (.bl i)) (aC (.d (.bl i))) := fun _ _ _ _ _ _ a h b => b.bl a h
theorem tok_ty {n : String} : TEok K (tC (.ty n)) (aC (.t n)) := fun _ _ _ _ _ _ a h b => b _ _ _ _ h ⟨a, .refl, rfl⟩
def aOp (g : R → R → AE) (a b : AE) : AE := fun ρ q => a ρ fun r1 ρ1 => b ρ1 fun r2 ρ2 => g r1.frz r2.frz ρ2 q
variable {t t' ta tb tc : TE} {a b c : AE} {rr : R2} {g : R → R → AE}
theorem tok_op (ho : OpOk K rr g) (ha : TEok K ta a) (hb : TEok K tb b) : TEok K (tOp rr ta tb) (aOp g a b) := by
  intro F σ ρ H q Q r h k
  refine ha F σ ρ H _ _ r h fun r1 ρ1 x H1 h1 rel1 => ?_
  obtain ⟨r', k1, i1⟩ := rel1.inF
  refine hb F σ ρ1 H1 _ _ r' h1 fun r2 ρ2 y H2 h2 rel2 => ?_
  obtain ⟨r'', k2, i2⟩ := rel2.inF
  exact ho F σ ρ2 H2 x y _ _ q Q r'' (i1.keep k2) i2 h2 (k.after (k1.trans k2))
def gI (C : Int → Int → Prop) (f : Int → Int → D) : R → R → AE := fun r1 r2 ρ q => match r1, r2 with
  | .d (.int i), .d (.int j) => C i j ∧ q (.d (f i j)) ρ
  | _, _ => False
theorem gI_inv {C : Int → Int → Prop} {f : Int → Int → D} {r1 r2 : R} (h : gI C f r1 r2 ρ q) : ∃ i j, r1 = .d (.int i) ∧ r2 = .d (.int j) ∧ C i j ∧ q (.d (f i j)) ρ := by
  unfold gI at h
  split at h
  · exact ⟨_, _, rfl, rfl, h⟩
  · exact h.elim
theorem InF.int {i : Int} (h : InF K F σ ρ H v (.d (.int i))) : v = .int i := by
  unfold InF RepD at h; exact h
theorem InF.blv {i : Bool} (h : InF K F σ ρ H v (.d (.bl i))) : v = .bl i := by
  unfold InF RepD at h; exact h
theorem ook_int {C : Int → Int → Prop} {f : Int → Int → Int} : OpOk K (rI C fun i j => .int (f i j)) (gI C fun i j => .int (f i j)) := by
  intro F σ ρ H x y r1 r2 q Q a h1 h2 h b
  obtain ⟨i, j, rfl, rfl, c, h⟩ := gI_inv h
  exact ⟨i, j, h1.int, h2.int, c, b.int a h⟩
def gI0 (f : Int → Int → D) : R → R → AE := fun r1 r2 ρ q => match r1, r2 with
  | .d (.int i), .d (.int j) => q (.d (f i j)) ρ
  | _, _ => False
theorem gI0_inv {f : Int → Int → D} {r1 r2 : R} (h : gI0 f r1 r2 ρ q) : ∃ i j, r1 = .d (.int i) ∧ r2 = .d (.int j) ∧ q (.d (f i j)) ρ := by
  unfold gI0 at h
  split at h
  · exact ⟨_, _, rfl, rfl, h⟩
  · exact h.elim
theorem ook_int0 {f : Int → Int → Int} : OpOk K (rI0 fun i j => .int (f i j)) (gI0 fun i j => .int (f i j)) := by
  intro F σ ρ H x y r1 r2 q Q a h1 h2 h b
  obtain ⟨i, j, rfl, rfl, h⟩ := gI0_inv h
  exact ⟨i, j, h1.int, h2.int, b.int a h⟩
theorem ook_bl0 {f : Int → Int → Bool} : OpOk K (rI0 fun i j => .bl (f i j)) (gI0 fun i j => .bl (f i j)) := by
  intro F σ ρ H x y r1 r2 q Q a h1 h2 h b
  obtain ⟨i, j, rfl, rfl, h⟩ := gI0_inv h
  exact ⟨i, j, h1.int, h2.int, b.bl a h⟩
@[irreducible] def gEq (neg : Bool) : R → R → AE := fun r1 r2 ρ q => match view ρ r1, view ρ r2 with
  | some d, some e => d.depth ≤ 60 ∧ q (.d (.bl (if neg then !eqD d e else eqD d e))) ρ
  | _, _ => False
theorem gEq_inv {neg : Bool} {r1 r2 : R} (h : gEq neg r1 r2 ρ q) : ∃ d e, view ρ r1 = some d ∧ view ρ r2 = some e ∧ d.depth ≤ 60 ∧ q (.d (.bl (if neg then !eqD d e else eqD d e))) ρ := by
  unfold gEq at h
  split at h
  · rename_i d e h1 h2; exact ⟨d, e, h1, h2, h⟩
  · exact h.elim
theorem ook_eq : OpOk K (rEqD K) (gEq false) := by
  intro F σ ρ H x y r1 r2 q Q a h1 h2 h b
  obtain ⟨d, e, e1, e2, c, h⟩ := gEq_inv h
  exact ⟨d, e, view_rep a h1 e1, view_rep a h2 e2, c, b.bl a h⟩
theorem ook_ne : OpOk K (rNeD K) (gEq true) := by
  intro F σ ρ H x y r1 r2 q Q a h1 h2 h b
  obtain ⟨d, e, e1, e2, c, h⟩ := gEq_inv h
  exact ⟨d, e, view_rep a h1 e1, view_rep a h2 e2, c, b.bl a h⟩
@[irreducible] def gIx : R → R → AE := fun r1 r2 ρ q => match view ρ r1, r2 with
  | some (.lst ds), .d (.int i) => (match atI ds i with | some d => q (.d d) ρ | none => False)
  | some (.tup ds), .d (.int i) => (match atI ds i with | some d => q (.d d) ρ | none => False)
  | _, _ => False
theorem atI_rep {Hh : Hp} {vs : List V} {ds : List D} {i : Int} {d : D} (h : RepDs K Hh vs ds) (e : atI ds i = some d) : ∃ v, atI vs i = some v ∧ RepD K Hh v d := by
  unfold atI at e ⊢
  rw [h.length]
  cases hx : ixN ds.length i with
  | none => rw [hx] at e; cases e
  | some j =>
    rw [hx] at e
    exact h.get e
theorem ook_ix : OpOk K (rIx K) gIx := by
  intro F σ ρ H x y r1 r2 q Q a h1 h2 h b
  unfold gIx at h
  split at h
  · rename_i ds i e1
    split at h
    · rename_i d e
      obtain ⟨l, vs, rfl, sq, rd⟩ := view_lst a h1 e1
      obtain ⟨v, e2, rv⟩ := atI_rep rd e
      exact .inl ⟨l, vs, i, v, rfl, h2.int, sq, e2, b.dat a h rv⟩
    · exact h.elim
  · rename_i ds i e1
    split at h
    · rename_i d e
      obtain ⟨l, vs, rfl, sq, rd, _⟩ := view_tup a h1 e1
      obtain ⟨v, e2, rv⟩ := atI_rep rd e
      exact .inr (.inl ⟨l, vs, i, v, rfl, h2.int, sq, e2, b.dat a h rv⟩)
    · exact h.elim
  · exact h.elim
def aAndV (a b : AE) : AE := fun ρ q => a ρ fun r ρ1 => match r with
  | .d (.bl c) => if c = true then b ρ1 q else q (.d (.bl false)) ρ1
  | _ => False
def aNotV (a : AE) : AE := fun ρ q => a ρ fun r ρ1 => match r with
  | .d (.bl c) => q (.d (.bl (!c))) ρ1
  | _ => False
theorem tok_andV (ha : TEok K ta a) (hb : TEok K tb b) : TEok K (tAndV ta tb) (aAndV a b) := by
  intro F σ ρ H q Q r h k
  refine ha F σ ρ H _ _ r h fun r1 ρ1 x H1 h1 rel1 => ?_
  split at h1
  · rename_i c
    obtain ⟨r', k1, i1⟩ := rel1.inF
    refine ⟨c, i1.blv, ?_⟩
    cases c with
    | true => exact hb F σ ρ1 H1 q Q r' h1 (k.after k1)
    | false => exact (k.after k1).bl r' h1
  · exact h1.elim
theorem tok_notV (ha : TEok K ta a) : TEok K (tNotV ta) (aNotV a) := by
  intro F σ ρ H q Q r h k
  refine ha F σ ρ H _ _ r h fun r1 ρ1 x H1 h1 rel1 => ?_
  split at h1
  · rename_i c
    obtain ⟨r', k1, i1⟩ := rel1.inF
    exact ⟨c, i1.blv, (k.after k1).bl r' h1⟩
  · exact h1.elim
variable {tt tu : TT} {at' au : AT}
def aB (a : AE) : AT := fun ρ q => a ρ fun r ρ1 => match r with
  | .d (.bl c) => q c ρ1
  | _ => False
theorem ttok_B (ha : TEok K ta a) : TTok K (tB ta) (aB a) := by
  intro F σ ρ H q Q r h k
  refine ha F σ ρ H _ _ r h fun r1 ρ1 x H1 h1 rel1 => ?_
  split at h1
  · rename_i c
    obtain ⟨r', k1, i1⟩ := rel1.inF
    exact ⟨c, i1.blv, k _ _ _ h1 r' k1⟩
  · exact h1.elim
theorem ttok_test (ha : TEok K ta a) : TTok K (tTest ta) (aB a) := ttok_B ha
def aAnd (a b : AT) : AT := fun ρ q => a ρ fun c ρ1 => if c = true then b ρ1 q else q false ρ1
def aOr (a b : AT) : AT := fun ρ q => a ρ fun c ρ1 => if c = true then q true ρ1 else b ρ1 q
def aNot (a : AT) : AT := fun ρ q => a ρ fun c ρ1 => q (!c) ρ1
theorem ttok_and (ha : TTok K tt at') (hb : TTok K tu au) : TTok K (tAnd tt tu) (aAnd at' au) := by
  intro F σ ρ H q Q r h k
  refine ha F σ ρ H _ _ r h fun c ρ1 H1 h1 r1 k1 => ?_
  cases c with
  | true => exact hb F σ ρ1 H1 q Q r1 h1 fun b ρ2 H2 h2 r2 k2 => k _ _ _ h2 r2 (k1.trans k2)
  | false => exact k _ _ _ h1 r1 k1
theorem ttok_or (ha : TTok K tt at') (hb : TTok K tu au) : TTok K (tOr tt tu) (aOr at' au) := by
  intro F σ ρ H q Q r h k
  refine ha F σ ρ H _ _ r h fun c ρ1 H1 h1 r1 k1 => ?_
  cases c with
  | true => exact k _ _ _ h1 r1 k1
  | false => exact hb F σ ρ1 H1 q Q r1 h1 fun b ρ2 H2 h2 r2 k2 => k _ _ _ h2 r2 (k1.trans k2)
theorem ttok_not (ha : TTok K tt at') : TTok K (tNot tt) (aNot at') := fun F σ ρ H q Q r h k => ha F σ ρ H _ _ r h fun c ρ1 H1 h1 r1 k1 => k _ _ _ h1 r1 k1
def truD : D → Bool
  | .non => false
  | .bl b => b
  | .int i => i != 0
  | .str _ => true
  | .tup ds => !ds.isEmpty
  | .lst ds => !ds.isEmpty
def aTru (a : AE) : AT := fun ρ q => a ρ fun r ρ1 => match view ρ1 r.frz with
  | some (.str _) => False
  | some d => q (truD d) ρ1
  | none => False
theorem isEmpty_rep {Hh : Hp} {vs : List V} {ds : List D} (h : RepDs K Hh vs ds) : vs.isEmpty = ds.isEmpty := by
  have := h.length
  cases vs <;> cases ds <;> simp_all
theorem ttok_tru (ha : TEok K ta a) : TTok K (fun σ H Q => ta σ H fun x H' => ∃ k, TruV K x H' k ∧ Q k H') (aTru a) := by
  intro F σ ρ H q Q r h k
  refine ha F σ ρ H _ _ r h fun r1 ρ1 x H1 h1 rel1 => ?_
  obtain ⟨r', k1, i1⟩ := rel1.inF
  cases e : view ρ1 r1.frz with
  | none => rw [e] at h1; exact h1.elim
  | some d =>
    rw [e] at h1
    have rd := view_rep r' i1 e
    cases d with
    | str x => exact h1.elim
    | non => unfold RepD at rd; subst rd; exact ⟨_, rfl, k _ _ _ h1 r' k1⟩
    | bl b => unfold RepD at rd; subst rd; exact ⟨_, rfl, k _ _ _ h1 r' k1⟩
    | int b => unfold RepD at rd; subst rd; exact ⟨_, rfl, k _ _ _ h1 r' k1⟩
    | tup ds =>
      unfold RepD at rd
      obtain ⟨p, vs, rfl, sq, rr⟩ := rd
      exact ⟨_, .inr (.inl ⟨vs, sq, by rw [isEmpty_rep rr]; rfl⟩), k _ _ _ h1 r' k1⟩
    | lst ds =>
      unfold RepD at rd
      obtain ⟨p, vs, rfl, sq, rr⟩ := rd
      exact ⟨_, .inl ⟨vs, sq, by rw [isEmpty_rep rr]; rfl⟩, k _ _ _ h1 r' k1⟩
variable {ts : TA} {as : AA}
def aNil : AA := fun ρ q => q [] ρ
def aCons (a : AE) (as : AA) : AA := fun ρ q => a ρ fun r ρ1 => as ρ1 fun rs ρ2 => q (r.frz :: rs) ρ2
theorem taok_nil : TAok K tNil aNil := fun F σ ρ H q Q r h k => k _ _ _ _ h r .nil .refl
theorem taok_cons (ha : TEok K ta a) (hs : TAok K ts as) : TAok K (tCons ta ts) (aCons a as) := by
  intro F σ ρ H q Q r h k
  refine ha F σ ρ H _ _ r h fun r1 ρ1 x H1 h1 rel1 => ?_
  obtain ⟨r', k1, i1⟩ := rel1.inF
  refine hs F σ ρ1 H1 _ _ r' h1 fun rs ρ2 vs H2 h2 r2 i2 k2 => ?_
  exact k _ _ _ _ h2 r2 (.cons (i1.keep k2) i2) (k1.trans k2)
def sto : List R → En → (List D → En → Prop) → Prop
  | [], ρ, q => q [] ρ
  | .d d :: rs, ρ, q => sto rs ρ fun ds ρ' => q (d :: ds) ρ'
  | .o i :: rs, ρ, q => (match gt ρ i with
    | .ow ds => sto rs (pt ρ i (.vl (.lst ds))) fun es ρ' => q (.lst ds :: es) ρ'
    | .vl d => sto rs ρ fun es ρ' => q (d :: es) ρ'
    | _ => False)
  | _ :: _, _, _ => False
theorem sto_ok : ∀ {vs : List V} {rs : List R} {ρ : En} {q : List D → En → Prop}, Rel K F σ ρ H → InFs K F σ ρ H vs rs → sto rs ρ q → ∃ ds ρ', q ds ρ' ∧ Rel K F σ ρ' H ∧ Kp σ ρ ρ' H H ∧ RepDs K (hid H (hs F σ ρ')) vs ds
  | _, _, ρ, q, r, .nil, h => ⟨[], ρ, h, r, .refl, .nil⟩
  | _, _, ρ, q, r, .cons (v := v) (r := rr) (vs := vs) (rs := rs) a t, h => by
    cases rr with
    | n s => exact h.elim
    | t n => exact h.elim
    | d d =>
      obtain ⟨ds, ρ', hq, r', k, rd⟩ := sto_ok r t (show sto rs ρ _ from h)
      exact ⟨d :: ds, ρ', hq, r', k, .cons (RepD.same a k.vis) rd⟩
    | o i =>
      have s := r.sl i
      unfold sto at h
      cases hg : gt ρ i with
      | un => rw [hg] at h; exact h.elim
      | tp n => rw [hg] at h; exact h.elim
      | dk n => rw [hg] at h; exact h.elim
      | dt n => rw [hg] at h; exact h.elim
      | ex n m => rw [hg] at h; exact h.elim
      | sc n => rw [hg] at h; exact h.elim
      | vl d =>
        rw [hg] at h s
        obtain ⟨x, e, rd1⟩ := s
        rw [show σ[i]? = _ from a] at e
        injection e with e; injection e with e; subst e
        obtain ⟨ds, ρ', hq, r', k, rd⟩ := sto_ok r t h
        exact ⟨d :: ds, ρ', hq, r', k, .cons (rd1.same k.vis) rd⟩
      | ow ds =>
        rw [hg] at h
        obtain ⟨l, e, r1, k1, rd1⟩ := r.frz hg
        rw [show σ[i]? = _ from a] at e
        injection e with e; injection e with e; subst e
        obtain ⟨es, ρ', hq, r', k, rd⟩ := sto_ok r1 (t.keep k1) h
        exact ⟨_, ρ', hq, r', k1.trans k, .cons (rd1.same k.vis) rd⟩
theorem small {n : Nat} (h : n ≤ 1000000) : n ≤ sizeLine := by unfold sizeLine; omega
theorem smallS {n : Nat} (h : n ≤ 1000000) : n < sizeLine := by unfold sizeLine; omega
def aTup (as : AA) : AE := fun ρ q => as ρ fun rs ρ1 => sto rs ρ1 fun ds ρ2 => ds.length ≤ 1000000 ∧ q (.d (.tup ds)) ρ2
def aLst (as : AA) : AE := fun ρ q => as ρ fun rs ρ1 => sto rs ρ1 fun ds ρ2 => ds.length ≤ 1000000 ∧ q (.f ds) ρ2
theorem tok_tup (hs : TAok K ts as) : TEok K (tTup ts) (aTup as) := by
  intro F σ ρ H q Q r h k
  refine hs F σ ρ H _ _ r h fun rs ρ1 vs H1 h1 r1 i1 k1 => ?_
  obtain ⟨ds, ρ2, ⟨hz, hq⟩, r2, k2, rd⟩ := sto_ok r1 i1 h1
  exact ⟨small (by rw [rd.length]; exact hz), fun p hp => ((k.after k1).after k2).newT r2 hq rd hp⟩
theorem tok_lst (hs : TAok K ts as) : TEok K (tLst ts) (aLst as) := by
  intro F σ ρ H q Q r h k
  refine hs F σ ρ H _ _ r h fun rs ρ1 vs H1 h1 r1 i1 k1 => ?_
  obtain ⟨ds, ρ2, ⟨hz, hq⟩, r2, k2, rd⟩ := sto_ok r1 i1 h1
  exact ⟨small (by rw [rd.length]; exact hz), fun p hp => ((k.after k1).after k2).new r2 hq rd hp⟩
def aCB (g : List R → AE) (as : AA) : AE := fun ρ q => as ρ fun rs ρ1 => g rs ρ1 q
theorem tok_cb {rb : List V → Hp → VK → Prop} {g : List R → AE} (hb : CbOk K rb g) (hs : TAok K ts as) : TEok K (tCB rb ts) (aCB g as) := by
  intro F σ ρ H q Q r h k
  exact hs F σ ρ H _ _ r h fun rs ρ1 vs H1 h1 r1 i1 k1 => hb F σ ρ1 H1 vs rs q Q r1 i1 h1 (k.after k1)
theorem InFs.one {vs : List V} {r1 : R} (h : InFs K F σ ρ H vs [r1]) : ∃ x, vs = [x] ∧ InF K F σ ρ H x r1 := by
  cases h with | cons a t => cases t; exact ⟨_, rfl, a⟩
theorem InFs.two {vs : List V} {r1 r2 : R} (h : InFs K F σ ρ H vs [r1, r2]) : ∃ x y, vs = [x, y] ∧ InF K F σ ρ H x r1 ∧ InF K F σ ρ H y r2 := by
  cases h with | cons a t => obtain ⟨y, rfl, b⟩ := t.one; exact ⟨_, _, rfl, a, b⟩
def gLen : List R → AE := fun rs ρ q => match rs with
  | [r] => (match view ρ r with
    | some (.lst ds) => q (.d (.int ds.length)) ρ
    | some (.tup ds) => q (.d (.int ds.length)) ρ
    | _ => False)
  | _ => False
theorem cbok_len : CbOk K (fun xs H Q => ∃ p ys, xs = [.ref p] ∧ (SqL K H p ys ∨ SqT K H p ys) ∧ Q (.int ys.length) H) gLen := by
  intro F σ ρ H vs rs q Q a i h b
  unfold gLen at h
  split at h
  · obtain ⟨x, rfl, i1⟩ := i.one
    split at h
    · rename_i ds e
      obtain ⟨l, vs, rfl, sq, rd⟩ := view_lst a i1 e
      exact ⟨l, vs, rfl, .inl sq, by rw [rd.length]; exact b.int a h⟩
    · rename_i ds e
      obtain ⟨l, vs, rfl, sq, rd, _⟩ := view_tup a i1 e
      exact ⟨l, vs, rfl, .inr sq, by rw [rd.length]; exact b.int a h⟩
    · exact h.elim
  · exact h.elim
@[irreducible] def gIsa : List R → AE := fun rs ρ q => match rs with
  | [r, .t n] => (match view ρ r with
    | some d => (match isaT (tyD d) n with | some b => q (.d (.bl b)) ρ | none => False)
    | none => False)
  | _ => False
theorem cbok_isa : CbOk K (fun xs H Q => ∃ x d T b, xs = [x, .ty T] ∧ RepD K H x d ∧ isaT (tyD d) T = some b ∧ Q (.bl b) H) gIsa := by
  intro F σ ρ H vs rs q Q a i h b
  unfold gIsa at h
  split at h
  · obtain ⟨x, y, rfl, i1, j1⟩ := i.two
    split at h
    · rename_i d e
      split at h
      · rename_i b' e'
        exact ⟨x, d, _, b', by rw [show y = _ from j1], view_rep a i1 e, e', b.bl a h⟩
      · exact h.elim
    · exact h.elim
  · exact h.elim
def gList : List R → AE := fun rs ρ q => match rs with
  | [r] => (match view ρ r with
    | some (.lst ds) => q (.f ds) ρ
    | some (.tup ds) => q (.f ds) ρ
    | _ => False)
  | _ => False
theorem cbok_list : CbOk K (fun xs H Q => ∃ p ys, xs = [.ref p] ∧ (SqL K H p ys ∨ SqT K H p ys) ∧ ∀ l, H l = none → Q (.ref l) (upd H l (.lst ys))) gList := by
  intro F σ ρ H vs rs q Q a i h b
  unfold gList at h
  split at h
  · obtain ⟨x, rfl, i1⟩ := i.one
    split at h
    · rename_i ds e
      obtain ⟨l, vs, rfl, sq, rd⟩ := view_lst a i1 e
      exact ⟨l, vs, rfl, .inl sq, fun p hp => b.new a h rd hp⟩
    · rename_i ds e
      obtain ⟨l, vs, rfl, sq, rd, _⟩ := view_tup a i1 e
      exact ⟨l, vs, rfl, .inr sq, fun p hp => b.new a h rd hp⟩
    · exact h.elim
  · exact h.elim
def gTuple : List R → AE := fun rs ρ q => match rs with
  | [r] => (match view ρ r with
    | some (.lst ds) => q (.d (.tup ds)) ρ
    | some (.tup ds) => q (.d (.tup ds)) ρ
    | _ => False)
  | _ => False
theorem cbok_tuple : CbOk K (fun xs H Q => ∃ p ys, xs = [.ref p] ∧ ((SqL K H p ys ∧ ∀ l, H l = none → Q (.ref l) (upd H l (.tup ys))) ∨ (SqT K H p ys ∧ Q (.ref p) H))) gTuple := by
  intro F σ ρ H vs rs q Q a i h b
  unfold gTuple at h
  split at h
  · obtain ⟨x, rfl, i1⟩ := i.one
    split at h
    · rename_i ds e
      obtain ⟨l, vs, rfl, sq, rd⟩ := view_lst a i1 e
      exact ⟨l, vs, rfl, .inl ⟨sq, fun p hp => b.newT a h rd hp⟩⟩
    · rename_i ds e
      obtain ⟨l, vs, rfl, sq, rd, sq'⟩ := view_tup a i1 e
      refine ⟨l, vs, rfl, .inr ⟨sq, b.dat a h ?_⟩⟩
      unfold RepD
      exact ⟨l, vs, rfl, sq', rd⟩
    · exact h.elim
  · exact h.elim
def blsOf : List D → Option (List Bool)
  | [] => some []
  | .bl i :: ds => (blsOf ds).map (i :: ·)
  | _ => none
theorem blsOf_eq : ∀ {ds : List D} {ns : List Bool}, blsOf ds = some ns → ds = ns.map D.bl
  | [], ns, h => by simp [blsOf] at h; subst h; rfl
  | .bl i :: ds, ns, h => by
    simp only [blsOf, Option.map_eq_some_iff] at h
    obtain ⟨ms, e, rfl⟩ := h
    rw [blsOf_eq e]; rfl
  | .non :: ds, ns, h => by simp [blsOf] at h
  | .int _ :: ds, ns, h => by simp [blsOf] at h
  | .str _ :: ds, ns, h => by simp [blsOf] at h
  | .tup _ :: ds, ns, h => by simp [blsOf] at h
  | .lst _ :: ds, ns, h => by simp [blsOf] at h
theorem blsOf_map (ns : List Bool) : blsOf (ns.map D.bl) = some ns := by
  induction ns with
  | nil => rfl
  | cons n ns ih => simp [blsOf, ih]
theorem repBls : ∀ {vs : List V} {ns : List Bool}, RepDs K H vs (ns.map D.bl) → vs = ns.map V.bl
  | [], [], _ => rfl
  | v :: vs, n :: ns, h => by
    rw [List.map_cons] at h
    unfold RepDs at h
    obtain ⟨h1, h2⟩ := h
    unfold RepD at h1
    rw [List.map_cons, h1, repBls h2]
  | [], n :: ns, h => by rw [List.map_cons] at h; unfold RepDs at h; exact h.elim
  | v :: vs, [], h => by rw [List.map_nil] at h; unfold RepDs at h; exact h.elim
@[irreducible] def gAll : List R → AE := fun rs ρ q => match rs with
  | [r] => (match view ρ r with
    | some (.lst ds) => (match blsOf ds with | some bs => q (.d (.bl (bs.all id))) ρ | none => False)
    | _ => False)
  | _ => False
theorem cbok_all : CbOk K (fun xs H Q => ∃ (p : Addr) (bs : List Bool), xs = [.ref p] ∧ SqL K H p (bs.map V.bl) ∧ Q (.bl (bs.all id)) H) gAll := by
  intro F σ ρ H vs rs q Q a i h b
  unfold gAll at h
  split at h
  · obtain ⟨x, rfl, i1⟩ := i.one
    split at h
    · rename_i ds e
      split at h
      · rename_i bs e'
        obtain ⟨l, vs, rfl, sq, rd⟩ := view_lst a i1 e
        rw [blsOf_eq e'] at rd
        rw [repBls rd] at sq
        exact ⟨l, bs, rfl, sq, b.bl a h⟩
      · exact h.elim
    · exact h.elim
  · exact h.elim
def aApp (a : AE) (as : AA) : AE := fun ρ q => a ρ fun r ρ1 => match r with
  | .o i => (match gt ρ1 i with
    | .ow _ => as ρ1 fun rs ρ2 => (match rs with
      | [y] => sto [y] ρ2 fun es ρ3 => (match gt ρ3 i with
        | .ow ds => ds.length ≤ 1000000 ∧ q (.d .non) (pt ρ3 i (.ow (ds ++ es)))
        | _ => False)
      | _ => False)
    | _ => False)
  | _ => False
theorem tok_app (ha : TEok K ta a) (hs : TAok K ts as) : TEok K (tBM K "list" rAppend ta ts) (aApp a as) := by
  intro F σ ρ H q Q r h k
  refine ha F σ ρ H _ _ r h fun r1 ρ1 x H1 h1 rel1 => ?_
  split at h1
  · rename_i i
    obtain ⟨r', k1, i1⟩ := rel1.inF
    have ex : σ[i]? = some (some x) := i1
    split at h1
    · rename_i ds0 hg0
      have s := r'.sl i
      rw [hg0, ex] at s
      obtain ⟨l, vs0, e, hl, _⟩ := s
      injection e with e; injection e with e; subst e
      refine ⟨.inl ⟨rfl, _, SqL.of hl⟩, hs F σ ρ1 H1 _ _ r' h1 fun rs ρ2 vs H2 h2 r2 i2 k2 => ?_⟩
      split at h2
      · obtain ⟨es, ρ3, h3, r3, k3, rd⟩ := sto_ok r2 i2 h2
        split at h3
        · rename_i ds hg
          have s := r3.sl i
          rw [hg, ex] at s
          obtain ⟨l', us, e, hl', rd'⟩ := s
          injection e with e; injection e with e; injection e with e; subst e
          obtain ⟨y, rfl, _⟩ := i2.one
          have hw := r3.write (i := i) (l := l) (o := .lst (us ++ [y])) (s := .ow (ds ++ es)) (by rw [hg]; rfl) ex rfl ⟨l, _, rfl, upd_same, rd'.append rd⟩
          refine ⟨l, us, y, rfl, rfl, hl', smallS (by rw [rd'.length]; exact h3.1), ?_⟩
          exact (((k.after k1).after k2).after (k3.trans hw.2)).non hw.1 h3.2
        · exact h3.elim
      · exact h2.elim
    · exact h1.elim
  · exact h1.elim
abbrev AO := En → (Option Int → En → Prop) → Prop
def TOok (K : PySem.W.Frag) (t : TO) (a : AO) : Prop := ∀ F σ ρ H q Q, Rel K F σ ρ H → a ρ q → (∀ b ρ' H', q b ρ' → Rel K F σ ρ' H' → Kp σ ρ ρ' H H' → Q b H') → t σ H Q
def oNo : AO := fun ρ q => q none ρ
def oPart (a : AE) : AO := fun ρ q => a ρ fun r ρ1 => match r with
  | .d (.int i) => q (some i) ρ1
  | _ => False
theorem took_no : TOok K tNoPart oNo := fun F σ ρ H q Q r h k => k _ _ _ h r .refl
theorem took_part (ha : TEok K ta a) : TOok K (tPart ta) (oPart a) := by
  intro F σ ρ H q Q r h k
  refine ha F σ ρ H _ _ r h fun r1 ρ1 x H1 h1 rel1 => ?_
  split at h1
  · obtain ⟨r', k1, i1⟩ := rel1.inF
    exact ⟨_, i1.int, k _ _ _ h1 r' k1⟩
  · exact h1.elim
def cutD (xs : List D) (lo hi : Option Int) : List D := (xs.drop (HT.sIx xs.length 0 lo)).take (HT.sIx xs.length xs.length hi - HT.sIx xs.length 0 lo)
theorem RepDs.drop : ∀ {vs : List V} {ds : List D} (n : Nat), RepDs K H vs ds → RepDs K H (vs.drop n) (ds.drop n)
  | [], [], n, h => by simp [RepDs.nil]
  | v :: vs, d :: ds, 0, h => h
  | v :: vs, d :: ds, n + 1, h => by unfold RepDs at h; exact RepDs.drop n h.2
  | [], d :: ds, _, h => by unfold RepDs at h; exact h.elim
  | v :: vs, [], _, h => by unfold RepDs at h; exact h.elim
theorem RepDs.take : ∀ {vs : List V} {ds : List D} (n : Nat), RepDs K H vs ds → RepDs K H (vs.take n) (ds.take n)
  | [], [], n, h => by simp [RepDs.nil]
  | v :: vs, d :: ds, 0, h => .nil
  | v :: vs, d :: ds, n + 1, h => by unfold RepDs at h; exact .cons h.1 (RepDs.take n h.2)
  | [], d :: ds, _, h => by unfold RepDs at h; exact h.elim
  | v :: vs, [], _, h => by unfold RepDs at h; exact h.elim
theorem cut_rep {vs : List V} {ds : List D} {lo hi : Option Int} (h : RepDs K H vs ds) : RepDs K H (cutV vs lo hi) (cutD ds lo hi) := by
  unfold cutV cutD
  rw [h.length]
  exact (h.drop _).take _
end
end L2
set_option Elab.async false
set_option linter.all false
set_option maxRecDepth 100000
namespace L2
open PySem PySem.Spec PyProof.Rows
def slotR (ρ : En) : R → Sv
  | .d d => .vl d
  | .o j => gt ρ j
  | _ => .un
def Src (K : PySem.W.Frag) (F : Fr) (σ : St) (ρ : En) (H : Hp) (ov : Option V) : R → Prop
  | .d d => ∃ v, ov = some v ∧ RepD K (hid H (hs F σ ρ)) v d
  | .o j => (σ[j]?).getD none = ov
  | _ => True
inductive Srcs (K : PySem.W.Frag) (F : Fr) (σ : St) (ρ : En) (H : Hp) : St → List R → Prop
  | nil : Srcs K F σ ρ H [] []
  | cons {v : Option V} {r : R} {vs : St} {rs : List R} : Src K F σ ρ H v r → Srcs K F σ ρ H vs rs → Srcs K F σ ρ H (v :: vs) (r :: rs)
def isO (j : Nat) : R → Bool
  | .o i => i == j
  | _ => false
def dis : List R → Bool
  | [] => true
  | .o j :: rs => rs.all (fun r => !isO j r) && dis rs
  | _ :: rs => dis rs
theorem dis_uniq : ∀ {rs : List R} {k k' j : Nat}, dis rs = true → rs[k]? = some (.o j) → rs[k']? = some (.o j) → k = k' := by
  intro rs
  induction rs with
  | nil => intro k k' j _ h; simp at h
  | cons r rs ih =>
    intro k k' j hd h h'
    have hd' : dis rs = true := by
      cases r <;> simp [dis] at hd <;> first | exact hd.2 | exact hd
    have no : ∀ (m : Nat), r = .o j → rs[m]? = some (.o j) → False := fun m e hm => by
      subst e
      simp [dis] at hd
      have := hd.1 _ (List.mem_of_getElem? hm)
      simp [isO] at this
    cases k with
    | zero =>
      cases k' with
      | zero => rfl
      | succ k' => simp at h h'; exact (no k' h h').elim
    | succ k =>
      cases k' with
      | zero => simp at h h'; exact (no k h' h).elim
      | succ k' => simp at h h'; rw [ih hd' h h']
def back : En → List R → En → En
  | ρ, .o j :: rs, s :: ss => back (pt ρ j s) rs ss
  | ρ, _ :: rs, _ :: ss => back ρ rs ss
  | ρ, _, _ => ρ
theorem back_len : ∀ (rs : List R) (ρ ss : En), (back ρ rs ss).length = ρ.length
  | [], ρ, ss => by cases ss <;> rfl
  | r :: rs, ρ, [] => by cases r <;> rfl
  | .o j :: rs, ρ, s :: ss => by show (back (pt ρ j s) rs ss).length = _; rw [back_len, pt_len]
  | .d d :: rs, ρ, s :: ss => back_len rs ρ ss
  | .n d :: rs, ρ, s :: ss => back_len rs ρ ss
  | .t d :: rs, ρ, s :: ss => back_len rs ρ ss
theorem back_ne : ∀ (rs : List R) (ρ ss : En) (i : Nat), (∀ k : Nat, rs[k]? ≠ some (R.o i)) → gt (back ρ rs ss) i = gt ρ i
  | [], ρ, ss, i, _ => by cases ss <;> rfl
  | r :: rs, ρ, [], i, _ => by cases r <;> rfl
  | .o j :: rs, ρ, s :: ss, i, h => by
    have ne : j ≠ i := fun e => h 0 (by simp [e])
    show gt (back (pt ρ j s) rs ss) i = _
    rw [back_ne rs _ ss i (fun k z => h (k + 1) (by simpa using z)), gt_pt_ne ρ j i s ne]
  | .d d :: rs, ρ, s :: ss, i, h => back_ne rs ρ ss i (fun k z => h (k + 1) (by simpa using z))
  | .n d :: rs, ρ, s :: ss, i, h => back_ne rs ρ ss i (fun k z => h (k + 1) (by simpa using z))
  | .t d :: rs, ρ, s :: ss, i, h => back_ne rs ρ ss i (fun k z => h (k + 1) (by simpa using z))
theorem back_at : ∀ (rs : List R) (ρ ss : En) (i k : Nat), dis rs = true → rs[k]? = some (.o i) → ss.length = rs.length → i < ρ.length → gt (back ρ rs ss) i = gt ss k
  | [], ρ, ss, i, k, _, h, _, _ => by simp at h
  | r :: rs, ρ, [], i, k, _, _, e, _ => by simp at e
  | .o j :: rs, ρ, s :: ss, i, 0, hd, h, e, l => by
    simp at h; subst h
    simp [dis] at hd
    show gt (back (pt ρ j s) rs ss) j = s
    rw [back_ne rs _ ss j (fun k z => by have := hd.1 _ (List.mem_of_getElem? z); simp [isO] at this), gt_pt ρ j s l]
  | .o j :: rs, ρ, s :: ss, i, k + 1, hd, h, e, l => by
    simp [dis] at hd
    exact back_at rs (pt ρ j s) ss i k hd.2 (by simpa using h) (by simpa using e) (by rw [pt_len]; exact l)
  | .d d :: rs, ρ, s :: ss, i, 0, hd, h, e, l => by simp at h
  | .n d :: rs, ρ, s :: ss, i, 0, hd, h, e, l => by simp at h
  | .t d :: rs, ρ, s :: ss, i, 0, hd, h, e, l => by simp at h
  | .d d :: rs, ρ, s :: ss, i, k + 1, hd, h, e, l => back_at rs ρ ss i k hd (by simpa using h) (by simpa using e) l
  | .n d :: rs, ρ, s :: ss, i, k + 1, hd, h, e, l => back_at rs ρ ss i k hd (by simpa using h) (by simpa using e) l
  | .t d :: rs, ρ, s :: ss, i, k + 1, hd, h, e, l => back_at rs ρ ss i k hd (by simpa using h) (by simpa using e) l
theorem gt_map (ρ : En) : ∀ (rs : List R) (k : Nat), gt (rs.map (slotR ρ)) k = (match rs[k]? with | some r => slotR ρ r | none => .un)
  | [], k => by simp [gt]
  | r :: rs, 0 => by simp [gt]
  | r :: rs, k + 1 => by simp [gt, gt_map ρ rs k]
section
variable {K : PySem.W.Frag} {F : Fr} {σ : St} {ρ ρ' : En} {H H' : Hp} {ovs : St} {rs : List R}
theorem Srcs.length (s : Srcs K F σ ρ H ovs rs) : ovs.length = rs.length := by
  induction s with
  | nil => rfl
  | cons _ _ ih => simp [ih]
theorem Srcs.get {k : Nat} {r : R} (s : Srcs K F σ ρ H ovs rs) (h : rs[k]? = some r) : ∃ ov, ovs[k]? = some ov ∧ Src K F σ ρ H ov r := by
  induction s generalizing k with
  | nil => simp at h
  | cons a _ ih =>
    cases k with
    | zero => simp at h; subst h; exact ⟨_, rfl, a⟩
    | succ k => obtain ⟨ov, e, q⟩ := ih (by simpa using h); exact ⟨ov, by simpa using e, q⟩
def subFr (F : Fr) (σ : St) (ρ : En) (H : Hp) (ovs : St) (ss : En) : Fr :=
  ⟨H, fun a => F.Z a ∨ (owned σ ρ a ∧ ¬ owned ovs ss a), fun a => owned ovs ss a, fun i a => (gt ss i).own = true ∧ ovs[i]? = some (some (.ref a)), fun _ _ => False⟩
theorem sub_own (s : Srcs K F σ ρ H ovs rs) {k : Nat} (h : (gt (rs.map (slotR ρ)) k).own = true) : ∃ j : Nat, rs[k]? = some (R.o j) ∧ (gt ρ j).own = true ∧ gt (rs.map (slotR ρ)) k = gt ρ j ∧ ovs[k]? = some ((σ[j]?).getD none) := by
  rw [gt_map] at h
  cases e : rs[k]? with
  | none => simp [e] at h; cases h
  | some r =>
    rw [e] at h
    cases r with
    | d d => cases h
    | n d => cases h
    | t d => cases h
    | o j =>
      obtain ⟨ov, e1, e2⟩ := s.get e
      exact ⟨j, rfl, h, by rw [gt_map, e]; rfl, by rw [e1, show _ = ov from e2]⟩
theorem getD_ref {x : Option (Option V)} {a : Addr} (h : some (x.getD none) = some (some (V.ref a))) : x = some (some (.ref a)) := by
  cases x with
  | none => simp at h
  | some y => simpa using h
theorem sub_owned (s : Srcs K F σ ρ H ovs rs) {a : Addr} (h : owned ovs (rs.map (slotR ρ)) a) : ∃ k j : Nat, rs[k]? = some (R.o j) ∧ (gt ρ j).own = true ∧ σ[j]? = some (some (V.ref a)) ∧ ovs[k]? = some (some (V.ref a)) := by
  obtain ⟨k, hk, e⟩ := h
  obtain ⟨j, e1, e2, e3, e4⟩ := sub_own s hk
  rw [e] at e4
  exact ⟨k, j, e1, e2, getD_ref e4.symm, e⟩
theorem sub_hs (r : Rel K F σ ρ H) (s : Srcs K F σ ρ H ovs rs) : hs (subFr F σ ρ H ovs (rs.map (slotR ρ))) ovs (rs.map (slotR ρ)) = hs F σ ρ := by
  funext a
  apply propext
  constructor
  · rintro ((h | h) | h)
    · exact .inl h
    · exact .inr h.1
    · obtain ⟨k, j, e1, e2, e3, _⟩ := sub_owned s h
      exact .inr ⟨j, e2, e3⟩
  · rintro (h | h)
    · exact .inl (.inl h)
    · by_cases q : owned ovs (rs.map (slotR ρ)) a
      · exact .inr q
      · exact .inl (.inr ⟨h, q⟩)
theorem Rel.sub (r : Rel K F σ ρ H) (s : Srcs K F σ ρ H ovs rs) (hd : dis rs = true) : Rel K (subFr F σ ρ H ovs (rs.map (slotR ρ))) ovs (rs.map (slotR ρ)) H := by
  refine ⟨by rw [s.length, List.length_map], fun a o e _ => e, fun a z => ?_, fun a h z => ?_, fun i a hi e => .inl ⟨⟨hi, e⟩, i, hi, e⟩, fun i a h => ?_, fun a h => ?_, fun a h => ?_, fun i j a hi hj ei ej => ?_, fun k => ?_⟩
  · rcases z with z | z
    · exact r.zl a z
    · exact owned_nt r z.1
  · obtain ⟨k, j, e1, e2, e3, _⟩ := sub_owned s h
    rcases z with z | z
    · exact r.zo a ⟨j, e2, e3⟩ z
    · exact z.2 h
  · rcases h with h | h
    · exact h.2
    · exact h.elim
  · obtain ⟨k, j, e1, e2, e3, _⟩ := sub_owned s h
    exact owned_alive r ⟨j, e2, e3⟩
  · obtain ⟨k, j, e1, e2, e3, _⟩ := sub_owned s h
    exact owned_alive r ⟨j, e2, e3⟩
  · obtain ⟨p, a1, a2, a3, a4⟩ := sub_own s hi
    obtain ⟨p', b1, b2, b3, b4⟩ := sub_own s hj
    rw [ei] at a4
    rw [ej] at b4
    have : p = p' := r.nd p p' a a2 b2 (getD_ref a4.symm) (getD_ref b4.symm)
    subst this
    exact dis_uniq hd a1 b1
  · rw [sub_hs r s, gt_map]
    cases e : rs[k]? with
    | none => trivial
    | some x =>
      obtain ⟨ov, e1, e2⟩ := s.get e
      cases x with
      | n d => trivial
      | t d => trivial
      | d d => obtain ⟨v, e3, e4⟩ := e2; rw [e1, e3]; exact ⟨v, rfl, e4⟩
      | o j =>
        rw [e1]
        have q := r.sl j
        show SvOk K _ H (some ov) (gt ρ j)
        rw [← show (σ[j]?).getD none = ov from e2]
        cases e5 : σ[j]? with
        | none =>
          rw [e5] at q
          cases hg : gt ρ j with
          | un => trivial
          | vl d => rw [hg] at q; obtain ⟨x, z, _⟩ := q; cases z
          | ow d => rw [hg] at q; obtain ⟨x, _, z, _⟩ := q; cases z
          | tp d => rw [hg] at q; obtain ⟨x, _, _, _, _, z, _⟩ := q; cases z
          | dk d => rw [hg] at q; obtain ⟨x, _, z, _⟩ := q; cases z
          | dt d => rw [hg] at q; obtain ⟨x, _, z, _⟩ := q; cases z
          | ex d m => rw [hg] at q; obtain ⟨x, _, z, _⟩ := q; cases z
          | sc d => rw [hg] at q; obtain ⟨x, z, _⟩ := q; cases z
        | some y => rw [e5] at q; exact q
theorem Rel.back (r : Rel K F σ ρ H) (s : Srcs K F σ ρ H ovs rs) (hd : dis rs = true) {ss' : En} (r' : Rel K (subFr F σ ρ H ovs (rs.map (slotR ρ))) ovs ss' H') (sb : ∀ i, (gt ss' i).own = true → (gt (rs.map (slotR ρ)) i).own = true) :
    Rel K F σ (L2.back ρ rs ss') H' ∧ Kp σ ρ (L2.back ρ rs ss') H H' ∧ Same (hid H' (hs (subFr F σ ρ H ovs (rs.map (slotR ρ))) ovs ss')) (hid H' (hs F σ (L2.back ρ rs ss'))) := by
  have ln : ss'.length = rs.length := by rw [← r'.len, s.length]
  have cs : ∀ i : Nat, (∃ k : Nat, rs[k]? = some (R.o i) ∧ i < ρ.length ∧ gt (L2.back ρ rs ss') i = gt ss' k) ∨ ((∀ k : Nat, i < ρ.length → rs[k]? ≠ some (R.o i)) ∧ gt (L2.back ρ rs ss') i = gt ρ i) := fun i => by
    by_cases hi : i < ρ.length
    · by_cases q : ∃ k : Nat, rs[k]? = some (R.o i)
      · obtain ⟨k, e⟩ := q
        exact .inl ⟨k, e, hi, back_at rs ρ ss' i k hd e ln hi⟩
      · exact .inr ⟨fun k _ z => q ⟨k, z⟩, back_ne rs ρ ss' i fun k z => q ⟨k, z⟩⟩
    · refine .inr ⟨fun k z => absurd z hi, ?_⟩
      rw [gt_out _ i (by rw [back_len]; omega), gt_out _ i (by omega)]
  have own' : ∀ i, (gt (L2.back ρ rs ss') i).own = true → (gt ρ i).own = true := fun i h => by
    rcases cs i with ⟨k, e, hi, g⟩ | ⟨_, g⟩
    · rw [g] at h
      have := sb k h
      rw [gt_map, e] at this
      exact this
    · rw [g] at h; exact h
  have subo : ∀ {a}, owned σ (L2.back ρ rs ss') a → owned σ ρ a := fun ⟨i, hi, e⟩ => ⟨i, own' i hi, e⟩
  have no : ∀ a, ¬ owned σ ρ a → ¬ owned ovs (rs.map (slotR ρ)) a := fun a h z => by
    obtain ⟨k, j, e1, e2, e3, _⟩ := sub_owned s z
    exact h ⟨j, e2, e3⟩
  have st : ∀ a o, H a = some o → ¬ owned ovs (rs.map (slotR ρ)) a → H' a = some o := fun a o e n => r'.fr a o e n
  have hsub : ∀ a, hs F σ (L2.back ρ rs ss') a → hs (subFr F σ ρ H ovs (rs.map (slotR ρ))) ovs ss' a := fun a h => by
    rcases h with h | ⟨i, hi, e⟩
    · exact .inl (.inl h)
    · rcases cs i with ⟨k, e1, hl, g⟩ | ⟨n, g⟩
      · right
        rw [g] at hi
        obtain ⟨ov, q1, q2⟩ := s.get e1
        refine ⟨k, hi, ?_⟩
        rw [q1, ← show (σ[i]?).getD none = ov from q2, e]
        rfl
      · left; right
        rw [g] at hi
        refine ⟨⟨i, hi, e⟩, fun z => ?_⟩
        obtain ⟨k, j, e1, e2, e3, _⟩ := sub_owned s z
        have : i = j := r.nd i j a hi e2 e e3
        subst this
        exact n k (own_lt hi) e1
  have v1 : Same (hid H' (hs (subFr F σ ρ H ovs (rs.map (slotR ρ))) ovs ss')) (hid H' (hs F σ (L2.back ρ rs ss'))) := hid_same fun a o e n => ⟨e, fun z => n (hsub a z)⟩
  have v2 : Same (hid H (hs F σ ρ)) (hid H' (hs F σ (L2.back ρ rs ss'))) := hid_same fun a o e n => ⟨st a o e (no a fun z => n (.inr z)), fun z => n (z.imp id subo)⟩
  refine ⟨⟨by rw [back_len, r.len], fun a o e n => ?_, fun a z => r'.zl a (.inl z), fun a h => r.zo a (subo h), fun i a hi e => r.ow i a (own' i hi) e, r.mi, r.ml, fun a z => ?_, fun i j a hi hj ei ej => r.nd i j a (own' i hi) (own' j hj) ei ej, fun i => ?_⟩, ⟨fun a o e n => st a o e (no a n), own'⟩, v1⟩
  · have e1 := r.fr a o e n
    refine st a o e1 fun z => ?_
    obtain ⟨k, j, h1, h2, h3, _⟩ := sub_owned s z
    rcases r.ow j a h2 h3 with q | q
    · exact n q.2
    · rw [e] at q; cases q
  · by_cases q : owned ovs (rs.map (slotR ρ)) a
    · exact r'.ma a q
    · cases h : H a with
      | none => exact absurd h (r.ma a z)
      | some o => rw [st a o h q]; exact fun z => nomatch z
  · rcases cs i with ⟨k, e1, hl, g⟩ | ⟨n, g⟩
    · rw [g]
      have q := (r'.sl k).keep v1 fun _ _ _ _ e => e
      obtain ⟨ov, q1, q2⟩ := s.get e1
      rw [q1, ← show (σ[i]?).getD none = ov from q2] at q
      cases e5 : σ[i]? with
      | none =>
        rw [e5] at q
        cases hg : gt ss' k with
        | un => trivial
        | vl d => rw [hg] at q; obtain ⟨x, z, _⟩ := q; cases z
        | ow d => rw [hg] at q; obtain ⟨x, _, z, _⟩ := q; cases z
        | tp d => rw [hg] at q; obtain ⟨x, _, _, _, _, z, _⟩ := q; cases z
        | dk d => rw [hg] at q; obtain ⟨x, _, z, _⟩ := q; cases z
        | dt d => rw [hg] at q; obtain ⟨x, _, z, _⟩ := q; cases z
        | ex d m => rw [hg] at q; obtain ⟨x, _, z, _⟩ := q; cases z
        | sc d => rw [hg] at q; obtain ⟨x, z, _⟩ := q; cases z
      | some y => rw [e5] at q; exact q
    · rw [g]
      refine (r.sl i).keep v2 fun l o ho e h => st l o h fun z => ?_
      obtain ⟨k, j, e1, e2, e3, _⟩ := sub_owned s z
      have : i = j := r.nd i j l ho e2 e e3
      subst this
      exact n k (own_lt ho) e1
end
abbrev ASp := En → Ko → Prop
def F0 (vs : List V) (ss : En) (H : Hp) (Z : Addr → Prop) : Fr := ⟨H, Z, fun a => owned (vs.map some) ss a, fun i a => (gt ss i).own = true ∧ (vs.map some)[i]? = some (some (.ref a)), fun _ _ => False⟩
def spA (K : PySem.W.Frag) (S : ASp) : Sp := fun vs H Q _ => ∃ ss Z q, Rel K (F0 vs ss H Z) (vs.map some) ss H ∧ S ss q ∧
  ∀ r ss' v H', q r ss' → (∀ i, (gt ss' i).own = true → (gt ss i).own = true) → (∀ i, r ≠ .o i) → RelR K (F0 vs ss H Z) (vs.map some) ss' v H' r → Q v H'
def aCall (S : ASp) (as : AA) : AE := fun ρ q => as ρ fun rs ρ1 => dis rs = true ∧ S (rs.map (slotR ρ1)) fun r ss' => q r (back ρ1 rs ss')
section
variable {K : PySem.W.Frag} {F : Fr} {σ : St} {ρ ρ' : En} {H H' : Hp} {ovs : St} {rs : List R}
theorem InFs.srcs {vs : List V} (h : InFs K F σ ρ H vs rs) : Srcs K F σ ρ H (vs.map some) rs := by
  induction h with
  | nil => exact .nil
  | cons a t ih =>
    rename_i v r vs rs
    refine .cons ?_ ih
    cases r with
    | d d => exact ⟨v, rfl, a⟩
    | o j => show (σ[j]?).getD none = some v; rw [show σ[j]? = _ from a]; rfl
    | n s => trivial
    | t n => trivial
theorem tok_call {S : ASp} {E : XK} {ts : TA} {as : AA} (hs' : TAok K ts as) : TEok K (tCall (spA K S) [] E ts) (aCall S as) := by
  intro F σ ρ H q Q r h k
  refine hs' F σ ρ H _ _ r h fun rs ρ1 vs H1 h1 r1 i1 k1 => ?_
  obtain ⟨hd, hS⟩ := h1
  have s := i1.srcs
  rw [List.append_nil]
  refine ⟨rs.map (slotR ρ1), (subFr F σ ρ1 H1 (vs.map some) (rs.map (slotR ρ1))).Z, _, r1.sub s hd, hS, fun rr ss' v H' hq sb no out => ?_⟩
  refine (k.after k1) rr (back ρ1 rs ss') v H' hq ?_
  cases rr with
  | o i => exact absurd rfl (no i)
  | d d =>
    obtain ⟨a, b⟩ := out
    obtain ⟨x, y, z⟩ := r1.back s hd a sb
    exact ⟨x, y, RepD.same b z⟩
  | t n =>
    obtain ⟨a, b⟩ := out
    obtain ⟨x, y, z⟩ := r1.back s hd a sb
    exact ⟨x, y, b⟩
  | n sv =>
    obtain ⟨Hb, l, o, a, b, c, e1, e2, e3⟩ := out
    obtain ⟨x, y, z⟩ := r1.back s hd a sb
    exact ⟨Hb, l, o, x, y, b, c.keep z fun _ _ _ _ e => e, e1, e2, e3⟩
end
end L2
set_option Elab.async false
set_option linter.all false
set_option maxRecDepth 100000
namespace L2
open PySem PySem.Spec PyProof.Rows
section
variable {K : PySem.W.Frag} {F : Fr} {σ σ' : St} {ρ ρ' : En} {H H' : Hp}
open Classical in
noncomputable def rebase (F : Fr) (σ : St) (ρ : En) (H : Hp) (pin : Nat → Bool) : Fr :=
  ⟨fun a => if owned σ ρ a ∧ F.H0 a = none then none else H a, F.Z, fun a => F.M a ∧ owned σ ρ a, F.I, fun i a => F.P i a ∨ (pin i = true ∧ σ[i]? = some (some (.ref a)))⟩
open Classical in
theorem rb_some {pin : Nat → Bool} {a : Addr} {o : HO} (h : ¬ (owned σ ρ a ∧ F.H0 a = none)) (e : H a = some o) : (rebase F σ ρ H pin).H0 a = some o := by
  show (if owned σ ρ a ∧ F.H0 a = none then none else H a) = some o
  rw [if_neg h]; exact e
open Classical in
theorem rb_inv {pin : Nat → Bool} {a : Addr} {o : HO} (e : (rebase F σ ρ H pin).H0 a = some o) : H a = some o := by
  have e' : (if owned σ ρ a ∧ F.H0 a = none then none else H a) = some o := e
  split at e'
  · cases e'
  · exact e'
open Classical in
theorem Rel.rebase (r : Rel K F σ ρ H) (pin : Nat → Bool) : Rel K (L2.rebase F σ ρ H pin) σ ρ H where
  len := r.len
  fr := fun a o e _ => rb_inv e
  zl := r.zl
  zo := r.zo
  ow := fun i a hi e => by
    rcases r.ow i a hi e with ⟨h1, h2⟩ | h
    · exact .inl ⟨h1, h2, i, hi, e⟩
    · refine .inr ?_
      show (if owned σ ρ a ∧ F.H0 a = none then none else H a) = none
      rw [if_pos ⟨⟨i, hi, e⟩, h⟩]
  mi := fun i a h => by
    rcases h with h | h | h
    · exact r.mi i a (.inl h)
    · exact r.mi i a (.inr h)
    · exact h.2
  ml := fun a h => by
    cases e : H a with
    | none => exact absurd e (r.ma a h.1)
    | some o => rw [rb_some (fun z => r.ml a h.1 z.2) e]; exact fun z => nomatch z
  ma := fun a h => r.ma a h.1
  nd := r.nd
  sl := r.sl
theorem Rel.unbase {pin : Nat → Bool} (r : Rel K F σ ρ H) (r' : Rel K (L2.rebase F σ ρ H pin) σ' ρ' H') : Rel K F σ' ρ' H' ∧ Same (hid H (hs F σ ρ)) (hid H' (hs F σ' ρ')) := by
  refine ⟨⟨r'.len, fun a o e n => ?_, r'.zl, r'.zo, fun i a hi e => ?_, fun i a h => r'.mi i a (h.imp id .inl), r.ml, fun a h => ?_, r'.nd, r'.sl⟩, hid_same fun a o e n => ?_⟩
  · exact r'.fr a o (rb_some (fun z => by rw [e] at z; cases z.2) (r.fr a o e n)) fun z => n z.1
  · rcases r'.ow i a hi e with ⟨h1, h2⟩ | h
    · exact .inl ⟨h1, h2.1⟩
    · right
      cases h0 : F.H0 a with
      | none => rfl
      | some o =>
        exfalso
        have nn : H a ≠ none := by
          by_cases q : F.M a
          · exact r.ma a q
          · rw [r.fr a o h0 q]; exact fun z => nomatch z
        cases e2 : H a with
        | none => exact nn e2
        | some u =>
          rw [rb_some (fun z => by rw [h0] at z; cases z.2) e2] at h
          cases h
  · by_cases q : owned σ ρ a
    · exact r'.ma a ⟨h, q⟩
    · cases e : H a with
      | none => exact absurd e (r.ma a h)
      | some o => rw [r'.fr a o (rb_some (fun z => q z.1) e) fun z => q z.2]; exact fun z => nomatch z
  · have n' : ¬ owned σ ρ a := fun z => n (.inr z)
    have e0 := rb_some (F := F) (pin := pin) (fun z => n' z.1) e
    refine ⟨r'.fr a o e0 fun z => n' z.2, fun z => ?_⟩
    rcases z with z | ⟨i, hi, ei⟩
    · exact n (.inl z)
    · rcases r'.ow i a hi ei with ⟨_, h2⟩ | h
      · exact n' h2.2
      · rw [e0] at h; cases h
theorem RelR.unbase {pin : Nat → Bool} {v : V} {rr : R} (r : Rel K F σ ρ H) (r' : RelR K (L2.rebase F σ ρ H pin) σ' ρ' v H' rr) : RelR K F σ' ρ' v H' rr := by
  cases rr with
  | d d => exact ⟨(r.unbase r'.1).1, r'.2⟩
  | o d => exact ⟨(r.unbase r'.1).1, r'.2⟩
  | t d => exact ⟨(r.unbase r'.1).1, r'.2⟩
  | n s =>
    obtain ⟨Hb, l, o, a, b, c, e⟩ := r'
    exact ⟨Hb, l, o, (r.unbase a).1, b, c, e⟩
end
structure EndOk (K : PySem.W.Frag) (F : Fr) (D : Ends) (e : AEnds) : Prop where
  nx : ∀ σ' ρ' H', e.nx ρ' → Rel K F σ' ρ' H' → D.nx σ' H'
  bk : ∀ σ' ρ' H', e.bk ρ' → Rel K F σ' ρ' H' → D.bk σ' H'
  ct : ∀ σ' ρ' H', e.ct ρ' → Rel K F σ' ρ' H' → D.ct σ' H'
  rt : ∀ σ' ρ' r v H', e.rt r ρ' → RelR K F σ' ρ' v H' r → D.rt v H'
def TSok (K : PySem.W.Frag) (pr : Nat → Bool) (t : TS) (a : AS) : Prop := ∀ F σ ρ H D e, (∀ i a, F.pin i a → pr i = true) → Rel K F σ ρ H → a e ρ → EndOk K F D e → t D σ H
abbrev AG := D → En → (En → Prop) → Prop
abbrev AGs := List D → En → (En → Prop) → Prop
def TGok (K : PySem.W.Frag) (pr : Nat → Bool) (g : TG) (ag : AG) : Prop := ∀ F σ ρ H v d k Q, (∀ i a, F.pin i a → pr i = true) → Rel K F σ ρ H → RepD K (hid H (hs F σ ρ)) v d → ag d ρ k →
  (∀ σ' ρ', k ρ' → Rel K F σ' ρ' H → σ'.length = σ.length → (∀ i, pr i = true → σ'[i]? = σ[i]?) → (∀ i, (gt ρ' i).own = true → (gt ρ i).own = true ∧ σ'[i]? = σ[i]?) → Q σ' H) → g v σ H Q
def TGsok (K : PySem.W.Frag) (pr : Nat → Bool) (n : Nat) (g : TGs) (ag : AGs) : Prop := (∀ ds ρ k, ag ds ρ k → ds.length = n) ∧ ∀ F σ ρ H vs ds k Q, (∀ i a, F.pin i a → pr i = true) → Rel K F σ ρ H → RepDs K (hid H (hs F σ ρ)) vs ds → ag ds ρ k →
  (∀ σ' ρ', k ρ' → Rel K F σ' ρ' H → σ'.length = σ.length → (∀ i, pr i = true → σ'[i]? = σ[i]?) → (∀ i, (gt ρ' i).own = true → (gt ρ i).own = true ∧ σ'[i]? = σ[i]?) → Q σ' H) → g vs σ H Q
section
variable {K : PySem.W.Frag} {pr : Nat → Bool} {t u : TS} {a b : AS} {te : TE} {ae : AE} {tt : TT} {at' : AT}
theorem nopin {F : Fr} {i : Nat} (hp : ∀ i a, F.pin i a → pr i = true) (h : pr i = false) : ∀ a, ¬ F.pin i a := fun a z => by rw [hp i a z] at h; cases h
def gaName (i : Nat) : AG := fun d ρ k => k (pt ρ i (.vl d))
theorem tgok_name {i : Nat} (h : pr i = false) : TGok K pr (gName i) (gaName i) := by
  intro F σ ρ H v d k Q hp r hd ha kk
  refine kk _ _ ha (r.set hd (nopin hp h)) (by rw [List.length_set]) (fun j hj => ?_) fun j hj => ?_
  · rw [List.getElem?_set_ne]; rintro rfl; rw [h] at hj; cases hj
  · obtain ⟨ne, q⟩ := own_set rfl hj
    exact ⟨q, by rw [List.getElem?_set_ne ne]⟩
def gaNil : AGs := fun ds ρ k => match ds with
  | [] => k ρ
  | _ => False
def gaCons (g : AG) (gs : AGs) : AGs := fun ds ρ k => match ds with
  | d :: r => g d ρ fun ρ1 => gs r ρ1 k
  | [] => False
theorem tgsok_nil : TGsok K pr 0 gNil gaNil := by
  refine ⟨fun ds ρ k h => ?_, ?_⟩
  · cases ds with
    | nil => rfl
    | cons _ _ => exact h.elim
  intro F σ ρ H vs ds k Q hp r hd ha kk
  cases ds with
  | cons _ _ => exact ha.elim
  | nil =>
    cases vs with
    | nil => exact ⟨rfl, kk _ _ ha r rfl (fun _ _ => rfl) fun _ h => ⟨h, rfl⟩⟩
    | cons v vs => unfold RepDs at hd; exact hd.elim
theorem own_vis {F : Fr} {σ σ' : St} {ρ ρ' : En} {H : Hp} (h : ∀ i, (gt ρ' i).own = true → (gt ρ i).own = true ∧ σ'[i]? = σ[i]?) : Same (hid H (hs F σ ρ)) (hid H (hs F σ' ρ')) := hid_same fun a o e n => ⟨e, fun z => by
  rcases z with z | ⟨i, hi, ei⟩
  · exact n (.inl z)
  · obtain ⟨q1, q2⟩ := h i hi
    exact n (.inr ⟨i, q1, q2 ▸ ei⟩)⟩
theorem tgsok_cons {g : TG} {gs : TGs} {ag : AG} {ags : AGs} {n : Nat} (h : TGok K pr g ag) (hs' : TGsok K pr n gs ags) (gl : ∀ d ρ k, ag d ρ k → ∃ ρ', k ρ') : TGsok K pr (n + 1) (gCons g gs) (gaCons ag ags) := by
  refine ⟨fun ds ρ k ha => ?_, ?_⟩
  · cases ds with
    | nil => exact ha.elim
    | cons d ds => obtain ⟨ρ', q⟩ := gl _ _ _ ha; rw [List.length_cons, hs'.1 _ _ _ q]
  intro F σ ρ H vs ds k Q hp r hd ha kk
  cases ds with
  | nil => exact ha.elim
  | cons d ds =>
    cases vs with
    | nil => unfold RepDs at hd; exact hd.elim
    | cons v vs =>
      unfold RepDs at hd
      refine ⟨v, vs, rfl, h F σ ρ H v d _ _ hp r hd.1 ha fun σ1 ρ1 h1 r1 l1 p1 o1 => ?_⟩
      refine hs'.2 F σ1 ρ1 H vs ds _ _ hp r1 (hd.2.same (own_vis o1)) h1 fun σ2 ρ2 h2 r2 l2 p2 o2 => ?_
      refine kk _ _ h2 r2 (l2.trans l1) (fun i hi => (p2 i hi).trans (p1 i hi)) fun i hi => ?_
      obtain ⟨a1, a2⟩ := o2 i hi
      obtain ⟨b1, b2⟩ := o1 i a1
      exact ⟨b1, a2.trans b2⟩
def gaTup (n : Nat) (gs : AGs) : AG := fun d ρ k => match d with
  | .tup ds => gs ds ρ k
  | _ => False
theorem gl_name {i : Nat} {d : D} {ρ : En} {k : En → Prop} (h : gaName i d ρ k) : ∃ ρ', k ρ' := ⟨_, h⟩
theorem tgok_tup {gs : TGs} {ags : AGs} {n : Nat} (hs' : TGsok K pr n gs ags) : TGok K pr (gTup K n gs) (gaTup n ags) := by
  intro F σ ρ H v d k Q hp r hd ha kk
  unfold gaTup at ha
  split at ha
  · rename_i ds
    unfold RepD at hd
    obtain ⟨p, vs, rfl, sq, rd⟩ := hd
    exact ⟨p, vs, rfl, hid_sub.seqT sq.sq, by rw [rd.length]; exact hs'.1 _ _ _ ha, hs'.2 F σ ρ H vs ds k Q hp r rd ha kk⟩
  · exact ha.elim
def aNext : AS := fun e ρ => e.nx ρ
def aSeq (a b : AS) : AS := fun e ρ => a { e with nx := b e } ρ
theorem sok_next : TSok K pr tNext aNext := fun F σ ρ H D e hp r h k => k.nx _ _ _ h r
theorem sok_seq (ha : TSok K pr t a) (hb : TSok K pr u b) : TSok K pr (tSeq t u) (aSeq a b) := fun F σ ρ H D e hp r h k =>
  ha F σ ρ H _ _ hp r h ⟨fun σ' ρ' H' h' r' => hb F σ' ρ' H' D e hp r' h' k, k.bk, k.ct, k.rt⟩
def aDrop (x : AE) : AS := fun e ρ => x ρ fun _ ρ1 => e.nx ρ1
theorem sok_drop (h : TEok K te ae) : TSok K pr (tDrop te) (aDrop ae) := fun F σ ρ H D e hp r ha k =>
  h F σ ρ H _ _ r ha fun r1 ρ1 v H1 h1 o => k.nx _ _ _ h1 o.inF.1
def aRet (x : AE) : AS := fun e ρ => x ρ e.rt
theorem sok_ret (h : TEok K te ae) : TSok K pr (tRet te) (aRet ae) := fun F σ ρ H D e hp r ha k =>
  h F σ ρ H _ _ r ha fun r1 ρ1 v H1 h1 o => k.rt _ _ _ _ _ h1 o.rel
def aIfS (c : AT) (a b : AS) : AS := fun e ρ => c ρ fun k ρ1 => if k = true then a e ρ1 else b e ρ1
theorem sok_if (hc : TTok K tt at') (ha : TSok K pr t a) (hb : TSok K pr u b) : TSok K pr (tIfS tt t u) (aIfS at' a b) := by
  intro F σ ρ H D e hp r h k
  refine hc F σ ρ H _ _ r h fun c ρ1 H1 h1 r1 k1 => ?_
  cases c with
  | true => exact ha F σ ρ1 H1 D e hp r1 h1 k
  | false => exact hb F σ ρ1 H1 D e hp r1 h1 k
def stS (i : Nat) : R → En → (En → Prop) → Prop
  | .d d, ρ, k => k (pt ρ i (.vl d))
  | .n s, ρ, k => k (pt ρ i s)
  | .o j, ρ, k => (match gt ρ j with
    | .ow ds => k (pt (pt ρ j (.vl (.lst ds))) i (.vl (.lst ds)))
    | .vl d => k (pt ρ i (.vl d))
    | .ex C fs => k (pt ρ i (.ex C fs))
    | _ => False)
  | .t _, _, _ => False
def aSet (i : Nat) (x : AE) : AS := fun e ρ => x ρ fun r ρ1 => stS i r ρ1 e.nx
theorem set_ok {i : Nat} (hi : pr i = false) (h : TEok K te ae) : TSok K pr (fun D σ H => te σ H fun v H' => D.nx (σ.set i (some v)) H') (aSet i ae) := by
  intro F σ ρ H D e hp r ha k
  refine h F σ ρ H _ _ r ha fun r1 ρ1 v H1 h1 o => ?_
  have np := nopin hp hi
  cases r1 with
  | d d => exact k.nx _ _ _ h1 (o.1.set o.2.2 np)
  | t n => exact h1.elim
  | n s =>
    obtain ⟨Hb, l, u, a1, a2, a3, a4, a5, rfl, rfl⟩ := o
    exact k.nx _ _ _ h1 (a1.setF a3 a4 a5 np)
  | o j =>
    obtain ⟨r1, k1, ej⟩ := o
    have h2 : (match gt ρ1 j with
      | .ow ds => e.nx (pt (pt ρ1 j (.vl (.lst ds))) i (.vl (.lst ds)))
      | .vl d => e.nx (pt ρ1 i (.vl d))
      | .ex C fs => e.nx (pt ρ1 i (.ex C fs))
      | _ => False) := h1
    clear h1
    split at h2
    · rename_i ds hg
      obtain ⟨l, el, r2, k2, rd⟩ := r1.frz hg
      rw [ej] at el
      injection el with el; injection el with el; subst el
      exact k.nx _ _ _ h2 (r2.set rd np)
    · rename_i d hg
      have q := r1.sl j
      rw [hg] at q
      obtain ⟨x, e1, e2⟩ := q
      rw [ej] at e1
      injection e1 with e1; injection e1 with e1; subst e1
      exact k.nx _ _ _ h2 (r1.set e2 np)
    · rename_i C fs hg
      have q := r1.sl j
      rw [hg, ej] at q
      exact k.nx _ _ _ h2 (r1.setS rfl q np)
    · exact h2.elim
theorem sok_set {i : Nat} (h : TEok K te ae) (hi : pr i = false) : TSok K pr (tAsg te (gName i)) (aSet i ae) := set_ok hi h
theorem sok_setC {i n : Nat} {js : List Nat} {wi : TI} {g : TG} {tc : TT} (h : TEok K (tComp n js wi g tc te) ae) (hi : pr i = false) : TSok K pr (fun D σ H => tComp n js wi g tc te σ H fun v H' => D.nx (σ.set i (some v)) H') (aSet i ae) := set_ok hi h
def aAsg (x : AE) (g : AG) : AS := fun e ρ => x ρ fun r ρ1 => sto [r.frz] ρ1 fun ds ρ2 => match ds with
  | [d] => g d ρ2 e.nx
  | _ => False
theorem sok_asg {g : TG} {ag : AG} (h : TEok K te ae) (hg : TGok K pr g ag) : TSok K pr (tAsg te g) (aAsg ae ag) := by
  intro F σ ρ H D e hp r ha k
  refine h F σ ρ H _ _ r ha fun r1 ρ1 v H1 h1 o => ?_
  obtain ⟨r', k1, i1⟩ := o.inF
  obtain ⟨ds, ρ2, h2, r2, k2, rd⟩ := sto_ok r' (.cons i1 .nil) h1
  split at h2
  · rename_i d
    unfold RepDs at rd
    exact hg F σ ρ2 H1 v d _ _ hp r2 rd.1 h2 fun σ3 ρ3 h3 r3 _ _ _ => k.nx _ _ _ h3 r3
  · exact h2.elim
@[irreducible] def setI (es : List D) (k : Int) (d : D) (q : List D → Prop) : Prop := match ixN es.length k with
  | some p => q (es.set p d)
  | none => False
theorem setI_inv {es : List D} {k : Int} {d : D} {q : List D → Prop} (h : setI es k d q) : ∃ p, ixN es.length k = some p ∧ q (es.set p d) := by
  unfold setI at h
  split at h
  · rename_i p e; exact ⟨p, e, h⟩
  · exact h.elim
theorem setI_nat {es : List D} {k : Nat} {d : D} {q : List D → Prop} (h : k < es.length) (hq : q (es.set k d)) : setI es ((k : Nat) : Int) d q := by
  unfold setI ixN
  rw [if_pos (by omega), if_pos (by omega), Int.toNat_natCast]
  exact hq
def aSetI (x o i : AE) : AS := fun e ρ => x ρ fun r ρ1 => sto [r.frz] ρ1 fun ds ρ2 => o ρ2 fun r2 ρ3 => match r2 with
  | .o j => i ρ3 fun r3 ρ4 => (match r3, gt ρ4 j, ds with
    | .d (.int k), .ow es, [d] => setI es k d fun es' => e.nx (pt ρ4 j (.ow es'))
    | _, _, _ => False)
  | _ => False
theorem RepDs.set {H : Hp} : ∀ {vs : List V} {ds : List D} {v : V} {d : D} (p : Nat), RepDs K H vs ds → RepD K H v d → RepDs K H (vs.set p v) (ds.set p d)
  | [], [], _, _, p, h, _ => by simp [RepDs.nil]
  | v :: vs, d :: ds, _, _, 0, h, q => by unfold RepDs at h; exact .cons q h.2
  | v :: vs, d :: ds, _, _, p + 1, h, q => by unfold RepDs at h; exact .cons h.1 (RepDs.set p h.2 q)
  | [], d :: ds, _, _, _, h, _ => by unfold RepDs at h; exact h.elim
  | v :: vs, [], _, _, _, h, _ => by unfold RepDs at h; exact h.elim
theorem sok_setI {to ti : TE} {ao ai : AE} (h : TEok K te ae) (ho : TEok K to ao) (hi : TEok K ti ai) : TSok K pr (tAsg te (gSub to ti rSetL)) (aSetI ae ao ai) := by
  intro F σ ρ H D e hp r ha k
  refine h F σ ρ H _ _ r ha fun r1 ρ1 v H1 h1 o => ?_
  obtain ⟨r', k1, i1⟩ := o.inF
  obtain ⟨ds, ρ2, h2, r2, k2, rd⟩ := sto_ok r' (.cons i1 .nil) h1
  refine ho F σ ρ2 H1 _ _ r2 h2 fun r3 ρ3 x H3 h3 o3 => ?_
  obtain ⟨r3', k3, i3⟩ := o3.inF
  split at h3
  · rename_i j
    have ej : σ[j]? = some (some x) := i3
    refine hi F σ ρ3 H3 _ _ r3' h3 fun r4 ρ4 y H4 h4 o4 => ?_
    obtain ⟨r4', k4, i4⟩ := o4.inF
    split at h4
    · rename_i d hg
      obtain ⟨p, hx, h4⟩ := setI_inv h4
      have q := r4'.sl j
      rw [hg, ej] at q
      obtain ⟨l, us, e1, hl, rd'⟩ := q
      injection e1 with e1; injection e1 with e1; subst e1
      unfold RepDs at rd
      have rd4 := (RepD.same rd.1 (k3.trans k4).vis)
      have hw := r4'.write (i := j) (l := l) (o := .lst (us.set p v)) (s := .ow _) (by rw [hg]; rfl) ej rfl ⟨l, _, rfl, upd_same, rd'.set p rd4⟩
      exact ⟨l, us, _, p, rfl, i4.int, hl, by rw [rd'.length]; exact hx, k.nx _ _ _ h4 hw.1⟩
    · exact h4.elim
  · exact h3.elim
def aAug (i : Nat) (x : AE) (f : Int → Int → Int) : AS := fun e ρ => match gt ρ i with
  | .vl (.int p) => x ρ fun r ρ1 => (match r with
    | .d (.int y) => e.nx (pt ρ1 i (.vl (.int (f p y))))
    | _ => False)
  | _ => False
theorem sok_aug {i : Nat} {f : Int → Int → Int} (h : TEok K te ae) (hi : pr i = false) : TSok K pr (tAug i te (ipI f)) (aAug i ae f) := by
  intro F σ ρ H D e hp r ha k
  unfold aAug at ha
  split at ha
  · rename_i p hg
    have q := r.sl i
    rw [hg] at q
    obtain ⟨x, e1, e2⟩ := q
    unfold RepD at e2; subst e2
    refine ⟨_, e1, h F σ ρ H _ _ r ha fun r1 ρ1 v H1 h1 o => ?_⟩
    obtain ⟨r', k1, i1⟩ := o.inF
    split at h1
    · exact ⟨_, _, rfl, i1.int, k.nx _ _ _ h1 (r'.set (by unfold RepD; rfl) (nopin hp hi))⟩
    · exact h1.elim
  · exact ha.elim
def whA (c : AT) (b : AS) (e : AEnds) : Nat → En → Prop
  | 0, _ => False
  | n + 1, ρ => c ρ fun k ρ1 => if k = true then b { nx := whA c b e n, ct := whA c b e n, bk := e.nx, rt := e.rt } ρ1 else e.nx ρ1
def aWhile (c : AT) (b : AS) : AS := fun e ρ => ∃ n, whA c b e n ρ
theorem sok_while (hc : TTok K tt at') (hb : TSok K pr t a) : TSok K pr (tWhile tt t) (aWhile at' a) := by
  intro F σ ρ H D e hp r ha k
  obtain ⟨n, ha⟩ := ha
  refine ⟨fun m σ H => ∃ ρ, Rel K F σ ρ H ∧ whA at' a e m ρ, ⟨n, ρ, r, ha⟩, fun m σ H ⟨ρ, r, h⟩ => ?_⟩
  cases m with
  | zero => exact h.elim
  | succ m =>
    refine hc F σ ρ H _ _ r h fun c ρ1 H1 h1 r1 k1 => ?_
    cases c with
    | false => exact k.nx _ _ _ h1 r1
    | true =>
      refine ⟨fun σ' H' => ∃ ρ', Rel K F σ' ρ' H' ∧ whA at' a e m ρ', fun σ' H' h' => ⟨m, Nat.lt_succ_self m, h'⟩, ?_⟩
      exact hb F σ ρ1 H1 _ _ hp r1 h1 ⟨fun σ' ρ' H' h' r' => ⟨ρ', r', h'⟩, k.nx, fun σ' ρ' H' h' r' => ⟨ρ', r', h'⟩, k.rt⟩
abbrev AI := En → (List D → (En → Prop) → En → Prop) → Prop
def WkAt (K : PySem.W.Frag) (S : Addr → Prop) (H : Hp) (J : It) (ds : List D) : Prop := ∀ k : Nat, (∀ d, ds[k]? = some d → J.go k H ∧ ∀ x H', J.yld k H x H' → Same H H' ∧ RepD K (hid H' S) x d) ∧ (ds.length ≤ k → J.stop k H)
def TIok (K : PySem.W.Frag) (pin : Nat → Bool) (wi : TI) (ai : AI) : Prop := ∀ F σ ρ H q Rk, Rel K F σ ρ H → ai ρ q → (∀ ds c ρ' J H', q ds c ρ' → Rel K F σ ρ' H' → Kp σ ρ ρ' H H' →
  (∀ σ2 ρ2 H2, Same (hid H' (hs F σ ρ')) (hid H2 (hs F σ2 ρ2)) → (∀ i, SvOk K (hid H2 (hs F σ2 ρ2)) H2 σ2[i]? (gt ρ2 i)) → (∀ j a, pin j = true → σ[j]? = some (some (.ref a)) → σ2[j]? = some (some (.ref a))) → (∀ a, hs F σ2 ρ2 a → Nt H2 a) → c ρ2 → WkAt K (hs F σ2 ρ2) H2 J ds) → Rk J H') → wi σ H Rk
def rngD (lo : Int) (n : Nat) : List D := (List.range n).map fun (i : Nat) => D.int (lo + (i : Nat))
theorem rngD_len (lo : Int) (n : Nat) : (rngD lo n).length = n := by simp [rngD]
theorem wk_rng {S : Addr → Prop} {H : Hp} {lo : Int} {n : Nat} : WkAt K S H (Itr lo n) (rngD lo n) := by
  intro k
  constructor
  · intro d h
    unfold rngD at h
    rw [List.getElem?_map] at h
    obtain ⟨j, e1, e2⟩ := Option.map_eq_some_iff.mp h
    have lt : k < n := by
      rcases Nat.lt_or_ge k n with q | q
      · exact q
      · rw [List.getElem?_eq_none (by simpa using q)] at e1; cases e1
    rw [List.getElem?_range lt] at e1
    cases e1
    refine ⟨lt, fun x H' z => ⟨z.1 ▸ Same.refl H, ?_⟩⟩
    rw [z.2, ← e2]
    unfold RepD; rfl
  · intro h; rw [rngD_len] at h; exact h
def aRng1 (as : AA) : AI := fun ρ q => as ρ fun rs ρ1 => match rs with
  | [.d (.int j)] => (-(2 ^ 62) ≤ j ∧ j < 2 ^ 62) ∧ q (rngD 0 j.toNat) (fun _ => True) ρ1
  | _ => False
theorem tiok_rng1 {pin : Nat → Bool} {ta : TA} {as : AA} (h : TAok K ta as) : TIok K pin (iRng1 ta) (aRng1 as) := by
  intro F σ ρ H q Rk r ha k
  refine h F σ ρ H _ _ r ha fun rs ρ1 vs H1 h1 r1 i1 k1 => ?_
  split at h1
  · obtain ⟨x, rfl, i⟩ := i1.one
    exact ⟨_, by rw [i.int], h1.1.1, h1.1.2, k _ _ _ _ _ h1.2 r1 k1 fun _ _ _ _ _ _ _ _ => wk_rng⟩
  · exact h1.elim
def iSeq (K : PySem.W.Frag) (tl : TE) : TI := fun σ H R => tl σ H fun x H1 => ∃ a, x = .ref a ∧ (((∃ xs, SqL K H1 a xs) ∧ R (Itl K a) H1) ∨ ((∃ xs, SqT K H1 a xs) ∧ R (Itt K a) H1))
theorem pi_seq {X : Cx} {tg l : Expr} {tl : TE} (hl : PE X l tl) : PI X tg l (iSeq X.K tl) := by
  intro pins s σ H R I h
  refine thn (hl pins s σ H _ I h) fun v s1 ⟨x, H1, I1, r1, q1⟩ => ?_
  obtain ⟨a, e, ⟨⟨xs, hq⟩, q⟩ | ⟨⟨xs, hq⟩, q⟩⟩ := q1
  · subst e
    cases r1
    obtain ⟨its, rv, p, hz⟩ := I1.list hq
    refine wpAny_pyIter_list p.isList ?_
    refine ⟨s1.heap.objs.size, [s1.heap.objs.size], _, _, H1, rfl, I1.kept (t' := s1.toks) fun b o e => Heap.get?_push_of_some _ e, turn_list a _, ⟨_, Heap.get?_push_size _ rfl, rfl, rfl⟩, fun b hb => ?_, q⟩
    have e : b = s1.heap.objs.size := by simpa using hb
    subst e
    exact I1.fpOk (Nat.le_refl _) (I1.hok.fresh (Nat.le_refl _))
  · subst e
    cases r1
    obtain ⟨its, rv, p, hz⟩ := I1.tuple hq
    refine wpAny_pyIter_tuple (show s1.heap.IsTuple a its.toArray from p) ?_
    refine ⟨s1.heap.objs.size, [s1.heap.objs.size], _, _, H1, rfl, I1.kept (t' := s1.toks) fun b o e => Heap.get?_push_of_some _ e, turn_tuple a _, ⟨_, Heap.get?_push_size _ rfl, rfl, rfl⟩, fun b hb => ?_, q⟩
    have e : b = s1.heap.objs.size := by simpa using hb
    subst e
    exact I1.fpOk (Nat.le_refl _) (I1.hok.fresh (Nat.le_refl _))
theorem pi_seqK (K : PySem.W.Frag) {X : Cx} {tg l : Expr} {tl : TE} (hl : PE X l tl) (hK : X.K = K := by rfl) : PI X tg l (iSeq K tl) := by subst hK; exact pi_seq hl
theorem wk_lst {S : Addr → Prop} {H : Hp} {a : Addr} {vs : List V} {ds : List D} (h : SqL K H a vs) (rd : RepDs K (hid H S) vs ds) : WkAt K S H (Itl K a) ds := by
  intro k
  constructor
  · intro d e
    obtain ⟨v, e1, rv⟩ := rd.get e
    refine ⟨⟨vs, v, h, e1⟩, fun x H' z => ⟨z.1 ▸ Same.refl H, ?_⟩⟩
    have := z.2 vs h
    rw [e1] at this; cases this; rw [z.1]; exact rv
  · intro z; exact ⟨vs, h, by rw [rd.length]; exact z⟩
theorem wk_tup {S : Addr → Prop} {H : Hp} {a : Addr} {vs : List V} {ds : List D} (h : SqT K H a vs) (rd : RepDs K (hid H S) vs ds) : WkAt K S H (Itt K a) ds := by
  intro k
  constructor
  · intro d e
    obtain ⟨v, e1, rv⟩ := rd.get e
    refine ⟨⟨vs, v, h, e1⟩, fun x H' z => ⟨z.1 ▸ Same.refl H, ?_⟩⟩
    have := z.2 vs h
    rw [e1] at this; cases this; rw [z.1]; exact rv
  · intro z; exact ⟨vs, h, by rw [rd.length]; exact z⟩
def aSeqI (pin : Nat → Bool) (x : AE) : AI := fun ρ q => x ρ fun r ρ1 => match r.frz with
  | .d (.lst ds) => q ds (fun _ => True) ρ1
  | .d (.tup ds) => q ds (fun _ => True) ρ1
  | .o i => (match gt ρ1 i with
    | .ow ds => pin i = true ∧ q ds (fun ρ2 => gt ρ2 i = .ow ds) ρ1
    | _ => False)
  | _ => False
theorem tiok_seq {pin : Nat → Bool} (h : TEok K te ae) : TIok K pin (iSeq K te) (aSeqI pin ae) := by
  intro F σ ρ H q Rk r ha k
  refine h F σ ρ H _ _ r ha fun r1 ρ1 x H1 h1 o1 => ?_
  obtain ⟨r', k1, i1⟩ := o1.inF
  split at h1
  · rename_i ds e
    rw [e] at i1
    have rd : RepD K _ x (.lst ds) := i1
    unfold RepD at rd
    obtain ⟨a, vs, rfl, sq, rd⟩ := rd
    refine ⟨a, rfl, .inl ⟨⟨vs, hid_sub.seq (StL.sq sq)⟩, k _ _ _ _ _ h1 r' k1 fun σ2 ρ2 H2 sm _ _ _ _ => ?_⟩⟩
    exact wk_lst (hid_sub.seq (sm.seq (StL.sq sq))) (rd.same sm)
  · rename_i ds e
    rw [e] at i1
    have rd : RepD K _ x (.tup ds) := i1
    unfold RepD at rd
    obtain ⟨a, vs, rfl, sq, rd⟩ := rd
    refine ⟨a, rfl, .inr ⟨⟨vs, hid_sub.seqT sq.sq⟩, k _ _ _ _ _ h1 r' k1 fun σ2 ρ2 H2 sm _ _ _ _ => ?_⟩⟩
    exact wk_tup (hid_sub.seqT (sm.seqT sq.sq)) (rd.same sm)
  · rename_i i e
    rw [e] at i1
    have ei : σ[i]? = some (some x) := i1
    split at h1
    · rename_i ds hg
      have s := r'.sl i
      rw [hg, ei] at s
      obtain ⟨a, vs, e1, hl, rd⟩ := s
      injection e1 with e1; injection e1 with e1; subst e1
      refine ⟨a, rfl, .inl ⟨⟨vs, SqL.of hl⟩, k _ _ _ _ _ h1.2 r' k1 fun σ2 ρ2 H2 sm sv pn _ hc => ?_⟩⟩
      have s2 := sv i
      rw [hc, pn i a h1.1 ei] at s2
      obtain ⟨a', vs', e2, hl', rd'⟩ := s2
      injection e2 with e2; injection e2 with e2; injection e2 with e2; subst e2
      exact wk_lst (SqL.of hl') rd'
    · exact h1.elim
  · exact h1.elim
def forA (c : En → Prop) (g : AG) (b : AS) (e : AEnds) : List D → En → Prop
  | [], ρ => c ρ ∧ e.nx ρ
  | d :: ds, ρ => c ρ ∧ g d ρ fun ρ1 => b { nx := forA c g b e ds, ct := forA c g b e ds, bk := e.nx, rt := e.rt } ρ1
def aFor (i : AI) (g : AG) (b : AS) : AS := fun e ρ => i ρ fun ds c ρ1 => forA c g b e ds ρ1
theorem sok_for {pin : Nat → Bool} {wi : TI} {ai : AI} {g : TG} {ag : AG} (hi : TIok K pin wi ai) (hg : TGok K (fun j => pr j || pin j) g ag) (hb : TSok K (fun j => pr j || pin j) t a) : TSok K pr (tFor wi g t) (aFor ai ag a) := by
  intro F σ ρ H D e hp r ha k
  refine hi F σ ρ H _ _ r ha fun ds c ρ1 J H1 h1 r1 k1 wk => ?_
  have hp' : ∀ i a, (rebase F σ ρ1 H1 pin).pin i a → (pr i || pin i) = true := fun i a h => by
    rcases h with h | h | h
    · rw [hp i a (.inl h)]; rfl
    · rw [hp i a (.inr h)]; rfl
    · rw [h.1]; cases pr i <;> rfl
  have ek : EndOk K (rebase F σ ρ1 H1 pin) D e := ⟨fun _ _ _ h' r' => k.nx _ _ _ h' (r1.unbase r').1, fun _ _ _ h' r' => k.bk _ _ _ h' (r1.unbase r').1, fun _ _ _ h' r' => k.ct _ _ _ h' (r1.unbase r').1, fun _ _ _ _ _ h' r' => k.rt _ _ _ _ _ h' (RelR.unbase r1 r')⟩
  refine ⟨fun i m σ' H' => ∃ ρ', m = ds.length - i ∧ i ≤ ds.length ∧ Rel K (rebase F σ ρ1 H1 pin) σ' ρ' H' ∧ forA c ag a e (ds.drop i) ρ', ⟨ds.length, ρ1, rfl, Nat.zero_le _, r1.rebase pin, h1⟩, ?_⟩
  rintro i m σ' H' ⟨ρ', rfl, hl, r', h'⟩
  have w : c ρ' → WkAt K (hs F σ' ρ') H' J ds := fun hc => wk σ' ρ' H' (r1.unbase r').2 r'.sl (fun j x hj ej => r'.mi j x (.inr (.inr ⟨hj, ej⟩))) (fun a z => hs_nt r' z) hc
  rcases Nat.lt_or_ge i ds.length with q | q
  · right
    rw [List.drop_eq_getElem_cons q] at h'
    unfold forA at h'
    obtain ⟨hc, h'⟩ := h'
    obtain ⟨go, yld⟩ := (w hc i).1 ds[i] (List.getElem?_eq_getElem q)
    refine ⟨go, fun σ2 H2 => ∃ ρ2, Rel K (rebase F σ ρ1 H1 pin) σ2 ρ2 H2 ∧ forA c ag a e (ds.drop (i + 1)) ρ2, fun σ2 H2 ⟨ρ2, r2, h2⟩ => ⟨ds.length - (i + 1), by omega, ρ2, rfl, q, r2, h2⟩, fun x H2 hy => ?_⟩
    obtain ⟨sm, rd⟩ := yld x H2 hy
    refine hg _ σ' ρ' _ x _ _ _ hp' (r'.grow sm) rd h' fun σ3 ρ3 h3 r3 _ _ _ => ?_
    exact hb _ σ3 ρ3 _ _ _ hp' r3 h3 ⟨fun σ' ρ' H' h' r' => ⟨ρ', r', h'⟩, ek.nx, fun σ' ρ' H' h' r' => ⟨ρ', r', h'⟩, ek.rt⟩
  · left
    rw [List.drop_eq_nil_of_le q] at h'
    unfold forA at h'
    obtain ⟨hc, h'⟩ := h'
    exact ⟨(w hc i).2 q, ek.nx _ _ _ h' r'⟩
end
end L2
set_option Elab.async false
set_option linter.all false
set_option maxRecDepth 100000
namespace L2
open PySem PySem.Spec PyProof.Rows
def blkE (n : Nat) (js : List Nat) (ρ : En) : En := List.replicate n .un ++ js.map (gt ρ)
def blkR (n : Nat) (js : List Nat) : List R := List.replicate n (R.t "") ++ js.map R.o
theorem blkR_slots (n : Nat) (js : List Nat) (ρ : En) : (blkR n js).map (slotR ρ) = blkE n js ρ := by
  unfold blkR blkE
  rw [List.map_append, List.map_replicate, List.map_map]
  rfl
theorem blkR_dis (js : List Nat) : ∀ n, dis (blkR n js) = dis (js.map R.o)
  | 0 => rfl
  | n + 1 => by
    show dis (R.t "" :: blkR n js) = _
    exact blkR_dis js n
theorem blkR_back (js : List Nat) (ρ : En) (n : Nat) : ∀ ss : En, ss.length = n + js.length → back ρ (blkR n js) ss = back ρ (js.map R.o) (ss.drop n) := by
  induction n with
  | zero => intro ss _; rfl
  | succ n ih =>
    intro ss h
    cases ss with
    | nil => simp at h; omega
    | cons s ss => exact ih ss (by simp at h; omega)
theorem blkE_own {n : Nat} {js : List Nat} {ρ : En} {i : Nat} (h : (gt (blkE n js ρ) i).own = true) : n ≤ i := by
  rcases Nat.lt_or_ge i n with q | q
  · exfalso
    have : ∀ (n i : Nat) (x : En), i < n → gt (List.replicate n Sv.un ++ x) i = .un := by
      intro n
      induction n with
      | zero => intro i x h; omega
      | succ n ih =>
        intro i x h
        cases i with
        | zero => rfl
        | succ i => exact ih i x (by omega)
    unfold blkE at h
    rw [this n i _ q] at h
    cases h
  · exact q
section
variable {K : PySem.W.Frag} {F : Fr} {σ σ' : St} {ρ ρ' : En} {H H' : Hp}
theorem blk_srcs (n : Nat) (js : List Nat) : Srcs K F σ ρ H (bst n σ js) (blkR n js) := by
  unfold bst blkR
  induction n with
  | zero =>
    induction js with
    | nil => exact .nil
    | cons j js ih => exact .cons rfl ih
  | succ n ih => exact .cons trivial ih
theorem gt_drop : ∀ (n i : Nat) (ρ : En), gt (ρ.drop n) i = gt ρ (n + i)
  | 0, i, ρ => by simp
  | n + 1, i, [] => by simp [gt]
  | n + 1, i, s :: ρ => by rw [List.drop_succ_cons, gt_drop n i ρ, Nat.add_right_comm]; rfl
theorem gt_pad : ∀ (n i : Nat) (x : En), gt (List.replicate n Sv.un ++ x) i = if i < n then .un else gt x (i - n)
  | 0, i, x => by simp
  | n + 1, 0, x => by simp [List.replicate_succ, gt]
  | n + 1, i + 1, x => by
    show gt (List.replicate n Sv.un ++ x) i = _
    rw [gt_pad n i x]
    by_cases h : i < n
    · rw [if_pos h, if_pos (by omega)]
    · rw [if_neg h, if_neg (by omega)]; congr 1; omega
theorem Rel.forget {n : Nat} (r : Rel K F σ ρ H) (hn : n ≤ σ.length) (hp : ∀ i a, F.pin i a → n ≤ i) : Rel K F (List.replicate n none ++ σ.drop n) (List.replicate n .un ++ ρ.drop n) H ∧ Same (hid H (hs F σ ρ)) (hid H (hs F (List.replicate n none ++ σ.drop n) (List.replicate n .un ++ ρ.drop n))) := by
  have g : ∀ i, gt (List.replicate n .un ++ ρ.drop n) i = if i < n then .un else gt ρ i := fun i => by
    rw [gt_pad]
    split
    · rfl
    · rw [gt_drop]; congr 1; omega
  have s : ∀ i, n ≤ i → (List.replicate n none ++ σ.drop n)[i]? = σ[i]? := fun i h => by
    rw [List.getElem?_append_right (by simpa using h), List.length_replicate, List.getElem?_drop]
    congr 1; omega
  have own' : ∀ i, (gt (List.replicate n .un ++ ρ.drop n) i).own = true → n ≤ i ∧ (gt ρ i).own = true := fun i h => by
    rw [g] at h
    split at h
    · cases h
    · exact ⟨by omega, h⟩
  have sub : ∀ a, owned (List.replicate n none ++ σ.drop n) (List.replicate n .un ++ ρ.drop n) a → owned σ ρ a := fun a ⟨i, hi, e⟩ => by
    obtain ⟨h1, h2⟩ := own' i hi
    rw [s i h1] at e
    exact ⟨i, h2, e⟩
  have vis : Same (hid H (hs F σ ρ)) (hid H (hs F (List.replicate n none ++ σ.drop n) (List.replicate n .un ++ ρ.drop n))) := hid_same fun a o e n => ⟨e, fun z => n (z.imp id (sub a))⟩
  refine ⟨⟨by have := r.len; simp; omega, r.fr, r.zl, fun a h => r.zo a (sub a h), fun i a hi e => ?_, fun i a h => ?_, r.ml, r.ma, fun i j a hi hj ei ej => ?_, fun i => ?_⟩, vis⟩
  · obtain ⟨h1, h2⟩ := own' i hi
    rw [s i h1] at e
    exact r.ow i a h2 e
  · rw [s i (hp i a h)]; exact r.mi i a h
  · obtain ⟨h1, h2⟩ := own' i hi
    obtain ⟨h3, h4⟩ := own' j hj
    rw [s i h1] at ei
    rw [s j h3] at ej
    exact r.nd i j a h2 h4 ei ej
  · rw [g]
    split
    · trivial
    · rw [s i (by omega)]
      exact (r.sl i).keep vis fun _ _ _ _ e => e
end
def compA (n : Nat) (js : List Nat) (c : En → Prop) (g : AG) (tc : AT) (te : AE) (q : List D → En → Prop) : List D → List D → En → Prop
  | [], acc, ρ => c ρ ∧ q acc ρ
  | d :: ds, acc, ρ => c ρ ∧ g d (blkE n js ρ) fun ρ1 => tc ρ1 fun b ρ2 => if b = true then te ρ2 fun r ρ3 => sto [r.frz] ρ3 fun es ρ4 => compA n js c g tc te q ds (acc ++ es) (back ρ (js.map R.o) (ρ4.drop n)) else compA n js c g tc te q ds acc (back ρ (js.map R.o) (ρ2.drop n))
def aComp (n : Nat) (js : List Nat) (i : AI) (g : AG) (tc : AT) (te : AE) : AE := fun ρ q => i ρ fun ds c ρ1 => ds.length ≤ 1000000 ∧ compA n js c g tc te (fun acc ρ2 => q (.f acc) ρ2) ds [] ρ1
def aAll : AT := fun ρ q => q true ρ
section
variable {K : PySem.W.Frag}
theorem ttok_all : TTok K tAll aAll := fun F σ ρ H q Q r h k => k _ _ _ h r .refl
theorem sto_one {F : Fr} {σ : St} {ρ : En} {H : Hp} {v : V} {r : R} {q : List D → En → Prop} (a : Rel K F σ ρ H) (i : InF K F σ ρ H v r) (h : sto [r] ρ q) : ∃ d ρ', q [d] ρ' ∧ Rel K F σ ρ' H ∧ Kp σ ρ ρ' H H ∧ RepD K (hid H (hs F σ ρ')) v d := by
  obtain ⟨ds, ρ', h1, h2, h3, h4⟩ := sto_ok a (.cons i .nil) h
  cases ds with
  | nil => unfold RepDs at h4; exact h4.elim
  | cons d ds =>
    unfold RepDs at h4
    cases ds with
    | nil => exact ⟨d, ρ', h1, h2, h3, h4.1⟩
    | cons _ _ => obtain ⟨_, z⟩ := h4; unfold RepDs at z; exact z.elim
theorem tok_comp {n : Nat} {js : List Nat} {wi : TI} {g : TG} {tc : TT} {te : TE} {ai : AI} {ag : AG} {atc : AT} {ate : AE} (hi : TIok K (fun _ => true) wi ai) (hg : TGok K (fun j => decide (n ≤ j)) g ag) (hc : TTok K tc atc) (he : TEok K te ate)
    (hd : dis (js.map R.o) = true := by rfl) : TEok K (tComp n js wi g tc te) (aComp n js ai ag atc ate) := by
  intro F σ ρ H q Q r h k
  refine hi F σ ρ H _ _ r h fun ds c ρ1 J H1 h1 r1 k1 wk => ?_
  obtain ⟨hz, h1⟩ := h1
  have hd' : dis (blkR n js) = true := by rw [blkR_dis]; exact hd
  refine ⟨fun i m ys H' => ∃ ρ' acc, m = ds.length - i ∧ i ≤ ds.length ∧ Rel K F σ ρ' H' ∧ Kp σ ρ1 ρ' H1 H' ∧ RepDs K (hid H' (hs F σ ρ')) ys acc ∧ acc.length ≤ i ∧ compA n js c ag atc ate (fun acc ρ2 => q (.f acc) ρ2) (ds.drop i) acc ρ', ⟨ds.length, ρ1, [], rfl, Nat.zero_le _, r1, .refl, .nil, Nat.zero_le _, h1⟩, ?_⟩
  rintro i m ys H' ⟨ρ', acc, rfl, hl, r', k', rd, al, h'⟩
  have w : c ρ' → WkAt K (hs F σ ρ') H' J ds := fun hc => wk σ ρ' H' k'.vis r'.sl (fun _ _ _ e => e) (fun a z => hs_nt r' z) hc
  have yl : ys.length = acc.length := rd.length
  rcases Nat.lt_or_ge i ds.length with lt | ge
  · right
    rw [List.drop_eq_getElem_cons lt] at h'
    unfold compA at h'
    obtain ⟨hcc, h'⟩ := h'
    obtain ⟨go, yld⟩ := (w hcc i).1 ds[i] (List.getElem?_eq_getElem lt)
    refine ⟨go, smallS (by omega), fun zs H2 => ∃ ρ2 acc2, Rel K F σ ρ2 H2 ∧ Kp σ ρ1 ρ2 H1 H2 ∧ RepDs K (hid H2 (hs F σ ρ2)) zs acc2 ∧ acc2.length ≤ i + 1 ∧ compA n js c ag atc ate (fun acc ρ2 => q (.f acc) ρ2) (ds.drop (i + 1)) acc2 ρ2,
      fun zs H2 ⟨ρ2, acc2, a1, a2, a3, a4, a5⟩ => ⟨ds.length - (i + 1), by omega, ρ2, acc2, rfl, lt, a1, a2, a3, a4, a5⟩, fun x H2 hy => ?_⟩
    obtain ⟨sm, rx⟩ := yld x H2 hy
    have r0' := r'
    have k' : Kp σ ρ1 ρ' H1 H2 := k'.trans ⟨fun a o e _ => sm a o e, fun _ h => h⟩
    have rd : RepDs K (hid H2 (hs F σ ρ')) ys acc := rd.same (hid_same fun a o e n => ⟨sm a o e, n⟩)
    have r' := r0'.grow sm
    have src := blk_srcs (K := K) (F := F) (σ := σ) (ρ := ρ') (H := H2) n js
    have rb := r'.sub src hd'
    have hs2 := sub_hs r' src
    rw [blkR_slots] at rb hs2
    have pin : ∀ i a, (subFr F σ ρ' H2 (bst n σ js) (blkE n js ρ')).pin i a → decide (n ≤ i) = true := fun i a h => by
      rcases h with h | h
      · exact decide_eq_true (blkE_own h.1)
      · exact h.elim
    have hlen : (bst n σ js).length = n + js.length := bst_len
    have ret : ∀ σ2 ρ2 H3, Rel K (subFr F σ ρ' H2 (bst n σ js) (blkE n js ρ')) σ2 ρ2 H3 → σ2.length = (bst n σ js).length → σ2.drop n = capt σ js → (∀ i, (gt ρ2 i).own = true → (gt (blkE n js ρ') i).own = true) →
        Rel K F σ (back ρ' (js.map R.o) (ρ2.drop n)) H3 ∧ Kp σ ρ' (back ρ' (js.map R.o) (ρ2.drop n)) H2 H3 ∧ Same (hid H3 (hs (subFr F σ ρ' H2 (bst n σ js) (blkE n js ρ')) σ2 ρ2)) (hid H3 (hs F σ (back ρ' (js.map R.o) (ρ2.drop n)))) := fun σ2 ρ2 H3 rr hlen2 hdrop hown => by
      obtain ⟨f1, f2⟩ := rr.forget (n := n) (by omega) fun i a h => of_decide_eq_true (pin i a h)
      rw [hdrop] at f1 f2
      have f1' : Rel K (subFr F σ ρ' H2 (bst n σ js) ((blkR n js).map (slotR ρ'))) (bst n σ js) (List.replicate n .un ++ ρ2.drop n) H3 := by rw [blkR_slots]; exact f1
      have bk := r'.back src hd' f1' fun i hi => by
        rw [blkR_slots]
        rw [gt_pad] at hi
        split at hi
        · cases hi
        · rename_i hni
          rw [gt_drop, show n + (i - n) = i by omega] at hi
          exact hown i hi
      have ln : (List.replicate n Sv.un ++ ρ2.drop n).length = n + js.length := by
        have := rr.len
        simp; omega
      rw [blkR_back js ρ' n _ ln, List.drop_left' (by simp), blkR_slots] at bk
      exact ⟨bk.1, bk.2.1, f2.trans bk.2.2⟩
    refine hg _ (bst n σ js) (blkE n js ρ') H2 x _ _ _ pin rb (by rw [hs2]; exact rx) h' fun σ2 ρ2 h2 r2 l2 p2 o2 => ?_
    have hdrop : σ2.drop n = capt σ js := by
      have : σ2.drop n = (bst n σ js).drop n := by
        apply List.ext_getElem?
        intro i
        rw [List.getElem?_drop, List.getElem?_drop]
        exact p2 (n + i) (decide_eq_true (by omega))
      rw [this]
      unfold bst
      rw [List.drop_left' (by simp)]
    refine ⟨hdrop, hc _ σ2 ρ2 H2 _ _ r2 h2 fun b ρ3 H3 h3 r3 k3 => ?_⟩
    cases b with
    | false =>
      obtain ⟨b1, b2, _⟩ := ret σ2 ρ3 H3 r3 l2 hdrop fun i hi => (o2 i (k3.sb i hi)).1
      exact ⟨_, acc, b1, k'.trans b2, rd.same b2.vis, by omega, h3⟩
    | true =>
      refine he _ σ2 ρ3 H3 _ _ r3 h3 fun r4 ρ4 v H4 h4 o4 => ?_
      obtain ⟨r4', k4, i4⟩ := o4.inF
      obtain ⟨d, ρ5, h5, r5, k5, rv⟩ := sto_one r4' i4 h4
      obtain ⟨b1, b2, b3⟩ := ret σ2 ρ5 H4 r5 l2 hdrop fun i hi => (o2 i (k3.sb i (k4.sb i (k5.sb i hi)))).1
      exact ⟨_, acc ++ [d], b1, k'.trans b2, (rd.same b2.vis).append (.one (rv.same b3)), by simp; omega, h5⟩
  · left
    rw [List.drop_eq_nil_of_le ge] at h'
    unfold compA at h'
    obtain ⟨hcc, h'⟩ := h'
    refine ⟨(w hcc i).2 ge, small (by omega), fun l hl' => ?_⟩
    exact ((k.after k1).after k').new r' h' rd hl'
end
def outS : En → En → En
  | [], _ => []
  | s :: ss, ρ => (if s.own = true then gt ρ 0 else s) :: outS ss ρ.tail
theorem gt_tail (ρ : En) (i : Nat) : gt ρ.tail i = gt ρ (i + 1) := by cases ρ <;> rfl
theorem outS_len : ∀ (ss ρ : En), (outS ss ρ).length = ss.length
  | [], _ => rfl
  | s :: ss, ρ => by simp [outS, outS_len ss]
theorem gt_outS : ∀ (ss ρ : En) (i : Nat), gt (outS ss ρ) i = if (gt ss i).own = true then gt ρ i else gt ss i
  | [], ρ, i => by simp [outS, gt, Sv.own]
  | s :: ss, ρ, 0 => rfl
  | s :: ss, ρ, i + 1 => by
    show gt (outS ss ρ.tail) i = _
    rw [gt_outS ss ρ.tail i, gt_tail]
    rfl
def fin (pr : Nat → Bool) : R → En → Ko → Prop
  | .d d, ρ, k => k (.d d) ρ
  | .n s, ρ, k => k (.n s) ρ
  | .o i, ρ, k => (match gt ρ i with
    | .ow ds => if pr i = true then k (.d (.lst ds)) (pt ρ i (.vl (.lst ds))) else k (.n (.ow ds)) (pt ρ i .un)
    | .vl d => k (.d d) ρ
    | .dk kvs => if pr i = true then False else k (.n (.dk kvs)) (pt ρ i .un)
    | .dt kvs => if pr i = true then False else k (.n (.dt kvs)) (pt ρ i .un)
    | _ => False)
  | .t _, _, _ => False
def ownPr (pr : Nat → Bool) (ss : En) : Prop := ∀ i, (gt ss i).own = true → pr i = true
section
variable {K : PySem.W.Frag} {F : Fr} {σ σ' : St} {ρ ρ' : En} {H H' : Hp}
open Classical in
noncomputable def del (H : Hp) (l : Addr) : Hp := fun a => if a = l then none else H a
open Classical in
theorem del_same {l : Addr} : del H l l = none := by unfold del; rw [if_pos rfl]
open Classical in
theorem del_ne {a l : Addr} (h : a ≠ l) : del H l a = H a := by unfold del; rw [if_neg h]
theorem del_upd {l : Addr} {o : HO} (h : H l = some o) : upd (del H l) l o = H := by
  funext a
  by_cases e : a = l
  · subst e; rw [upd_same, h]
  · rw [upd_ne e, del_ne e]
theorem Rel.take (r : Rel K F σ ρ H) {i : Nat} (hi : (gt ρ i).own = true) (hm : ∀ a, ¬ F.pin i a) : ∃ l o, H l = some o ∧ σ[i]? = some (some (.ref l)) ∧ Rel K F σ (pt ρ i .un) (del H l) ∧ SvOk K (hid (del H l) (hs F σ (pt ρ i .un))) H (some (some (.ref l))) (gt ρ i) := by
  have s := r.sl i
  obtain ⟨l, o, el, hl⟩ := s.alive hi
  have own' : ∀ j, (gt (pt ρ i .un) j).own = true → i ≠ j ∧ (gt ρ j).own = true := fun j h => own_set rfl h
  have sub : ∀ a, owned σ (pt ρ i .un) a → owned σ ρ a ∧ a ≠ l := fun a ⟨j, hj, e⟩ => by
    obtain ⟨ij, hj⟩ := own' j hj
    exact ⟨⟨j, hj, e⟩, fun z => ij (r.nd i j l hi hj el (z ▸ e))⟩
  have ol : owned σ ρ l := ⟨i, hi, el⟩
  have vis : Same (hid H (hs F σ ρ)) (hid (del H l) (hs F σ (pt ρ i .un))) := hid_same fun a u e n => by
    have al : a ≠ l := fun z => n (.inr (z ▸ ol))
    exact ⟨by rw [del_ne al]; exact e, fun z => n (z.imp id fun z => (sub a z).1)⟩
  have h0 : F.H0 l = none := by
    rcases r.ow i l hi el with h | h
    · exact absurd (Or.inl h.1) (hm l)
    · exact h
  refine ⟨l, o, hl, el, ⟨by rw [pt_len, r.len], fun a u e n => ?_, fun a z => ?_, fun a h => r.zo a (sub a h).1, fun j a hj e => r.ow j a (own' j hj).2 e, r.mi, r.ml, fun a z => ?_, fun j k a hj hk ej ek => r.nd j k a (own' j hj).2 (own' k hk).2 ej ek, fun j => ?_⟩, ?_⟩
  · have al : a ≠ l := fun z => by rw [z, h0] at e; cases e
    rw [del_ne al]; exact r.fr a u e n
  · have al : a ≠ l := fun q => r.zo l ol (q ▸ z)
    unfold Nt; rw [del_ne al]; exact r.zl a z
  · have al : a ≠ l := fun q => r.ml a z (q ▸ h0)
    rw [del_ne al]; exact r.ma a z
  · by_cases ij : i = j
    · subst ij
      rw [gt_pt ρ i _ (own_lt hi)]; trivial
    · rw [gt_pt_ne ρ i j _ ij]
      refine (r.sl j).keep vis fun a u ho e h => ?_
      have al : a ≠ l := fun z => ij (r.nd i j l hi ho el (z ▸ e))
      rw [del_ne al]; exact h
  · rw [el] at s
    exact s.keep vis fun _ _ _ _ e => e
theorem Rel.out {vs : List V} {ss : En} {Z : Addr → Prop} (r0 : Rel K (F0 vs ss H Z) (vs.map some) ss H) (r : Rel K (F0 vs ss H Z) σ' ρ' H') :
    Rel K (F0 vs ss H Z) (vs.map some) (outS ss ρ') H' ∧ Same (hid H' (hs (F0 vs ss H Z) σ' ρ')) (hid H' (hs (F0 vs ss H Z) (vs.map some) (outS ss ρ'))) ∧ ∀ i, (gt (outS ss ρ') i).own = true → (gt ss i).own = true := by
  have own' : ∀ i, (gt (outS ss ρ') i).own = true → (gt ss i).own = true ∧ (gt ρ' i).own = true := fun i h => by
    rw [gt_outS] at h
    split at h
    · rename_i q; exact ⟨q, h⟩
    · rename_i q; exact absurd h q
  have same : ∀ i a, (gt ss i).own = true → (vs.map some)[i]? = some (some (.ref a)) → σ'[i]? = some (some (.ref a)) := fun i a h e => r.mi i a (.inl ⟨h, e⟩)
  have sub : ∀ a, owned (vs.map some) (outS ss ρ') a → owned σ' ρ' a ∧ owned (vs.map some) ss a := fun a ⟨i, hi, e⟩ => by
    obtain ⟨h1, h2⟩ := own' i hi
    exact ⟨⟨i, h2, same i a h1 e⟩, ⟨i, h1, e⟩⟩
  have v1 : Same (hid H' (hs (F0 vs ss H Z) σ' ρ')) (hid H' (hs (F0 vs ss H Z) (vs.map some) (outS ss ρ'))) := hid_same fun a o e n => ⟨e, fun z => n (z.imp id fun z => (sub a z).1)⟩
  have v2 : Same (hid H (hs (F0 vs ss H Z) (vs.map some) ss)) (hid H' (hs (F0 vs ss H Z) (vs.map some) (outS ss ρ'))) := hid_same fun a o e n => ⟨r.fr a o e fun z => n (.inr z), fun z => n (z.imp id fun z => (sub a z).2)⟩
  refine ⟨⟨by rw [outS_len, r0.len], r.fr, r.zl, fun a h => r.zo a (sub a h).1, fun i a hi e => .inl ⟨⟨(own' i hi).1, e⟩, i, (own' i hi).1, e⟩, r0.mi, r.ml, r.ma, fun i j a hi hj ei ej => r0.nd i j a (own' i hi).1 (own' j hj).1 ei ej, fun i => ?_⟩, v1, fun i h => (own' i h).1⟩
  rw [gt_outS]
  split
  · rename_i q
    obtain ⟨l, o, e1, e2⟩ := (r0.sl i).alive q
    have := same i l q e1
    rw [e1, ← this]
    exact (r.sl i).keep v1 fun _ _ _ _ e => e
  · rename_i q
    exact (r0.sl i).keep v2 fun l o ho => absurd ho q
theorem gt_app : ∀ (ρ : En) (n i : Nat), gt (ρ ++ List.replicate n .un) i = gt ρ i
  | [], n, i => by
    show gt (List.replicate n .un) i = .un
    induction n generalizing i with
    | zero => rfl
    | succ n ih => cases i with
      | zero => rfl
      | succ i => exact ih i
  | s :: ρ, n, 0 => rfl
  | s :: ρ, n, i + 1 => gt_app ρ n i
theorem Rel.ext (r : Rel K F σ ρ H) (n : Nat) : Rel K F (σ ++ List.replicate n none) (ρ ++ List.replicate n .un) H := by
  have s : ∀ {i a}, (gt ρ i).own = true → (σ ++ List.replicate n none)[i]? = some (some (V.ref a)) → σ[i]? = some (some (.ref a)) := fun {i a} h e => by
    rwa [List.getElem?_append_left (by rw [r.len]; exact own_lt h)] at e
  have sub : ∀ a, owned (σ ++ List.replicate n none) (ρ ++ List.replicate n .un) a → owned σ ρ a := fun a ⟨i, hi, e⟩ => by
    rw [gt_app] at hi
    exact ⟨i, hi, s hi e⟩
  have vis : Same (hid H (hs F σ ρ)) (hid H (hs F (σ ++ List.replicate n none) (ρ ++ List.replicate n .un))) := hid_same fun a o e n => ⟨e, fun z => n (z.imp id (sub a))⟩
  refine ⟨by simp [r.len], r.fr, r.zl, fun a h => r.zo a (sub a h), fun i a hi e => ?_, fun i a h => ?_, r.ml, r.ma, fun i j a hi hj ei ej => ?_, fun i => ?_⟩
  · rw [gt_app] at hi
    exact r.ow i a hi (s hi e)
  · have := r.mi i a h
    rw [List.getElem?_append_left (List.getElem?_eq_some_iff.mp this).1]; exact this
  · rw [gt_app] at hi hj
    exact r.nd i j a hi hj (s hi ei) (s hj ej)
  · rw [gt_app]
    have q := r.sl i
    rcases Nat.lt_or_ge i σ.length with lt | ge
    · rw [List.getElem?_append_left lt]
      exact q.keep vis fun _ _ _ _ e => e
    · rw [gt_out ρ i (by rw [← r.len]; exact ge)]; trivial
end
theorem DefN.aok {P : Program} {w : World} {K : PySem.W.Frag} {mg : Str → Option Value} {base : Heap} {x : Str} {st : Stmt} {N ps : List Str} {k : Nat} {a : AS} (D : DefN K mg x st ps) (Sc : FnScope N ps (defScope st)) (pr : Nat → Bool) (S : ASp)
    (hbody : ∀ (f : Addr) (cdv : Value) (A : Around) (outer : List Env) (s : Shared) (H : Hp) (E : XK), Room k (A.deeper (envOfC x (defScope st) s.heap.objs.size f cdv)) →
      ∃ t, PSs (cxOf CX0 P w K mg base N x (defScope st) f cdv A outer s H E).nox (defBody st) t ∧ TSok K pr t a)
    (hS : ∀ ss q, S ss q → ss.length = ps.length ∧ ownPr pr ss ∧ a ⟨fun ρ => q (.d .non) (outS ss ρ), fun r ρ => fin pr r ρ fun r' ρ' => q r' (outS ss ρ'), fun _ => False, fun _ => False⟩ (ss ++ List.replicate (N.length - ps.length) .un)) : OkN P w K mg base (k + 1) x ps (spA K S) := by
  have lenOk : ∀ vs H Q E, spA K S vs H Q E → vs.length = ps.length := fun vs H Q E h => by
    obtain ⟨ss, Z, q, r, hs', _⟩ := h
    have := r.len
    rw [List.length_map] at this
    rw [this]; exact (hS ss q hs').1
  refine D.ok Sc lenOk (fun f cdv A outer s H vs Q E hr h => ?_)
  have hl := lenOk _ _ _ _ h
  obtain ⟨ss, Z, q, r0, hs', post⟩ := h
  obtain ⟨h1, h2, h3⟩ := hS ss q hs'
  obtain ⟨t, ht, tok⟩ := hbody f cdv A outer s H E hr
  refine ⟨t, ht, ?_⟩
  have hp : ∀ i a, (F0 vs ss H Z).pin i a → pr i = true := fun i a h => by
    rcases h with h | h
    · exact h2 i h.1
    · exact h.elim
  unfold start
  rw [hl]
  have fin_d : ∀ σ' ρ' v H' d, q (.d d) (outS ss ρ') → Rel K (F0 vs ss H Z) σ' ρ' H' → RepD K (hid H' (hs (F0 vs ss H Z) σ' ρ')) v d → Q v H' := fun σ' ρ' v H' d hq r rd => by
    obtain ⟨o1, o2, o3⟩ := r0.out r
    exact post (.d d) _ v H' hq o3 (fun i z => nomatch z) ⟨o1, rd.same o2⟩
  refine tok (F0 vs ss H Z) _ _ H _ _ hp (r0.ext _) h3 ⟨fun σ' ρ' H' hq r => ?_, fun _ _ _ z => z.elim, fun _ _ _ z => z.elim, fun σ' ρ' rr v H' hq r => ?_⟩
  · exact fin_d σ' ρ' _ H' .non hq r (by unfold RepD; rfl)
  · cases rr with
    | d d => exact fin_d σ' ρ' v H' d hq r.1 r.2
    | t n => exact hq.elim
    | n sv =>
      obtain ⟨Hb, l, o, a1, a2, a3, a4, a5, a6⟩ := r
      obtain ⟨o1, o2, o3⟩ := r0.out a1
      exact post (.n sv) _ v H' hq o3 (fun i z => nomatch z) ⟨Hb, l, o, o1, a2, a3.keep o2 fun _ _ _ _ e => e, a4, a5, a6⟩
    | o i =>
      obtain ⟨r, ei⟩ := r
      have hq' : (match gt ρ' i with
        | .ow ds => if pr i = true then q (.d (.lst ds)) (outS ss (pt ρ' i (.vl (.lst ds)))) else q (.n (.ow ds)) (outS ss (pt ρ' i .un))
        | .vl d => q (.d d) (outS ss ρ')
        | .dk kvs => if pr i = true then False else q (.n (.dk kvs)) (outS ss (pt ρ' i .un))
        | .dt kvs => if pr i = true then False else q (.n (.dt kvs)) (outS ss (pt ρ' i .un))
        | _ => False) := hq
      clear hq
      split at hq'
      · rename_i ds hg
        split at hq'
        · obtain ⟨l, el, r2, k2, rd⟩ := r.frz hg
          rw [ei] at el
          injection el with el; injection el with el; subst el
          exact fin_d σ' _ _ H' _ hq' r2 rd
        · rename_i hpr
          have ho : (gt ρ' i).own = true := by rw [hg]; rfl
          obtain ⟨l, o, hl', el, r2, sv⟩ := r.take ho fun a z => hpr (hp i a z)
          rw [ei] at el
          injection el with el; injection el with el; subst el
          obtain ⟨o1, o2, o3⟩ := r0.out r2
          rw [hg] at sv
          refine post (.n (.ow ds)) _ _ H' hq' o3 (fun i z => nomatch z) ⟨del H' l, l, o, o1, rfl, ?_, del_same, (del_upd hl').symm, rfl⟩
          rw [del_upd hl']
          exact sv.keep o2 fun _ _ _ _ e => e
      · rename_i d hg
        have s := r.sl i
        rw [hg, ei] at s
        obtain ⟨x, e1, rd⟩ := s
        injection e1 with e1; injection e1 with e1; subst e1
        exact fin_d σ' ρ' _ H' d hq' r rd
      · rename_i kvs hg
        split at hq'
        · exact hq'.elim
        · rename_i hpr
          have ho : (gt ρ' i).own = true := by rw [hg]; rfl
          obtain ⟨l, o, hl', el, r2, sv⟩ := r.take ho fun a z => hpr (hp i a z)
          rw [ei] at el
          injection el with el; injection el with el; subst el
          obtain ⟨o1, o2, o3⟩ := r0.out r2
          rw [hg] at sv
          refine post (.n (.dk kvs)) _ _ H' hq' o3 (fun i z => nomatch z) ⟨del H' l, l, o, o1, rfl, ?_, del_same, (del_upd hl').symm, rfl⟩
          rw [del_upd hl']
          exact sv.keep o2 fun _ _ _ _ e => e
      · rename_i kvs hg
        split at hq'
        · exact hq'.elim
        · rename_i hpr
          have ho : (gt ρ' i).own = true := by rw [hg]; rfl
          obtain ⟨l, o, hl', el, r2, sv⟩ := r.take ho fun a z => hpr (hp i a z)
          rw [ei] at el
          injection el with el; injection el with el; subst el
          obtain ⟨o1, o2, o3⟩ := r0.out r2
          rw [hg] at sv
          refine post (.n (.dt kvs)) _ _ H' hq' o3 (fun i z => nomatch z) ⟨del H' l, l, o, o1, rfl, ?_, del_same, (del_upd hl').symm, rfl⟩
          rw [del_upd hl']
          exact sv.keep o2 fun _ _ _ _ e => e
      · exact hq'.elim
def SLaw : ASp := fun ss q => ∃ ns : List Int, ns.length ≤ 63 ∧ ss = [.sc ns] ∧ ∀ ss', q (.d (.bl true)) ss'
theorem law_of {P : Program} {w : World} {K : PySem.W.Frag} {mg : Str → Option Value} {base : Heap} {k : Nat} {x : Str} {ps : List Str} (h : OkN P w K mg base k x ps (spA K SLaw)) : OkN P w K mg base k x ps (spLaw K) := by
  obtain ⟨f, fd, a1, a2, a3, a4, g⟩ := h.ex
  refine ⟨f, fd, a1, a2, a3, a4, g.imp fun vs H Q E hq => ?_⟩
  obtain ⟨a, ns, rfl, sq, hl, k⟩ := hq
  refine ⟨[.sc ns], fun _ => False, fun r _ => r = .d (.bl true), ⟨rfl, fun a o e _ => e, fun a z => z.elim, fun a _ z => z, fun i a hi _ => ?_, fun i a h => ?_, fun a h => ?_, fun a h => ?_, fun i j a hi => ?_, fun i => ?_⟩, ⟨ns, hl, rfl, fun _ => rfl⟩, fun r ss' v H' e1 _ _ rr => ?_⟩
  · exfalso; cases i with
    | zero => cases hi
    | succ i => cases hi
  · rcases h with h | h
    · cases i with
      | zero => cases h.1
      | succ i => cases h.1
    · exact h.elim
  · obtain ⟨i, hi, _⟩ := h
    cases i with
    | zero => cases hi
    | succ i => cases hi
  · obtain ⟨i, hi, _⟩ := h
    cases i with
    | zero => cases hi
    | succ i => cases hi
  · exfalso; cases i with
    | zero => cases hi
    | succ i => cases hi
  · cases i with
    | succ i => trivial
    | zero =>
      refine ⟨a, rfl, ?_⟩
      refine (show Same H (hid H _) from fun b o e => hid_of (fun z => ?_) e).seq sq
      rcases z with z | ⟨i, hi, _⟩
      · exact z
      · cases i with
        | zero => cases hi
        | succ i => cases hi
  · subst e1
    obtain ⟨_, rd⟩ := rr
    unfold RepD at rd
    subst rd
    exact k H'
end L2
set_option Elab.async false
set_option linter.all false
set_option maxRecDepth 100000
namespace L2
open PySem PySem.Spec PyProof.Rows
def spDrawX (K : PySem.W.Frag) : Sp := fun vs H Q _ => ∃ (t c : Addr) (m sp lf : Int) (ns : List Int) (n : Nat), vs = [.ref t, .int m] ∧ H t = some (.dK (tapeK c sp lf)) ∧ SqL K H c (ns.map V.int) ∧ 0 ≤ sp ∧ sp ≤ n ∧ 0 ≤ lf ∧ n < 1000000000000 ∧ Dv m ∧
  ∀ (r : Nat) (sp' lf' : Int), (r : Int) < m → 0 ≤ sp' → sp' ≤ (n + 1 : Nat) → 0 ≤ lf' → Q (.int (r : Nat)) (upd H t (.dK (tapeK c sp' lf')))
def spTapeX (K : PySem.W.Frag) : Sp := fun vs H Q _ => ∃ (a : Addr) (ns : List Int), vs = [.ref a] ∧ SqL K H a (ns.map V.int) ∧
  ∀ t c, H t = none → H c = none → t ≠ c → Q (.ref t) (upd (upd H c (.lst ((ns.take 63).map V.int))) t (.dK (tapeK c 0 0)))
def STape : ASp := fun ss q => ∃ ns : List Int, ss = [.sc ns] ∧ q (.n (.tp 0)) [.sc ns]
def SDraw : ASp := fun ss q => ∃ (n : Nat) (m : Int), ss = [.tp n, .vl (.int m)] ∧ n < 1000000000000 ∧ Dv m ∧ ∀ r : Nat, (r : Int) < m → q (.d (.int r)) [.tp (n + 1), .vl (.int m)]
theorem OkN.imp {P : Program} {w : World} {K : PySem.W.Frag} {mg : Str → Option Value} {base : Heap} {k : Nat} {x : Str} {ps : List Str} {sp sp' : Sp} (h : OkN P w K mg base k x ps sp) (i : ∀ vs H Q E, sp' vs H Q E → sp vs H Q E) : OkN P w K mg base k x ps sp' := by
  obtain ⟨f, fd, a1, a2, a3, a4, g⟩ := h.ex
  exact ⟨f, fd, a1, a2, a3, a4, g.imp i⟩
theorem avals1 {vs : List V} {s : Sv} {F : Fr} {K : PySem.W.Frag} {H : Hp} (r : Rel K F (vs.map some) [s] H) : ∃ x, vs = [x] := by
  have := r.len
  match vs, this with
  | [x], _ => exact ⟨x, rfl⟩
theorem avals2 {vs : List V} {s s' : Sv} {F : Fr} {K : PySem.W.Frag} {H : Hp} (r : Rel K F (vs.map some) [s, s'] H) : ∃ x y, vs = [x, y] := by
  have := r.len
  match vs, this with
  | [x, y], _ => exact ⟨x, y, rfl⟩
theorem draw_of {K : PySem.W.Frag} (vs : List V) (H : Hp) (Q : VK) (E : XK) (h : spA K SDraw vs H Q E) : spDrawX K vs H Q E := by
  obtain ⟨ss, Z, q, r, ⟨n, m, rfl, hn, hm, hq⟩, post⟩ := h
  obtain ⟨x, y, rfl⟩ := avals2 r
  obtain ⟨t, c, ns, sp, lf, e0, ht, hc, h1, h2, h3⟩ := r.sl 0
  obtain ⟨y', e1, ry⟩ := r.sl 1
  unfold RepD at ry
  injection e0 with e0; injection e0 with e0; subst e0
  injection e1 with e1; injection e1 with e1
  subst e1 ry
  refine ⟨t, c, m, sp, lf, ns, n, rfl, ht, hid_sub.seq hc, h1, h2, h3, hn, hm, fun rr sp' lf' hr a1 a2 a3 => ?_⟩
  have hw := r.write (i := 0) (l := t) (o := .dK (tapeK c sp' lf')) (s := .tp (n + 1)) rfl rfl rfl ⟨t, c, ns, sp', lf', rfl, upd_same, hc, a1, a2, a3⟩
  refine post (.d (.int rr)) [.tp (n + 1), .vl (.int m)] _ _ (hq rr hr) (fun i h => ?_) (fun i z => nomatch z) ⟨hw.1, by unfold RepD; rfl⟩
  match i, h with
  | 0, _ => rfl
  | 1, h => cases h
  | i + 2, h => cases h
theorem tape_of {K : PySem.W.Frag} (vs : List V) (H : Hp) (Q : VK) (E : XK) (h : spA K STape vs H Q E) : spTapeX K vs H Q E := by
  obtain ⟨ss, Z, q, r, ⟨ns, rfl, hq⟩, post⟩ := h
  obtain ⟨x, rfl⟩ := avals1 r
  obtain ⟨a, e0, sq⟩ := r.sl 0
  injection e0 with e0; injection e0 with e0; subst e0
  refine ⟨a, ns, rfl, hid_sub.seq sq, fun t c ht hc htc => ?_⟩
  have rc := r.fresh (o := .lst ((ns.take 63).map V.int)) hc
  have kc : Kp ([V.ref a].map some) [.sc ns] [.sc ns] H (upd H c (.lst ((ns.take 63).map V.int))) := Kp.fresh hc
  have ht' : (upd H c (.lst ((ns.take 63).map V.int))) t = none := by rw [upd_ne htc]; exact ht
  refine post (.n (.tp 0)) _ _ _ hq (fun i h => h) (fun i z => nomatch z) ⟨_, t, _, rc, rfl, ⟨t, c, ns.take 63, 0, 0, rfl, upd_same, SqL.of (hid_of (fresh_vis r hc) upd_same), by decide, by decide, by decide⟩, ht', rfl, rfl⟩
section
variable {K : PySem.W.Frag} {F : Fr} {σ : St} {ρ ρ' : En} {H H' : Hp} {ta tb tc : TE} {a b c : AE} {rr rr' : R2} {g g' : R → R → AE}
def aChain (g g' : R → R → AE) (a b c : AE) : AE := fun ρ q => a ρ fun r1 ρ1 => b ρ1 fun r2 ρ2 => g r1.frz r2.frz ρ2 fun r3 ρ3 => match r3 with
  | .d (.bl k) => if k = true then c ρ3 fun r4 ρ4 => g' r2.frz r4.frz ρ4 q else q (.d (.bl false)) ρ3
  | _ => False
theorem tok_chain (ho : OpOk K rr g) (ho' : OpOk K rr' g') (ha : TEok K ta a) (hb : TEok K tb b) (hc : TEok K tc c) : TEok K (tChain rr rr' ta tb tc) (aChain g g' a b c) := by
  intro F σ ρ H q Q r h k
  refine ha F σ ρ H _ _ r h fun r1 ρ1 x H1 h1 o1 => ?_
  obtain ⟨r1', k1, i1⟩ := o1.inF
  refine hb F σ ρ1 H1 _ _ r1' h1 fun r2 ρ2 y H2 h2 o2 => ?_
  obtain ⟨r2', k2, i2⟩ := o2.inF
  refine ho F σ ρ2 H2 x y _ _ _ _ r2' (i1.keep k2) i2 h2 fun r3 ρ3 z H3 h3 o3 => ?_
  obtain ⟨r3', k3, i3⟩ := o3.inF
  split at h3
  · rename_i kk
    refine ⟨kk, i3.blv, ?_⟩
    cases kk with
    | false => exact (((k.after k1).after k2).after k3).bl r3' h3
    | true =>
      refine hc F σ ρ3 H3 _ _ r3' h3 fun r4 ρ4 w H4 h4 o4 => ?_
      obtain ⟨r4', k4, i4⟩ := o4.inF
      exact ho' F σ ρ4 H4 y w _ _ q Q r4' ((i2.keep k3).keep k4) i4 h4 ((((k.after k1).after k2).after k3).after k4)
  · exact h3.elim
def flatD : D → Bool
  | .tup _ => false
  | .lst _ => false
  | _ => true
def inD (d : D) (ds : List D) : Bool := ds.any fun e => eqD e d
@[irreducible] def gIn (neg : Bool) : R → R → AE := fun r1 r2 ρ q => match view ρ r1, view ρ r2 with
  | some d, some (.lst ds) => (flatD d = true ∧ ds.all flatD = true) ∧ q (.d (.bl (if neg then !inD d ds else inD d ds))) ρ
  | some d, some (.tup ds) => (flatD d = true ∧ ds.all flatD = true) ∧ q (.d (.bl (if neg then !inD d ds else inD d ds))) ρ
  | _, _ => False
theorem flat_rep {x : V} {d : D} (h : RepD K H x d) (f : flatD d = true) : flatV x = true := by
  cases d with
  | tup ds => cases f
  | lst ds => cases f
  | non => unfold RepD at h; subst h; rfl
  | bl b => unfold RepD at h; subst h; rfl
  | int b => unfold RepD at h; subst h; rfl
  | str b => unfold RepD at h; subst h; rfl
theorem eqV_rep {x y : V} {d e : D} (h : RepD K H x d) (h' : RepD K H y e) (f : flatD d = true) (f' : flatD e = true) : eqV x y = eqD d e := by
  cases d with
  | tup ds => cases f
  | lst ds => cases f
  | non => unfold RepD at h; subst h; cases e with
    | tup ds => cases f'
    | lst ds => cases f'
    | non => unfold RepD at h'; subst h'; simp [eqV, eqD]
    | bl b => unfold RepD at h'; subst h'; simp [eqV, eqD]
    | int b => unfold RepD at h'; subst h'; simp [eqV, eqD]
    | str b => unfold RepD at h'; subst h'; simp [eqV, eqD]
  | bl b => unfold RepD at h; subst h; cases e with
    | tup ds => cases f'
    | lst ds => cases f'
    | non => unfold RepD at h'; subst h'; simp [eqV, eqD]
    | bl b => unfold RepD at h'; subst h'; simp [eqV, eqD]
    | int b => unfold RepD at h'; subst h'; simp [eqV, eqD]
    | str b => unfold RepD at h'; subst h'; simp [eqV, eqD]
  | int b => unfold RepD at h; subst h; cases e with
    | tup ds => cases f'
    | lst ds => cases f'
    | non => unfold RepD at h'; subst h'; simp [eqV, eqD]
    | bl b => unfold RepD at h'; subst h'; simp [eqV, eqD]
    | int b => unfold RepD at h'; subst h'; simp [eqV, eqD]
    | str b => unfold RepD at h'; subst h'; simp [eqV, eqD]
  | str b => unfold RepD at h; subst h; cases e with
    | tup ds => cases f'
    | lst ds => cases f'
    | non => unfold RepD at h'; subst h'; simp [eqV, eqD]
    | bl b => unfold RepD at h'; subst h'; simp [eqV, eqD]
    | int b => unfold RepD at h'; subst h'; simp [eqV, eqD]
    | str b => unfold RepD at h'; subst h'; simp [eqV, eqD]
theorem in_rep {x : V} {d : D} (h : RepD K H x d) (f : flatD d = true) : ∀ {vs : List V} {ds : List D}, RepDs K H vs ds → ds.all flatD = true → vs.all flatV = true ∧ inV x vs = inD d ds
  | [], [], _, _ => ⟨rfl, rfl⟩
  | v :: vs, e :: ds, hr, fa => by
    unfold RepDs at hr
    rw [List.all_cons, Bool.and_eq_true] at fa
    obtain ⟨q1, q2⟩ := in_rep h f hr.2 fa.2
    refine ⟨by rw [List.all_cons, flat_rep hr.1 fa.1, q1]; rfl, ?_⟩
    unfold inV inD at *
    rw [List.any_cons, List.any_cons, q2, eqV_rep hr.1 h fa.1 f]
  | [], d :: ds, h, _ => by unfold RepDs at h; exact h.elim
  | v :: vs, [], h, _ => by unfold RepDs at h; exact h.elim
theorem ook_in (neg : Bool) : OpOk K (rIn K neg) (gIn neg) := by
  intro F σ ρ H x y r1 r2 q Q a h1 h2 h b
  unfold gIn at h
  split at h
  · rename_i d ds e1 e2
    obtain ⟨⟨f1, f2⟩, h⟩ := h
    have rx := view_rep a h1 e1
    obtain ⟨l, vs, rfl, sq, rd⟩ := view_lst a h2 e2
    obtain ⟨q1, q2⟩ := in_rep rx f1 (rd.same hid_sub) f2
    refine ⟨l, vs, rfl, .inl sq, flat_rep rx f1, q1, ?_⟩
    rw [q2]
    exact b.bl a h
  · rename_i d ds e1 e2
    obtain ⟨⟨f1, f2⟩, h⟩ := h
    have rx := view_rep a h1 e1
    obtain ⟨l, vs, rfl, sq, rd, _⟩ := view_tup a h2 e2
    obtain ⟨q1, q2⟩ := in_rep rx f1 (rd.same hid_sub) f2
    refine ⟨l, vs, rfl, .inr sq, flat_rep rx f1, q1, ?_⟩
    rw [q2]
    exact b.bl a h
  · exact h.elim
end
theorem forA_inv {c : En → Prop} {g : AG} {b : AS} {e : AEnds} (I : Nat → En → Prop) {ds : List D} (hc : ∀ k ρ, k ≤ ds.length → I k ρ → c ρ)
    (hs : ∀ (k : Nat) d ρ (N : En → Prop), ds[k]? = some d → I k ρ → (∀ ρ', I (k + 1) ρ' → N ρ') → g d ρ fun ρ1 => b { nx := N, ct := N, bk := e.nx, rt := e.rt } ρ1) (hd : ∀ ρ, I ds.length ρ → e.nx ρ) : ∀ ρ, I 0 ρ → forA c g b e ds ρ := by
  have go : ∀ (es : List D) (k : Nat), ds.drop k = es → k ≤ ds.length → ∀ ρ, I k ρ → forA c g b e es ρ := by
    intro es
    induction es with
    | nil =>
      intro k h hk ρ i
      have : ds.length ≤ k := List.drop_eq_nil_iff.mp h
      have : k = ds.length := by omega
      subst this
      unfold forA
      exact ⟨hc _ ρ (Nat.le_refl _) i, hd ρ i⟩
    | cons d es ih =>
      intro k h hk ρ i
      have lt : k < ds.length := by
        rcases Nat.lt_or_ge k ds.length with q | q
        · exact q
        · rw [List.drop_eq_nil_of_le q] at h; cases h
      rw [List.drop_eq_getElem_cons lt] at h
      injection h with h1 h2
      unfold forA
      exact ⟨hc k ρ hk i, hs k d ρ _ (by rw [← h1]; exact List.getElem?_eq_getElem lt) i (fun ρ' i' => ih (k + 1) h2 lt ρ' i')⟩
  exact go ds 0 rfl (Nat.zero_le _)
theorem compA_inv {n : Nat} {js : List Nat} {c : En → Prop} {g : AG} {tc : AT} {te : AE} {q : List D → En → Prop} (I : Nat → List D → En → Prop) {ds : List D} (hc : ∀ k acc ρ, k ≤ ds.length → I k acc ρ → c ρ)
    (hs : ∀ (k : Nat) d acc ρ (N : List D → En → Prop), ds[k]? = some d → I k acc ρ → (∀ acc' ρ', I (k + 1) acc' ρ' → N acc' ρ') →
      g d (blkE n js ρ) fun ρ1 => tc ρ1 fun b ρ2 => if b = true then te ρ2 fun r ρ3 => sto [r.frz] ρ3 fun es ρ4 => N (acc ++ es) (back ρ (js.map R.o) (ρ4.drop n)) else N acc (back ρ (js.map R.o) (ρ2.drop n)))
    (hd : ∀ acc ρ, I ds.length acc ρ → q acc ρ) : ∀ ρ, I 0 [] ρ → compA n js c g tc te q ds [] ρ := by
  have go : ∀ (es : List D) (k : Nat), ds.drop k = es → k ≤ ds.length → ∀ acc ρ, I k acc ρ → compA n js c g tc te q es acc ρ := by
    intro es
    induction es with
    | nil =>
      intro k h hk acc ρ i
      have : ds.length ≤ k := List.drop_eq_nil_iff.mp h
      have : k = ds.length := by omega
      subst this
      unfold compA
      exact ⟨hc _ acc ρ (Nat.le_refl _) i, hd acc ρ i⟩
    | cons d es ih =>
      intro k h hk acc ρ i
      have lt : k < ds.length := by
        rcases Nat.lt_or_ge k ds.length with q | q
        · exact q
        · rw [List.drop_eq_nil_of_le q] at h; cases h
      rw [List.drop_eq_getElem_cons lt] at h
      injection h with h1 h2
      unfold compA
      exact ⟨hc k acc ρ hk i, hs k d acc ρ (fun acc' ρ' => compA n js c g tc te q es acc' ρ') (by rw [← h1]; exact List.getElem?_eq_getElem lt) i (fun acc' ρ' i' => ih (k + 1) h2 lt acc' ρ' i')⟩
  exact go ds 0 rfl (Nat.zero_le _) []
theorem whA_inv {c : AT} {b : AS} {e : AEnds} (I : En → Prop) (μ : En → Nat)
    (hs : ∀ ρ (N : En → Prop), I ρ → (∀ ρ', I ρ' → μ ρ' < μ ρ → N ρ') → c ρ fun k ρ1 => if k = true then b { nx := N, ct := N, bk := e.nx, rt := e.rt } ρ1 else e.nx ρ1) : ∀ ρ, I ρ → aWhile c b e ρ := by
  have go : ∀ (n : Nat) ρ, I ρ → μ ρ < n → whA c b e n ρ := by
    intro n
    induction n with
    | zero => intro ρ _ h; omega
    | succ n ih => intro ρ i h; exact hs ρ _ i fun ρ' i' lt => ih ρ' i' (by omega)
  exact fun ρ i => ⟨μ ρ + 1, go _ ρ i (by omega)⟩
end L2
set_option Elab.async false
set_option linter.all false
set_option maxRecDepth 100000
namespace L2
open PySem PySem.Spec PyProof.Rows
section
variable {es : List Expr} {env : Env}
end
end L2
set_option Elab.async false
set_option linter.all false
set_option maxRecDepth 100000
namespace L2
open PySem PySem.Spec PyProof.Rows
section
variable {X : Cx} (K : PySem.W.Frag)
def rCatL (K : PySem.W.Frag) : R2 := fun x y H Q => ∃ a b xs ys, x = .ref a ∧ y = .ref b ∧ SqL K H a xs ∧ SqL K H b ys ∧ xs.length + ys.length ≤ 1000000 ∧ ∀ p, H p = none → Q (.ref p) (upd H p (.lst (xs ++ ys)))
theorem op_catL (hK : X.K = K := by rfl) : OpR X (binaryOp .Add) (rCatL K) := by
  subst hK
  intro pins s σ H x y v u Q I rx ry h
  obtain ⟨a, b, xs, ys, rfl, rfl, ha, hb, hz, q⟩ := h
  cases rx
  cases ry
  obtain ⟨its, r1, p1, _⟩ := I.list ha
  obtain ⟨its2, r2, p2, _⟩ := I.list hb
  have hz' : its.length + its2.length ≤ sizeLine := small (by rw [← r1.length, ← r2.length]; exact hz)
  obtain ⟨⟨cls, dd, data, sl⟩, ho, hc, n, hd⟩ := p1.isList
  obtain ⟨⟨cls2, dd2, data2, sl2⟩, ho2, hc2, n2, hd2⟩ := p2.isList
  simp only at hc hd hc2 hd2
  subst hc hd hc2 hd2
  refine concat_meets ⟨_, ho, rfl⟩ ⟨_, ho2, rfl⟩ noFill_list_add seq_list_add PySem.F.slot_list_add PySem.F.entry_list_add (PySem.F.args_list_add_2 _ _) (list_addW a b its.toArray its2.toArray n n2 dd dd2 sl sl2 (by rw [List.size_toArray, List.size_toArray]; exact hz')) ⟨ho, ho2, ?_⟩
  refine ⟨.ref s.heap.objs.size, _, I.laid (t' := s.toks) (o := .lst (xs ++ ys)) (fun b ob q => Heap.get?_push_of_some _ q) (Nat.le_refl _) ?_, rfl, q _ (I.hok.fresh (Nat.le_refl _))⟩
  refine ⟨by rw [List.length_append]; exact small hz, _, 0, r1.append r2, ?_⟩
  rw [show (its ++ its2).toArray = its.toArray ++ its2.toArray by simp]
  exact Heap.get?_push_size _ rfl
variable {e st : Expr} {te : TE} {ts : TO} {pos p2 : Pos}
end
section
variable {K : PySem.W.Frag} {ta te : TE} {a ae : AE} {ts : TA} {as : AA}
def gCat : R → R → AE := fun r1 r2 ρ q => match view ρ r1, view ρ r2 with
  | some (.lst ds), some (.lst es) => ds.length + es.length ≤ 1000000 ∧ q (.f (ds ++ es)) ρ
  | _, _ => False
theorem ook_cat : OpOk K (rCatL K) gCat := by
  intro F σ ρ H x y r1 r2 q Q a h1 h2 h b
  unfold gCat at h
  split at h
  · rename_i ds es e1 e2
    obtain ⟨l, vs, rfl, sq, rd⟩ := view_lst a h1 e1
    obtain ⟨l2, vs2, rfl, sq2, rd2⟩ := view_lst a h2 e2
    exact ⟨l, l2, vs, vs2, rfl, rfl, sq, sq2, by rw [rd.length, rd2.length]; exact h.1, fun p hp => b.new a h.2 (rd.append rd2) hp⟩
  · exact h.elim
theorem RepDs.reverse {H : Hp} : ∀ {vs : List V} {ds : List D}, RepDs K H vs ds → RepDs K H vs.reverse ds.reverse
  | [], [], _ => .nil
  | v :: vs, d :: ds, h => by
    unfold RepDs at h
    rw [List.reverse_cons, List.reverse_cons]
    exact (RepDs.reverse h.2).append (.one h.1)
  | [], d :: ds, h => by unfold RepDs at h; exact h.elim
  | v :: vs, [], h => by unfold RepDs at h; exact h.elim
def gInt : List R → AE := fun rs ρ q => match rs with
  | [.d (.int i)] => q (.d (.int i)) ρ
  | [.d (.bl k)] => q (.d (.int (if k then 1 else 0))) ρ
  | _ => False
theorem cbok_int : CbOk K (fun xs H Q => (∃ i, xs = [.int i] ∧ Q (.int i) H) ∨ ∃ k, xs = [.bl k] ∧ Q (.int (if k then 1 else 0)) H) gInt := by
  intro F σ ρ H vs rs q Q a i h b
  unfold gInt at h
  split at h
  · obtain ⟨x, rfl, i1⟩ := i.one
    exact .inl ⟨_, by rw [i1.int], b.int a h⟩
  · obtain ⟨x, rfl, i1⟩ := i.one
    exact .inr ⟨_, by rw [i1.blv], b.int a h⟩
  · exact h.elim
end
end L2
set_option Elab.async false
set_option linter.all false
set_option maxRecDepth 100000
namespace L2
open PySem PySem.Spec PyProof.Rows
abbrev nD (n : Nat) : D := .int (n : Nat)
abbrev nv (n : Nat) : Sv := .vl (.int (n : Nat))
def ownB (pr : Nat → Bool) : En → Nat → Bool
  | [], _ => true
  | s :: ss, i => (!s.own || pr i) && ownB pr ss (i + 1)
theorem ownB_ok {pr : Nat → Bool} : ∀ {ss : En} {j : Nat}, ownB pr ss j = true → ∀ i, (gt ss i).own = true → pr (j + i) = true
  | [], _, _, i, h => by cases h
  | s :: ss, j, hb, 0, h => by
    simp only [ownB, Bool.and_eq_true, Bool.or_eq_true, Bool.not_eq_true'] at hb
    rcases hb.1 with q | q
    · rw [show (gt (s :: ss) 0) = s from rfl, q] at h; cases h
    · exact q
  | s :: ss, j, hb, i + 1, h => by
    simp only [ownB, Bool.and_eq_true] at hb
    have := ownB_ok hb.2 i h
    rwa [show j + 1 + i = j + (i + 1) by omega] at this
theorem DefN.aok2 {P : Program} {w : World} {K : PySem.W.Frag} {mg : Str → Option Value} {base : Heap} {x : Str} {st : Stmt} {N ps : List Str} {k : Nat} {a : AS} (D : DefN K mg x st ps) (Sc : FnScope N ps (defScope st)) (pr : Nat → Bool) (us : En) (S : ASp) (hus : List.replicate (N.length - ps.length) Sv.un = us)
    (hbody : ∀ (f : Addr) (cdv : Value) (A : Around) (outer : List Env) (s : Shared) (H : Hp) (E : XK), Room k (A.deeper (envOfC x (defScope st) s.heap.objs.size f cdv)) →
      ∃ t, PSs (cxOf CX0 P w K mg base N x (defScope st) f cdv A outer s H E).nox (defBody st) t ∧ TSok K pr t a)
    (hS : ∀ ss q, S ss q → ss.length = ps.length ∧ ownB pr ss 0 = true ∧ a ⟨fun ρ => q (.d .non) (outS ss ρ), fun r ρ => fin pr r ρ fun r' ρ' => q r' (outS ss ρ'), fun _ => False, fun _ => False⟩ (ss ++ us)) : OkN P w K mg base (k + 1) x ps (spA K S) :=
  D.aok Sc pr S hbody fun ss q h => ⟨(hS ss q h).1, fun i hi => by have := ownB_ok (hS ss q h).2.1 i hi; rwa [Nat.zero_add] at this, by rw [hus]; exact (hS ss q h).2.2⟩
theorem rngD_get {lo : Int} {n k : Nat} {d : D} (h : (rngD lo n)[k]? = some d) : k < n ∧ d = .int (lo + k) := by
  unfold rngD at h
  rw [List.getElem?_map] at h
  obtain ⟨j, e1, e2⟩ := Option.map_eq_some_iff.mp h
  have lt : k < n := by
    rcases Nat.lt_or_ge k n with q | q
    · exact q
    · rw [List.getElem?_eq_none (by simpa using q)] at e1; cases e1
  rw [List.getElem?_range lt] at e1
  cases e1
  exact ⟨lt, e2.symm⟩
abbrev turnA (n : Nat) (js : List Nat) (g : AG) (tc : AT) (te : AE) (ρ : En) (d : D) (acc : List D) (N : List D → En → Prop) : Prop :=
  g d (blkE n js ρ) fun ρ1 => tc ρ1 fun b ρ2 => if b = true then te ρ2 fun r ρ3 => sto [r.frz] ρ3 fun es ρ4 => N (acc ++ es) (back ρ (js.map R.o) (ρ4.drop n)) else N acc (back ρ (js.map R.o) (ρ2.drop n))
section
variable {n : Nat} {js : List Nat} {c : En → Prop} {g : AG} {tc : AT} {te : AE} {q : List D → En → Prop}
theorem compA_rng {lo : Int} {m : Nat} (f : Nat → D) {ρ : En} (hc : c ρ) (hs : ∀ k acc (N : List D → En → Prop), k < m → N (acc ++ [f k]) ρ → turnA n js g tc te ρ (.int (lo + k)) acc N)
    (hd : q ((List.range m).map f) ρ) : compA n js c g tc te q (rngD lo m) [] ρ := by
  refine compA_inv (fun k acc ρ' => k ≤ m ∧ ρ' = ρ ∧ acc = (List.range k).map f) (fun k acc ρ' _ h => h.2.1 ▸ hc) ?_ ?_ ρ ⟨Nat.zero_le _, rfl, rfl⟩
  · rintro k d acc _ N hk ⟨_, rfl, rfl⟩ hN
    obtain ⟨lt, rfl⟩ := rngD_get hk
    refine hs k _ N lt (hN _ _ ⟨lt, rfl, ?_⟩)
    rw [List.range_succ, List.map_append]; rfl
  · rintro acc _ ⟨_, rfl, rfl⟩
    rw [rngD_len]; exact hd
theorem compA_lst {α : Type} (h : α → D) (f : α → D) {xs : List α} {ρ : En} (hc : c ρ) (hs : ∀ x acc (N : List D → En → Prop), x ∈ xs → N (acc ++ [f x]) ρ → turnA n js g tc te ρ (h x) acc N)
    (hd : q (xs.map f) ρ) : compA n js c g tc te q (xs.map h) [] ρ := by
  refine compA_inv (fun k acc ρ' => ρ' = ρ ∧ acc = (xs.take k).map f) (fun k acc ρ' _ h => h.1 ▸ hc) ?_ ?_ ρ ⟨rfl, rfl⟩
  · rintro k d acc _ N hk ⟨rfl, rfl⟩ hN
    rw [List.getElem?_map] at hk
    obtain ⟨x, e1, rfl⟩ := Option.map_eq_some_iff.mp hk
    refine hs x _ N (List.mem_of_getElem? e1) (hN _ _ ⟨rfl, ?_⟩)
    rw [List.take_add_one, e1, Option.toList_some, List.map_append]; rfl
  · rintro acc _ ⟨rfl, rfl⟩
    rw [List.length_map, List.take_length]; exact hd
end
section
variable {c : En → Prop} {g : AG} {b : AS} {e : AEnds}
theorem forA_rng {lo : Int} {m : Nat} (I : Nat → En → Prop) (hc : ∀ k ρ, I k ρ → c ρ) (hs : ∀ (k : Nat) ρ (N : En → Prop), k < m → I k ρ → (∀ ρ', I (k + 1) ρ' → N ρ') → g (.int (lo + k)) ρ fun ρ1 => b { nx := N, ct := N, bk := e.nx, rt := e.rt } ρ1)
    (hd : ∀ ρ, I m ρ → e.nx ρ) {ρ : En} (h0 : I 0 ρ) : forA c g b e (rngD lo m) ρ := by
  refine forA_inv I (fun k ρ _ h => hc k ρ h) (fun k d ρ N hk h hN => ?_) (fun ρ h => hd ρ (by rwa [rngD_len] at h)) ρ h0
  obtain ⟨lt, rfl⟩ := rngD_get hk
  exact hs k ρ N lt h hN
theorem forA_lst {α : Type} (h : α → D) {xs : List α} (I : Nat → En → Prop) (hc : ∀ k ρ, I k ρ → c ρ) (hs : ∀ (k : Nat) x ρ (N : En → Prop), xs[k]? = some x → I k ρ → (∀ ρ', I (k + 1) ρ' → N ρ') → g (h x) ρ fun ρ1 => b { nx := N, ct := N, bk := e.nx, rt := e.rt } ρ1)
    (hd : ∀ ρ, I xs.length ρ → e.nx ρ) {ρ : En} (h0 : I 0 ρ) : forA c g b e (xs.map h) ρ := by
  refine forA_inv I (fun k ρ _ h => hc k ρ h) (fun k d ρ N hk h' hN => ?_) (fun ρ h => hd ρ (by rwa [List.length_map] at h)) ρ h0
  rw [List.getElem?_map] at hk
  obtain ⟨x, e1, rfl⟩ := Option.map_eq_some_iff.mp hk
  exact hs k x ρ N e1 h' hN
end
theorem atI_nats {xs : List Nat} {i : Nat} (h : i < xs.length) : atI (natsD xs) ((i : Nat) : Int) = some (.int (xs.getD i 0 : Nat)) := by
  refine atI_nat ?_
  unfold natsD
  rw [List.getElem?_map, List.getElem?_eq_getElem h]
  simp [h]
theorem gIx_nats {r1 : R} {ρ : En} {q : Ko} {xs : List Nat} {i : Nat} (hv : view ρ r1 = some (.lst (natsD xs))) (h : i < xs.length) (hq : q (.d (.int (xs.getD i 0 : Nat))) ρ) : gIx r1 (.d (.int (i : Nat))) ρ q := by
  unfold gIx
  rw [hv]
  simp only [atI_nats h]
  exact hq
theorem gEq_ok {neg : Bool} {r1 r2 : R} {ρ : En} {q : Ko} {d e : D} {b : Bool} (h1 : view ρ r1 = some d) (h2 : view ρ r2 = some e) (hd : d.depth ≤ 60) (hb : eqD d e = b) (hq : q (.d (.bl (if neg then !b else b))) ρ) : gEq neg r1 r2 ρ q := by
  unfold gEq
  rw [h1, h2]
  subst hb
  exact ⟨hd, hq⟩
theorem gIx_t {r1 : R} {ρ : En} {q : Ko} {ds : List D} {i : Int} {d : D} (hv : view ρ r1 = some (.tup ds)) (h : atI ds i = some d) (hq : q (.d d) ρ) : gIx r1 (.d (.int i)) ρ q := by
  unfold gIx
  rw [hv]
  simp only [h]
  exact hq
theorem gIx_l {r1 : R} {ρ : En} {q : Ko} {ds : List D} {i : Int} {d : D} (hv : view ρ r1 = some (.lst ds)) (h : atI ds i = some d) (hq : q (.d d) ρ) : gIx r1 (.d (.int i)) ρ q := by
  unfold gIx
  rw [hv]
  simp only [h]
  exact hq
theorem gIsa_ok {r : R} {ρ : En} {q : Ko} {d : D} {n : String} {b : Bool} (hv : view ρ r = some d) (h : isaT (tyD d) n = some b) (hq : q (.d (.bl b)) ρ) : gIsa [r, .t n] ρ q := by
  unfold gIsa
  simp only [hv, h]
  exact hq
theorem gAll_ok {r : R} {ρ : En} {q : Ko} {bs : List Bool} (hv : view ρ r = some (.lst (bs.map D.bl))) (hq : q (.d (.bl (bs.all id))) ρ) : gAll [r] ρ q := by
  unfold gAll
  simp only [hv, blsOf_map]
  exact hq
def isI : D → Bool
  | .int _ => true
  | _ => false
def isL : D → Bool
  | .lst _ => true
  | _ => false
theorem cutS {A B : AS} {e : AEnds} {ρ : En} (P : En → Prop) (h1 : ∀ N : En → Prop, (∀ ρ', P ρ' → N ρ') → A { e with nx := N } ρ) (h2 : ∀ ρ', P ρ' → B e ρ') : aSeq A B e ρ := h1 (B e) h2
theorem nv_eq {x : Int} {n : Nat} (h : x = (n : Nat)) : Sv.vl (.int x) = nv n := by rw [h]
def SLawWhole : ASp := fun ss q => ∃ d : D, ss = [.vl d] ∧ q (.d (.bl (isI d))) [.vl d]
def SJoined : ASp := fun ss q => ∃ x y : Nat, ss = [nv x, nv y] ∧ q (.d (nD (x ^^^ y))) [nv x, nv y]
def SOwn : ASp := fun ss q => ∃ m : Nat, ss = [nv m] ∧ m ≤ 1000 ∧ q (.f (natsD (ownRows m))) [nv m]
end L2
set_option Elab.async false
set_option linter.all false
set_option maxRecDepth 100000
namespace L2
open PySem PySem.Spec PyProof.Rows
def stepC (cells : List Nat) (p : Nat × Nat) : List Nat := cells.set p.2 (cells.getD p.1 0 ^^^ cells.getD p.2 0)
def afterN (m : Nat) (steps : List (Nat × Nat)) : List Nat := steps.foldl stepC (ownRows m)
theorem stepC_len (cells : List Nat) (p : Nat × Nat) : (stepC cells p).length = cells.length := by simp [stepC]
theorem after_len (steps : List (Nat × Nat)) : ∀ cells : List Nat, (steps.foldl stepC cells).length = cells.length := by
  induction steps with
  | nil => intro c; rfl
  | cons p r ih => intro c; rw [List.foldl_cons, ih, stepC_len]
def StepOk (m : Nat) (p : Nat × Nat) : Prop := p.1 < m ∧ p.2 < m ∧ p.1 ≠ p.2
theorem stepC_inv {cells : List Nat} {p : Nat × Nat} (h : StepOk cells.length p) : stepC (stepC cells p) p = cells := by
  obtain ⟨h1, h2, h3⟩ := h
  unfold stepC
  apply List.ext_getElem?
  intro i
  simp only [List.getElem?_set, List.length_set]
  by_cases e : p.2 = i
  · subst e
    simp [h2, List.getElem?_set_ne h3.symm, List.getElem?_eq_getElem h1, List.getElem?_eq_getElem h2, ← Nat.xor_assoc]
  · simp [e]
theorem there_back {m : Nat} : ∀ {steps : List (Nat × Nat)} {cells : List Nat}, cells.length = m → (∀ p ∈ steps, StepOk m p) → (steps ++ steps.reverse).foldl stepC cells = cells
  | [], _, _, _ => rfl
  | p :: r, cells, hl, h => by
    have ih := there_back (steps := r) (cells := stepC cells p) (by rw [stepC_len]; exact hl) fun q hq => h q (List.mem_cons_of_mem _ hq)
    rw [List.reverse_cons, List.cons_append, List.foldl_cons, ← List.append_assoc, List.foldl_append, ih]
    exact stepC_inv (by rw [hl]; exact h p List.mem_cons_self)
theorem cutD_take (xs : List D) (k : Nat) : cutD xs none (some ((k : Nat) : Int)) = xs.take k := by
  unfold cutD
  have e0 : HT.sIx xs.length 0 none = 0 := rfl
  rw [e0, List.drop_zero, Nat.sub_zero, HT.sIx_nat]
  rcases Nat.le_total k xs.length with h | h
  · rw [Nat.min_eq_left h]
  · rw [Nat.min_eq_right h, List.take_of_length_le (Nat.le_refl _), List.take_of_length_le h]
theorem cutD_drop (xs : List D) (k : Nat) : cutD xs (some ((k : Nat) : Int)) none = xs.drop k := by
  unfold cutD
  have e0 : HT.sIx xs.length xs.length none = xs.length := rfl
  rw [e0, HT.sIx_nat]
  rcases Nat.le_total k xs.length with h | h
  · rw [Nat.min_eq_left h, List.take_of_length_le (by rw [List.length_drop]; omega)]
  · rw [Nat.min_eq_right h, List.drop_eq_nil_of_le (Nat.le_refl _), List.drop_eq_nil_of_le h]; simp
theorem natsD_set (xs : List Nat) (i x : Nat) : (natsD xs).set i (nD x) = natsD (xs.set i x) := by unfold natsD; rw [List.map_set]
theorem natsD_len (xs : List Nat) : (natsD xs).length = xs.length := by rw [List.length_map]
theorem DefN.no {P : Program} {w : World} {K : PySem.W.Frag} {mg : Str → Option Value} {base : Heap} {x : Str} {st : Stmt} {N ps : List Str} (D : DefN K mg x st ps) (Sc : FnScope N ps (defScope st)) (k : Nat) : OkN P w K mg base (k + 1) x ps (spA K fun _ _ => False) :=
  D.ok Sc (fun vs H Q E h => by obtain ⟨_, _, _, _, h, _⟩ := h; exact h.elim) fun f cdv A outer s H vs Q E _ h => by obtain ⟨_, _, _, _, h, _⟩ := h; exact h.elim
end L2
set_option Elab.async false
set_option linter.all false
set_option maxRecDepth 100000
namespace L2
open PySem PySem.Spec PyProof.Rows
theorem getD_set_same {xs : List Nat} {i v : Nat} (h : i < xs.length) : (xs.set i v).getD i 0 = v := by simp [h]
theorem getD_set_ne {xs : List Nat} {i j v : Nat} (h : i ≠ j) : (xs.set i v).getD j 0 = xs.getD j 0 := by
  simp [List.getElem?_set_ne h]
end L2
set_option Elab.async false
set_option linter.all false
set_option maxRecDepth 100000
namespace L2
open PySem PySem.Spec PyProof.Rows
section
variable {X : Cx} (K : PySem.W.Frag)
end
section
variable {prog : Program} {w : World} {A : Around} {it : Addr} {own wr : List Addr} {len : Nat} {Pv : Nat → Value → Prop} {Sx : Nat → Heap → Prop} {Rz : Result → Shared → Prop}
end
section
variable {X : Cx} (K : PySem.W.Frag)
end
section
variable {K : PySem.W.Frag} {te : TE} {ae : AE} {ts : TA} {as : AA}
end
end L2
set_option Elab.async false
set_option linter.all false
set_option maxRecDepth 100000
namespace L2
open PySem PySem.Spec PyProof.Rows
section
variable {X : Cx} {st : Stmt} {rest : List Stmt} {t u : TS}
end
section
variable {X : Cx} {e : Expr} {es : List Expr} {te : TE} {t : TA} {pos : Pos}
end
section
variable {X : Cx} {st : Stmt} {rest : List Stmt} {t u : TS} {i : Nat} {x : Str} {e : Expr} {es : List Expr} {te : TE} {ta : TA} {pos pos' : Pos}
end
end L2
set_option Elab.async false
set_option linter.all false
set_option maxRecDepth 100000
namespace HT
open PySem PySem.Spec PyProof.Rows
theorem tup_whole {prog : Program} {w : World} {A : Around} {E : Value → Shared → Prop} {s : Shared} {t sl : Addr} {items : Array Value} {vl vu : Value} {lo hi : Option Int} {Q : Value → Shared → Prop} (ht : IsTup s.heap t items) (hs : s.heap.IsSliceOf sl vl vu .none) (pl : IsPart vl lo) (pu : IsPart vu hi)
    (hw : sIx items.size 0 lo = 0 ∧ sIx items.size items.size hi = items.size) (h : Q (.ref t) s) : wpAny (model prog w) A (getItem (.ref t) (.ref sl)) Q E s := by
  obtain ⟨os, hos, hcs, hds⟩ := id hs
  have hTs : s.TypeIs (.ref sl) "slice" := ⟨os, hos, hcs⟩
  unfold getItem
  try with_reducible refine wpAny_holding ?_
  first | refine wpAny_bind (wpAny_pure ?_) | skip
  refine wpAny_bind (wpAny_sequenceKey ht.typeIs (by decide) ?_)
  refine wpAny_bind (wpAny_callSpecial?_slot (name := Str.ofString "__getitem__") ht.typeIs PyProof.Rows.slot_tuple_getitem
    (wpAny_call_entry PyProof.Rows.slot_tuple_getitem ht.typeIs entry_tuple_getitem ?_ (args_tuple_getitem _ _)))
  show wpAny _ _ (Builtin.Tuple.tupleItemsOf (.ref t) >>= _) _ _ s
  refine wpAny_bind (tupleItemsOf_ ht ?_)
  refine wpAny_bind (wpAny_typeOf hTs ?_)
  rw [if_pos (by decide)]
  refine wpAny_bind (sliceApplied_gen hs pl pu ?_)
  have yes : (((sIx items.size 0 lo : Nat) : Int) == 0 && (1 : Int) == 1 && (sIx items.size items.size hi - sIx items.size 0 lo) == items.size) = true := by
    rw [hw.1, hw.2]; simp
  show wpAny _ _ (if (((sIx items.size 0 lo : Nat) : Int) == 0 && (1 : Int) == 1 && (sIx items.size items.size hi - sIx items.size 0 lo) == items.size) = true then _ else _) _ _ s
  rw [if_pos yes]
  have hex : ∀ {R : Bool → Shared → Prop} {E' : Value → Shared → Prop} {A'}, R true s → wpAny (model prog w) A' (Builtin.Tuple.tupleIsExact (.ref t)) R E' s := fun hR => by
    unfold Builtin.Tuple.tupleIsExact
    exact wpAny_bind (wpAny_typeOf ht.typeIs (wpAny_pure hR))
  refine wpAny_bind (hex ?_)
  rw [if_pos rfl]
  first
    | exact wpAny_bind (wpAny_rule (wpAny_bind (wpAny_pure (wpAny_pure ⟨_, rfl, wpAny_pure h⟩))))
    | exact wpAny_bind (wpAny_rule (wpAny_pure ⟨_, rfl, wpAny_pure h⟩))
    | exact wpAny_bind (wpAny_rule (wpAny_bind (wpAny_pure ⟨_, rfl, wpAny_pure h⟩)))
    | exact wpAny_rule (wpAny_bind (wpAny_pure ⟨_, rfl, wpAny_pure h⟩))
end HT
namespace L2
open PySem PySem.Spec PyProof.Rows
section
variable {X : Cx} (K : PySem.W.Frag)
def rSlTA (K : PySem.W.Frag) : V → Option Int → Option Int → Hp → VK → Prop := fun x lo hi H Q => ∃ a xs, x = .ref a ∧ SqT K H a xs ∧
  ((HT.sIx xs.length 0 lo = 0 ∧ HT.sIx xs.length xs.length hi = xs.length) → Q (.ref a) H) ∧ (¬ (HT.sIx xs.length 0 lo = 0 ∧ HT.sIx xs.length xs.length hi = xs.length) → ∀ p, H p = none → Q (.ref p) (upd H p (.tup (cutV xs lo hi))))
theorem sl_tupA (hK : X.K = K := by rfl) : SlR X (rSlTA K) := by
  subst hK
  intro pins s σ H x v vl vu lo hi sl Q I rx hs pl pu h
  obtain ⟨a, xs, rfl, hx, q1, q2⟩ := h
  by_cases hw : HT.sIx xs.length 0 lo = 0 ∧ HT.sIx xs.length xs.length hi = xs.length
  · cases rx
    obtain ⟨its, r, ht, hz⟩ := I.tuple hx
    have hlen : its.toArray.size = xs.length := by rw [List.size_toArray]; exact r.length.symm
    refine ⟨"tuple", _, PyProof.Rows.slot_tuple_getitem.lookup, ht.typeIs, ?_⟩
    exact HT.tup_whole ht hs pl pu (by rw [hlen]; exact hw) ⟨.ref a, H, I, rfl, q1 hw⟩
  · exact sl_tup pins s σ H (.ref a) v vl vu lo hi sl Q I rx hs pl pu ⟨a, xs, rfl, hx, hw, q2 hw⟩
def rCatTA (K : PySem.W.Frag) : R2 := fun x y H Q => ∃ a b xs ys, x = .ref a ∧ y = .ref b ∧ SqT K H a xs ∧ SqT K H b ys ∧ xs.length + ys.length ≤ 1000000 ∧
  (xs = [] → Q (.ref b) H) ∧ (ys = [] → Q (.ref a) H) ∧ (∀ p, H p = none → Q (.ref p) (upd H p (.tup (xs ++ ys))))
theorem op_catTA (hK : X.K = K := by rfl) : OpR X (binaryOp .Add) (rCatTA K) := by
  subst hK
  intro pins s σ H x y v u Q I rx ry h
  obtain ⟨a, b, xs, ys, rfl, rfl, ha, hb, hz, q0, q1, q2⟩ := h
  by_cases hx : xs = []
  · subst hx
    cases rx
    cases ry
    obtain ⟨its, r1, p1, _⟩ := I.tuple ha
    obtain ⟨its2, r2, p2, _⟩ := I.tuple hb
    cases r1
    obtain ⟨⟨cls, dd, data, sl⟩, ho, hc, n, hd⟩ := id p1
    obtain ⟨⟨cls2, dd2, data2, sl2⟩, ho2, hc2, n2, hd2⟩ := id p2
    simp only at hc hd hc2 hd2
    subst hc hd hc2 hd2
    exact concat_meets ⟨_, ho, rfl⟩ ⟨_, ho2, rfl⟩ noFill_tuple_add seq_tuple_add PySem.F.slot_tuple_add PySem.F.entry_tuple_add (PySem.F.args_tuple_add_2 _ _) (tuple_addW0 a b _ its2.toArray n n2 dd dd2 sl sl2 (by simp)) ⟨ho, ho2, .ref b, H, I, rfl, q0 rfl⟩
  · exact op_catT pins s σ H (.ref a) (.ref b) v u Q I rx ry ⟨a, b, xs, ys, rfl, rfl, ha, hb, hx, small hz, q1, fun _ => q2⟩
end
section
variable {K : PySem.W.Frag} {ta : TE} {a : AE}
def gCatT : R → R → AE := fun r1 r2 ρ q => match view ρ r1, view ρ r2 with
  | some (.tup ds), some (.tup es) => ds.length + es.length ≤ 1000000 ∧ q (.d (.tup (ds ++ es))) ρ
  | _, _ => False
theorem RepDs.nilL {H : Hp} {ds : List D} (h : RepDs K H [] ds) : ds = [] := by
  cases ds with
  | nil => rfl
  | cons d r => unfold RepDs at h; exact h.elim
theorem ook_catT : OpOk K (rCatTA K) gCatT := by
  intro F σ ρ H x y r1 r2 q Q a h1 h2 h b
  unfold gCatT at h
  split at h
  · rename_i ds es e1 e2
    obtain ⟨l, vs, rfl, sq, rd, sv⟩ := view_tup a h1 e1
    obtain ⟨l2, vs2, rfl, sq2, rd2, sv2⟩ := view_tup a h2 e2
    refine ⟨l, l2, vs, vs2, rfl, rfl, sq, sq2, by rw [rd.length, rd2.length]; exact h.1, fun z => ?_, fun z => ?_, fun p hp => b.newT a h.2 (rd.append rd2) hp⟩
    · refine b.dat a h.2 ?_
      have : ds = [] := by rw [z] at rd; exact rd.nilL
      rw [this, List.nil_append]
      unfold RepD
      exact ⟨l2, vs2, rfl, sv2, rd2⟩
    · refine b.dat a h.2 ?_
      have : es = [] := by rw [z] at rd2; exact rd2.nilL
      rw [this, List.append_nil]
      unfold RepD
      exact ⟨l, vs, rfl, sv, rd⟩
  · exact h.elim
def aSlT (a : AE) (l u : AO) : AE := fun ρ q => a ρ fun r ρ1 => l ρ1 fun lo ρ2 => u ρ2 fun hi ρ3 => match view ρ3 r.frz with
  | some (.tup ds) => q (.d (.tup (cutD ds lo hi))) ρ3
  | _ => False
theorem cutD_all {ds : List D} {lo hi : Option Int} (h : HT.sIx ds.length 0 lo = 0 ∧ HT.sIx ds.length ds.length hi = ds.length) : cutD ds lo hi = ds := by
  unfold cutD
  rw [h.1, h.2]; simp
theorem tok_slT {tl th : TO} {al au : AO} (ha : TEok K ta a) (hl : TOok K tl al) (hh : TOok K th au) : TEok K (tSl (rSlTA K) ta tl th) (aSlT a al au) := by
  intro F σ ρ H q Q r h k
  refine ha F σ ρ H _ _ r h fun r1 ρ1 x H1 h1 rel1 => ?_
  obtain ⟨r', k1, i1⟩ := rel1.inF
  refine hl F σ ρ1 H1 _ _ r' h1 fun lo ρ2 H2 h2 r2 k2 => ?_
  refine hh F σ ρ2 H2 _ _ r2 h2 fun hi ρ3 H3 h3 r3 k3 => ?_
  have kk := ((k.after k1).after k2).after k3
  split at h3
  · rename_i ds e
    obtain ⟨p, vs, rfl, sq, rd, sv⟩ := view_tup r3 ((i1.keep k2).keep k3) e
    refine ⟨p, vs, rfl, sq, fun z => ?_, fun _ p' hp => kk.newT r3 h3 (cut_rep rd) hp⟩
    refine kk.dat r3 h3 ?_
    rw [rd.length] at z
    rw [cutD_all z]
    unfold RepD
    exact ⟨p, vs, rfl, sv, rd⟩
  · exact h3.elim
end
end L2
set_option Elab.async false
set_option linter.all false
set_option maxRecDepth 100000
namespace L2
open PySem PySem.Spec PyProof.Rows
section
variable {prog : Program} {w : World} {K0 : Type} [DecidableEq K0] {knd : KeyKind prog w K0} {A : Around} {E : Value → Shared → Prop} {s : Shared}
end
section
variable {X : Cx} {pins : List (Addr × Obj)} {σ : St} {H : Hp} {s : Shared} {A : Around} {E : Value → Shared → Prop}
end
def dKey : D → Option Key
  | .int i => some (.inl i)
  | .str x => some (.inr x)
  | _ => none
section
variable {κ : Type} [DecidableEq κ]
def valD (kvs : List (κ × D)) (k : κ) : Option D := (kvs.find? fun kv => decide (kv.1 = k)).map (·.2)
def putD (kvs : List (κ × D)) (k : κ) (d : D) : List (κ × D) :=
  if (kvs.any fun kv => decide (kv.1 = k)) = true then kvs.map (fun kv => if kv.1 = k then (kv.1, d) else kv) else kvs ++ [(k, d)]
variable {K : PySem.W.Frag} {H : Hp}
theorem val_rep (k : κ) : ∀ {ks : List (κ × V)} {kvs : List (κ × D)}, ks.map Prod.fst = kvs.map Prod.fst → RepDs K H (ks.map Prod.snd) (kvs.map Prod.snd) →
    (∀ d, valD kvs k = some d → ∃ v, valV ks k = some v ∧ RepD K H v d) ∧ (valD kvs k = none → valV ks k = none)
  | [], [], _, _ => ⟨(fun _ h => nomatch h), fun _ => rfl⟩
  | p :: ks, q :: kvs, e, r => by
    simp only [List.map_cons, List.cons.injEq] at e
    rw [List.map_cons, List.map_cons] at r
    unfold RepDs at r
    obtain ⟨i1, i2⟩ := val_rep k e.2 r.2
    by_cases z : q.1 = k
    · have e1 : valD (q :: kvs) k = some q.2 := by simp [valD, List.find?_cons, z]
      rw [e1, valV_pos (e.1.trans z)]
      exact ⟨fun d h => ⟨_, rfl, by cases h; exact r.1⟩, fun h => by cases h⟩
    · have e1 : valD (q :: kvs) k = valD kvs k := by simp [valD, List.find?_cons, z]
      rw [e1, valV_neg (fun h => z (e.1 ▸ h))]
      exact ⟨i1, i2⟩
  | [], q :: kvs, e, _ => by simp at e
  | p :: ks, [], e, _ => by simp at e
theorem any_rep (k : κ) {ks : List (κ × V)} {kvs : List (κ × D)} (e : ks.map Prod.fst = kvs.map Prod.fst) : (ks.any fun kv => decide (kv.1 = k)) = kvs.any fun kv => decide (kv.1 = k) := by
  have h1 : (ks.any fun kv => decide (kv.1 = k)) = (ks.map Prod.fst).any fun x => decide (x = k) := by rw [List.any_map]; rfl
  have h2 : (kvs.any fun kv => decide (kv.1 = k)) = (kvs.map Prod.fst).any fun x => decide (x = k) := by rw [List.any_map]; rfl
  rw [h1, h2, e]
theorem repl_rep (k : κ) {v : V} {d : D} (rv : RepD K H v d) : ∀ {ks : List (κ × V)} {kvs : List (κ × D)}, ks.map Prod.fst = kvs.map Prod.fst → RepDs K H (ks.map Prod.snd) (kvs.map Prod.snd) →
    (ks.map fun kv => if kv.1 = k then (kv.1, v) else kv).map Prod.fst = (kvs.map fun kv => if kv.1 = k then (kv.1, d) else kv).map Prod.fst ∧ RepDs K H ((ks.map fun kv => if kv.1 = k then (kv.1, v) else kv).map Prod.snd) ((kvs.map fun kv => if kv.1 = k then (kv.1, d) else kv).map Prod.snd)
  | [], [], _, _ => ⟨rfl, .nil⟩
  | p :: ks, q :: kvs, e, r => by
    simp only [List.map_cons, List.cons.injEq] at e
    rw [List.map_cons, List.map_cons] at r
    unfold RepDs at r
    obtain ⟨i1, i2⟩ := repl_rep k rv e.2 r.2
    simp only [List.map_cons, e.1]
    by_cases z : q.1 = k
    · simp only [z, if_true]
      exact ⟨by rw [i1], .cons rv i2⟩
    · simp only [z, if_false]
      exact ⟨by rw [i1, e.1], .cons r.1 i2⟩
  | [], q :: kvs, e, _ => by simp at e
  | p :: ks, [], e, _ => by simp at e
theorem put_rep (k : κ) {v : V} {d : D} (rv : RepD K H v d) {ks : List (κ × V)} {kvs : List (κ × D)} (e : ks.map Prod.fst = kvs.map Prod.fst) (r : RepDs K H (ks.map Prod.snd) (kvs.map Prod.snd)) :
    (putK ks k v).map Prod.fst = (putD kvs k d).map Prod.fst ∧ RepDs K H ((putK ks k v).map Prod.snd) ((putD kvs k d).map Prod.snd) := by
  unfold putK putD
  rw [any_rep k e]
  split
  · exact repl_rep k rv e r
  · refine ⟨by rw [List.map_append, List.map_append, e]; rfl, ?_⟩
    rw [List.map_append, List.map_append]
    exact r.append (.one rv)
theorem keys_len {ks : List (κ × V)} {kvs : List (κ × D)} (e : ks.map Prod.fst = kvs.map Prod.fst) : ks.length = kvs.length := by
  have := congrArg List.length e
  simpa using this
end
section
variable {K : PySem.W.Frag} {F : Fr} {σ : St} {ρ ρ' : En} {H H' : Hp} {td ty tx : TE} {ad ay ax : AE}
theorem kV_of {v : V} {d : D} {k : Key} (h : RepD K H v d) (e : dKey d = some k) : v = kV k := by
  cases d with
  | int i => unfold RepD at h; injection e with e; subst e; exact h
  | str i => unfold RepD at h; injection e with e; subst e; exact h
  | non => cases e
  | bl _ => cases e
  | tup _ => cases e
  | lst _ => cases e
def aDNew : AE := fun ρ q => q (.n (.dk [])) ρ
theorem tok_dnew : TEok K tDNewK aDNew := fun F σ ρ H q Q r h k p hp => k (.n (.dk [])) ρ _ _ h ⟨H, p, _, r, .refl, rfl, ⟨p, [], rfl, upd_same, rfl, .nil⟩, hp, rfl, rfl⟩
theorem dk_at {i : Nat} {x : V} {kvs : List (Key × D)} (r : Rel K F σ ρ H) (ei : σ[i]? = some (some x)) (hg : gt ρ i = .dk kvs) : ∃ t ks, x = .ref t ∧ H t = some (.dK ks) ∧ ks.map Prod.fst = kvs.map Prod.fst ∧ RepDs K (hid H (hs F σ ρ)) (ks.map Prod.snd) (kvs.map Prod.snd) := by
  have s := r.sl i
  rw [hg, ei] at s
  obtain ⟨t, ks, e, h1, h2, h3⟩ := s
  injection e with e; injection e with e
  exact ⟨t, ks, e, h1, h2, h3⟩
@[irreducible] def gDGet (kvs : List (Key × D)) (d : D) (q : D → Prop) : Prop := match dKey d with
  | some k => (match valD kvs k with | some x => q x | none => False)
  | none => False
theorem gDGet_inv {kvs : List (Key × D)} {d : D} {q : D → Prop} (h : gDGet kvs d q) : ∃ k x, dKey d = some k ∧ valD kvs k = some x ∧ q x := by
  unfold gDGet at h
  split at h
  · rename_i k e
    split at h
    · rename_i x e'; exact ⟨k, x, e, e', h⟩
    · exact h.elim
  · exact h.elim
theorem gDGet_ok {kvs : List (Key × D)} {d x : D} {k : Key} {q : D → Prop} (e : dKey d = some k) (e' : valD kvs k = some x) (h : q x) : gDGet kvs d q := by
  unfold gDGet
  simp only [e, e']
  exact h
def aDGet (a i : AE) : AE := fun ρ q => a ρ fun r ρ1 => match r with
  | .o j => i ρ1 fun r2 ρ2 => (match r2, gt ρ2 j with
    | .d d, .dk kvs => gDGet kvs d fun x => q (.d x) ρ2
    | _, _ => False)
  | _ => False
theorem tok_dget (ha : TEok K td ad) (hi : TEok K ty ay) : TEok K (tDGet td ty) (aDGet ad ay) := by
  intro F σ ρ H q Q r h k
  refine ha F σ ρ H _ _ r h fun r1 ρ1 x H1 h1 o1 => ?_
  obtain ⟨r1', k1, i1⟩ := o1.inF
  split at h1
  · rename_i j
    have ej : σ[j]? = some (some x) := i1
    refine hi F σ ρ1 H1 _ _ r1' h1 fun r2 ρ2 y H2 h2 o2 => ?_
    obtain ⟨r2', k2, i2⟩ := o2.inF
    split at h2
    · rename_i d kvs hg
      obtain ⟨kk, z, ek, ez, hq⟩ := gDGet_inv h2
      obtain ⟨t, ks, rfl, ht, e1, e2⟩ := dk_at r2' ej hg
      obtain ⟨v, ev, rv⟩ := (val_rep kk e1 e2).1 z ez
      refine ⟨t, v, rfl, ?_, ((k.after k1).after k2).dat r2' hq rv⟩
      rw [kV_of i2 ek, ← ev]
      exact DGet.k ht
    · exact h2.elim
  · exact h1.elim
def aDIn (neg : Bool) (i a : AE) : AE := fun ρ q => i ρ fun r ρ1 => a ρ1 fun r2 ρ2 => match r, r2 with
  | .d d, .o j => (match gt ρ2 j, dKey d with
    | .dk kvs, some k => q (.d (.bl (if neg then !(valD kvs k).isSome else (valD kvs k).isSome))) ρ2
    | _, _ => False)
  | _, _ => False
theorem isSome_rep {kvs : List (Key × D)} {ks : List (Key × V)} {k : Key} (e1 : ks.map Prod.fst = kvs.map Prod.fst) (e2 : RepDs K H (ks.map Prod.snd) (kvs.map Prod.snd)) : (valV ks k).isSome = (valD kvs k).isSome := by
  obtain ⟨a, b⟩ := val_rep k e1 e2
  cases h : valD kvs k with
  | none => rw [b h]; rfl
  | some d => obtain ⟨v, e, _⟩ := a d h; rw [e]; rfl
theorem tok_din (hi : TEok K ty ay) (ha : TEok K td ad) : TEok K (tDIn ty td) (aDIn false ay ad) := by
  intro F σ ρ H q Q r h k
  refine hi F σ ρ H _ _ r h fun r1 ρ1 y H1 h1 o1 => ?_
  obtain ⟨r1', k1, i1⟩ := o1.inF
  refine ha F σ ρ1 H1 _ _ r1' h1 fun r2 ρ2 x H2 h2 o2 => ?_
  obtain ⟨r2', k2, i2⟩ := o2.inF
  split at h2
  · rename_i d j
    have ej : σ[j]? = some (some x) := i2
    split at h2
    · rename_i kvs kk hg ek
      obtain ⟨t, ks, rfl, ht, e1, e2⟩ := dk_at r2' ej hg
      refine ⟨t, valV ks kk, rfl, ?_, ?_⟩
      · rw [kV_of i1 ek]; exact DGet.k ht
      · rw [isSome_rep e1 e2]
        exact ((k.after k1).after k2).bl r2' h2
    · exact h2.elim
  · exact h2.elim
def aDPut (x o i : AE) : AS := fun e ρ => x ρ fun r ρ1 => sto [r.frz] ρ1 fun ds ρ2 => o ρ2 fun r2 ρ3 => match r2 with
  | .o j => i ρ3 fun r3 ρ4 => (match r3, gt ρ4 j, ds with
    | .d kd, .dk kvs, [d] => (match dKey kd with | some k => kvs.length ≤ 1000000 ∧ e.nx (pt ρ4 j (.dk (putD kvs k d))) | none => False)
    | _, _, _ => False)
  | _ => False
theorem sok_dput {pr : Nat → Bool} {tv : TE} {av : AE} (h : TEok K tv av) (ho : TEok K td ad) (hi : TEok K ty ay) : TSok K pr (sDPut td ty tv) (aDPut av ad ay) := by
  intro F σ ρ H D e hp r ha k
  refine h F σ ρ H _ _ r ha fun r1 ρ1 v H1 h1 o => ?_
  obtain ⟨r', k1, i1⟩ := o.inF
  obtain ⟨ds, ρ2, h2, r2, k2, rd⟩ := sto_ok r' (.cons i1 .nil) h1
  refine ho F σ ρ2 H1 _ _ r2 h2 fun r3 ρ3 x H3 h3 o3 => ?_
  obtain ⟨r3', k3, i3⟩ := o3.inF
  split at h3
  · rename_i j
    have ej : σ[j]? = some (some x) := i3
    refine hi F σ ρ3 H3 _ _ r3' h3 fun r4 ρ4 y H4 h4 o4 => ?_
    obtain ⟨r4', k4, i4⟩ := o4.inF
    split at h4
    · rename_i kd kvs d hg
      split at h4
      · rename_i kk ek
        obtain ⟨t, ks, rfl, ht, e1, e2⟩ := dk_at r4' ej hg
        unfold RepDs at rd
        have rd4 := (RepD.same rd.1 (k3.trans k4).vis)
        obtain ⟨p1, p2⟩ := put_rep kk rd4 e1 e2
        have hw := r4'.write (i := j) (l := t) (o := .dK (putK ks kk v)) (s := .dk (putD kvs kk d)) (by rw [hg]; rfl) ej rfl ⟨t, _, rfl, upd_same, p1, p2⟩
        refine ⟨t, _, rfl, ?_, k.nx _ _ _ h4.2 hw.1⟩
        rw [kV_of i4 ek]
        exact DPut.k ht (smallS (by rw [keys_len e1]; exact h4.1))
      · exact h4.elim
    · exact h4.elim
  · exact h3.elim
end
end L2
set_option Elab.async false
set_option linter.all false
set_option maxRecDepth 100000
namespace L2
open PySem PySem.Spec PyProof.Rows
section
variable {X : Cx} {pins : List (Addr × Obj)} {σ : St} {H : Hp} {s : Shared} {h' : Heap}
theorem Inv.turns {t' : Nat} {ch : List Addr} (I : Inv X pins σ H s) (k : ∀ b o, b ∉ ch → s.heap.get? b = some o → h'.get? b = some o) (hf : ∀ b ∈ ch, FpOk X pins H b) : Inv X pins σ H { s with heap := h', toks := t' } := by
  have nit : ∀ b u, H b = some u → b ∉ ch := fun b u e z => by rw [(hf b z).1] at e; cases e
  refine I.step (g' := s.gens) (d' := s.drawn) (ch := ch) (fun b hb => ?_) (fun b o _ _ hc e _ => k b o hc e) (fun b o _ _ hc e _ => ⟨o.slots, k b o hc e⟩) (fun _ _ _ _ n => n)
    (fun b o hc e => ⟨o, k b o hc e⟩) (fun _ _ e => e) (fun _ _ _ e => e) (fun b ps e => ⟨#[], by rw [e]; simp⟩) (fun m hm => ?_) (fun b u e => ?_) I.bare
  · obtain ⟨_, h2, _, h4, h5, h6⟩ := hf b hb
    exact ⟨h4, h2, h5, h6⟩
  · obtain ⟨o, es, ep, ho, r⟩ := hm
    exact ⟨o, es, ep, k _ o (fun z => (hf _ z).2.1 rfl) ho, r⟩
  · refine (I.hok b u e).stay (fun c v hc q => k c v ?_ q) (fun _ q => q) fun _ _ q => q
    rcases hc with z | z
    · rw [z]; exact nit b u e
    · exact nit c _ z
theorem Inv.trackO {p : Addr} {o : HO} (I : Inv X pins σ H s) (hf : FpOk X pins H p) (new : ObjOk X.prog X.w (upd H p o) s.heap p o) : Inv X pins σ (upd H p o) s := by
  have hn := hf.1
  refine I.call' (ch := [p]) rfl ⟨fun b u e _ _ _ => e, fun b u e _ _ _ => ⟨u.slots, e⟩, fun b u e n hx => ?_, fun b u e _ => ⟨u, e⟩, fun b xs e => ?_, fun b u v e => ?_, fun b ps e => ⟨#[], ?_⟩⟩ (fun b u e => ?_) I.bare (fun b hb => ?_)
  · rw [upd_ne (fun z => hx (by simp [z]))]; exact n
  · rw [upd_ne (ne_of_none e hn)]; exact e
  · rw [upd_ne (ne_of_none e hn)]; exact e
  · rw [upd_ne (ne_of_none e hn), e]; simp
  · by_cases hb : b = p
    · subst hb; rw [upd_same] at e; cases e; exact new
    · rw [upd_ne hb] at e
      exact (I.hok b u e).stay (fun c v _ q => q) (fun c q => by rw [upd_ne (ne_of_none q hn)]; exact q) fun c xs q => by rw [upd_ne (ne_of_none q hn)]; exact q
  · rw [List.mem_singleton.mp hb]
    obtain ⟨_, h2, _, h4, h5, h6⟩ := hf
    exact ⟨h4, h2, h5, h6⟩
end
section
variable {K : PySem.W.Frag} {ts : TA} {as : AA}
end
end L2
set_option Elab.async false
set_option linter.all false
set_option maxRecDepth 100000
namespace L2
open PySem PySem.Spec PyProof.Rows
section
variable {prog : Program} {w : World} {A : Around} {E : Value → Shared → Prop} {s : Shared}
end
section
variable {X : Cx}
end
section
variable {K : PySem.W.Frag} {ts : TA} {as : AA}
def aNever : AS := fun _ _ => False
theorem sok_never {pr : Nat → Bool} : TSok K pr tNever aNever := fun F σ ρ H D e hp r h k => h.elim
end
end L2
set_option Elab.async false
set_option linter.all false
set_option maxRecDepth 100000
namespace L2
open PySem PySem.Spec PyProof.Rows
section
variable {X : Cx} (K : PySem.W.Frag)
end
section
variable {K : PySem.W.Frag} {ta te : TE} {a ae : AE} {ts : TA} {as : AA}
def aBits (a : AE) : AE := fun ρ q => a ρ fun r ρ1 => match r with
  | .d (.int i) => q (.d (.int (Builtin.Int.intBits i : Nat))) ρ1
  | _ => False
theorem tok_bits (ha : TEok K ta a) : TEok K (tBM0 K "int" (fun x xs H Q => ∃ i, x = .int i ∧ xs = [] ∧ Q (.int (Builtin.Int.intBits i : Nat)) H) ta) (aBits a) := by
  intro F σ ρ H q Q r h k
  refine ha F σ ρ H _ _ r h fun r1 ρ1 x H1 h1 o1 => ?_
  obtain ⟨r1', k1, i1⟩ := o1.inF
  split at h1
  · rename_i i
    have ex : x = .int i := i1.int
    subst ex
    exact ⟨by first | rfl | exact .inl rfl | trivial | simp [tyV], i, rfl, rfl, (k.after k1).int r1' h1⟩
  · exact h1.elim
end
end L2
set_option Elab.async false
set_option linter.all false
set_option maxRecDepth 100000
namespace L2
open PySem PySem.Spec PyProof.Rows
section
variable {X : Cx} {tg : Expr}
end
section
variable {K : PySem.W.Frag} {tk tv : TE} {ak av : AE} {ts : TA} {as : AA}
end
end L2
set_option Elab.async false
set_option linter.all false
set_option maxRecDepth 100000
namespace L2
open PySem PySem.Spec PyProof.Rows
section
variable {K : PySem.W.Frag} {ts : TA} {as : AA}
def enumD (k : Nat) : List D → List D
  | [] => []
  | d :: ds => .tup [.int (k : Nat), d] :: enumD (k + 1) ds
theorem enumD_get : ∀ {ds : List D} {b k : Nat} {d : D}, (enumD b ds)[k]? = some d → ∃ x, ds[k]? = some x ∧ d = .tup [.int ((b + k : Nat) : Int), x]
  | [], b, k, d, h => by simp [enumD] at h
  | x :: ds, b, 0, d, h => by
    simp only [enumD, List.getElem?_cons_zero, Option.some.injEq] at h
    exact ⟨x, rfl, h.symm⟩
  | x :: ds, b, k + 1, d, h => by
    simp only [enumD, List.getElem?_cons_succ] at h
    obtain ⟨a, e1, e2⟩ := enumD_get (ds := ds) (b := b + 1) (k := k) h
    exact ⟨a, by simpa using e1, by rw [e2, show b + 1 + k = b + (k + 1) by omega]⟩
theorem enumD_len : ∀ (ds : List D) (b : Nat), (enumD b ds).length = ds.length
  | [], b => rfl
  | x :: ds, b => by simp only [enumD, List.length_cons, enumD_len ds]
end
end L2
set_option Elab.async false
set_option linter.all false
set_option maxRecDepth 100000
namespace L2
open PySem PySem.Spec PyProof.Rows
section
variable {prog : Program} {w : World} {A : Around} {it : Addr} {own wr : List Addr} {len : Nat} {Pv : Nat → Value → Prop} {Sx : Nat → Heap → Prop} {Rz : Result → Shared → Prop}
end
section
variable {X : Cx} (K : PySem.W.Frag)
end
section
variable {K : PySem.W.Frag} {te : TE} {ae : AE} {ts : TA} {as : AA}
end
end L2
set_option Elab.async false
set_option linter.all false
set_option maxRecDepth 100000
namespace L2
open PySem PySem.Spec PyProof.Rows
open Builtin.SmallTypes (nextOf)
structure Feed (prog : Program) (w : World) (it : Addr) (dep : List Addr) (St : Nat → Heap → Prop) (gv : Nat → Option Value) : Prop where
  mem : it ∈ dep
  obj : ∀ i h, St i h → ∃ o vs n, h.get? it = some o ∧ o.data = .fields vs ∧ o.cls = .type n ∧ n ≠ "zip"
  keep : ∀ i h h', St i h → (∀ b o, b ∈ dep → h.get? b = some o → h'.get? b = some o) → St i h'
  item : ∀ (A : Around) i (s : Shared) x (Q : Value → Shared → Prop) E, St i s.heap → gv i = some x → (∀ h', St (i + 1) h' → Heap.SameBut it s.heap h' → Q x { s with heap := h' }) → wpAny (model prog w) A (nextOf (.ref it)) Q E s
  fin : ∀ (A : Around) i (s : Shared) (Q : Value → Shared → Prop) E, A.handled = none → St i s.heap → gv i = none → (∀ h' e, Heap.ExtBut it s.heap h' → (∃ o, h'.get? e = some o ∧ o.cls = .type "StopIteration") → E (.ref e) { s with heap := h' }) → wpAny (model prog w) A (nextOf (.ref it)) Q E s
section
variable {prog : Program} {w : World}
theorem feed_tup {it l : Addr} {xs : Array Value} (hne : l ≠ it) : Feed prog w it [it, l] (fun i h => h.IsTupleIter it l i ∧ h.IsTuple l xs) (fun i => xs[i]?) where
  mem := by simp
  obj := fun i h ⟨⟨o, e, c, d⟩, _⟩ => ⟨o, _, _, e, d, c, by decide⟩
  keep := fun i h h' ⟨a, b⟩ k => ⟨a.at fun o e => k it o (by simp) e, by obtain ⟨o, e, r⟩ := b; exact ⟨o, k l o (by simp) e, r⟩⟩
  item := fun A i s x Q E ⟨a, b⟩ hx k => by
    obtain ⟨o, ho, hc, hd⟩ := id a
    obtain ⟨ol, hol, rr, nl, hdl⟩ := id b
    unfold nextOf
    refine wpAny_bind (wpAny_callSpecial?_slot (name := Str.ofString "__next__") a.typeIs F.slot_tuple_iterator_next (wpAny_call_entry F.slot_tuple_iterator_next a.typeIs F.entry_tuple_iterator_next ?_ (F.args_tuple_iterator_next_1 _)))
    show wpAny _ _ (field (.ref it) 0 >>= _) _ _ s
    refine wpAny_bind (wpAny_field ho hd (x := .ref l) rfl ?_)
    show wpAny _ _ (if (Value.ref l == Value.none) = true then _ else _) _ _ s
    rw [if_neg (fun z => by cases z)]
    show wpAny _ _ (field (.ref it) 1 >>= _) _ _ s
    refine wpAny_bind (wpAny_field ho hd (x := .int i 0) rfl ?_)
    show wpAny _ _ (seqItems? (.ref l) >>= _) _ _ s
    refine wpAny_bind (wpAny_seqItems hol hdl ?_)
    simp only [Int.toNat_natCast, hx]
    refine wpAny_bind (wpAny_setField ho hd (by simp) (wpAny_pure ⟨x, rfl, wpAny_pure ?_⟩))
    refine k _ ⟨⟨_, Heap.get?_update_self _ ho (Obj.isFreed_of_fields (Obj.data_mapFields hd _)), (Obj.cls_mapFields ..).trans hc, by rw [Obj.data_mapFields hd]; simp [rawInt]⟩, ol, ?_, rr, nl, hdl⟩ (Heap.SameBut.update ..)
    exact ((Heap.SameBut.update ..).2 l hne).trans hol
  fin := fun A i s Q E hh ⟨a, b⟩ hx k => by
    obtain ⟨o, ho, hc, hd⟩ := id a
    obtain ⟨ol, hol, rr, nl, hdl⟩ := id b
    unfold nextOf
    refine wpAny_bind (wpAny_callSpecial?_slot (name := Str.ofString "__next__") a.typeIs F.slot_tuple_iterator_next (wpAny_call_entry F.slot_tuple_iterator_next a.typeIs F.entry_tuple_iterator_next ?_ (F.args_tuple_iterator_next_1 _)))
    show wpAny _ _ (field (.ref it) 0 >>= _) _ _ s
    refine wpAny_bind (wpAny_field ho hd (x := .ref l) rfl ?_)
    show wpAny _ _ (if (Value.ref l == Value.none) = true then _ else _) _ _ s
    rw [if_neg (fun z => by cases z)]
    show wpAny _ _ (field (.ref it) 1 >>= _) _ _ s
    refine wpAny_bind (wpAny_field ho hd (x := .int i 0) rfl ?_)
    show wpAny _ _ (seqItems? (.ref l) >>= _) _ _ s
    refine wpAny_bind (wpAny_seqItems hol hdl ?_)
    simp only [Int.toNat_natCast, hx]
    refine wpAny_bind (wpAny_rule (wpAny_bind (wpAny_setField ho hd (by simp) ?_)))
    show wpAny _ _ (newExc (.type "StopIteration") [] >>= _) _ _ _
    refine wpAny_bind ?_
    simp only [newExc, newTuple]
    refine wpAny_bind (wpAny_newObj_type ?_ (by size_fits))
    refine wpAny_bind (m := firstArgMember _ _) (wpAny_of_eq (a := Value.none) (by first | rfl | (simp only [firstArgMember]; rfl)) ?_)
    refine wpAny_newObj_type ?_ (by size_fits)
    simp only [raiseNew]
    refine wpAny_bind (wpAny_handled ?_)
    first | rw [show A.in1.handled = none from hh] | rw [hh]
    refine wpAny_bind (wpAny_pure (wpAny_throw ?_))
    exact k _ _ (((Heap.SameBut.update ..).extBut.push _).push _) ⟨_, Heap.get?_push_size _ rfl, rfl⟩
variable {A : Around} {E : Value → Shared → Prop} {s : Shared} {z TI TO i1 i2 : Addr} {d1 d2 : List Addr} {S1 S2 : Nat → Heap → Prop} {g1 g2 : Nat → Option Value}
end
end L2
set_option Elab.async false
set_option linter.all false
set_option maxRecDepth 100000
namespace L2
open PySem PySem.Spec PyProof.Rows
section
variable {prog : Program} {w : World} {A : Around} {E : Value → Shared → Prop} {s : Shared}
end
section
variable {K : PySem.W.Frag} {ts : TA} {as : AA}
end
end L2
set_option Elab.async false
set_option linter.all false
set_option maxRecDepth 100000
namespace L2
open PySem PySem.Spec PyProof.Rows
section
variable {X : Cx} (K : PySem.W.Frag)
end
section
variable {K : PySem.W.Frag}
end
end L2
set_option Elab.async false
set_option linter.all false
set_option maxRecDepth 100000
namespace L2
open PySem PySem.Spec PyProof.Rows
section
variable {prog : Program} {w : World} {A : Around} {E : Value → Shared → Prop} {s : Shared} {r d : Addr} {n : Nat} {P : Nat → Value → Prop} {OK : Heap → Prop}
end
theorem kv_vals {P : Program} {w : World} : ∀ {kvs : List (Key × V)} {vs : List (Key × Value)}, KV kvs vs → Vals (kvs.map Prod.snd) (vs.map Prod.snd)
  | _, _, .nil => .nil
  | _, _, .cons h t => .cons h.2 (kv_vals (P := P) (w := w) t)
section
variable {X : Cx} {o : Expr} {td : TE} {p apos cpos pos : Pos}
end
section
variable {K : PySem.W.Frag} {td : TE} {ad : AE}
end
section
variable {X : Cx}
end
section
variable {K : PySem.W.Frag} {te : TE} {ae : AE} {pr : Nat → Bool}
end
end L2
set_option Elab.async false
set_option linter.all false
set_option maxRecDepth 100000
namespace L2
open PySem PySem.Spec PyProof.Rows
section
variable {X : Cx}
def rInsert : V → List V → Hp → VK → Prop := fun x vs H Q => ∃ (l : Addr) (xs : List V) (k : Nat) (y : V), x = .ref l ∧ vs = [.int (k : Nat), y] ∧ H l = some (.lst xs) ∧ k ≤ xs.length ∧ xs.length ≤ 1000000 ∧ Q .non (upd H l (.lst (xs.take k ++ y :: xs.drop k)))
theorem vals_cut {xs : List V} {us : List Value} (h : Vals xs us) : ∀ k, Vals (xs.take k) (us.take k) ∧ Vals (xs.drop k) (us.drop k) := by
  induction h with
  | nil => intro k; rw [List.take_nil, List.take_nil, List.drop_nil, List.drop_nil]; exact ⟨.nil, .nil⟩
  | cons h t ih =>
    intro k
    cases k with
    | zero => exact ⟨.nil, .cons h t⟩
    | succ k => exact ⟨.cons h (ih k).1, (ih k).2⟩
theorem insert_at {l : Addr} {its : List Value} {n : Nat} {j : Int} {k : Nat} {t : Tok} {w : Value} {s : Shared} {Q : Value → Shared → Prop} {E : Value → Shared → Prop} {A : Around} {prog : Program} {wd : World} (hj : j = k) (hk : k ≤ its.length) (hl : its.length ≤ 1000000)
    (e : s.heap.get? l = some { cls := .type "list", data := .seq its.toArray n }) (h : ∀ f : Array Value → Array Value, f its.toArray = (its.take k ++ w :: its.drop k).toArray → Q .none { s with heap := s.heap.update l (Obj.mapSeq f), toks := s.toks }) : wpAny (model prog wd) A (call (.builtin "list.insert") [.ref l, .int j t, w]) Q E s := by
  have hf : ¬ (!Builtin.List.listFitsIndex j) = true := by
    simp [Builtin.List.listFitsIndex]
    omega
  refine call_meets PySem.F.slot_list_insert ⟨_, e, rfl⟩ PySem.F.entry_list_insert (PySem.F.args_list_insert_3 _ _ _) (PySem.AutoSeq1.list_insert_list_int_val_1 l its.toArray n j t w hf (by rw [List.size_toArray, sizeLine_eq]; omega)) ⟨e, h _ ?_⟩
  have ek : (if j < 0 then (j + (its.toArray.size : Int)).toNat else min j.toNat its.toArray.size) = k := by
    rw [if_neg (by omega), List.size_toArray]; omega
  show (its.toArray.extract 0 (if j < 0 then (j + (its.toArray.size : Int)).toNat else min j.toNat its.toArray.size)).push w ++ its.toArray.extract (if j < 0 then (j + (its.toArray.size : Int)).toNat else min j.toNat its.toArray.size) = _
  rw [ek]
  apply Array.toList_inj.mp
  simp
  rw [List.take_of_length_le (by rw [List.length_drop]; exact Nat.le_refl _)]
theorem mt_insert : MtM X "list.insert" rInsert := by
  intro pins s σ H x vs v us Q I rx rv h
  obtain ⟨l, xs, k, y, rfl, rfl, hH, hk, hl', q⟩ := h
  cases rx
  obtain ⟨u, w, rfl, ⟨t, rfl⟩, rw'⟩ := vals2 rv
  obtain ⟨z, its, n, r, hl, e⟩ := I.lstM hH
  obtain ⟨v1, v2⟩ := vals_cut r k
  refine insert_at rfl (by omega) (by omega) e fun f hf => ?_
  refine ⟨.non, _, I.lset (its' := its.take k ++ w :: its.drop k) hH e hf (v1.append (.cons rw' v2)) ?_, rfl, q⟩
  rw [List.length_append, List.length_cons, List.length_take, List.length_drop, sizeLine_eq]; omega
end
section
variable {K : PySem.W.Frag} {ta td tv : TE} {ad a av : AE} {ts : TA} {as : AA}
def aIns (a : AE) (as : AA) : AE := fun ρ q => a ρ fun r ρ1 => match r with
  | .o i => (match gt ρ1 i with
    | .ow _ => as ρ1 fun rs ρ2 => (match rs with
      | [.d (.int j), y] => sto [y] ρ2 fun es ρ3 => (match gt ρ3 i, es with
        | .ow ds, [d] => ∃ n : Nat, j = n ∧ n ≤ ds.length ∧ ds.length ≤ 1000000 ∧ q (.d .non) (pt ρ3 i (.ow (ds.take n ++ d :: ds.drop n)))
        | _, _ => False)
      | _ => False)
    | _ => False)
  | _ => False
theorem tok_ins (ha : TEok K ta a) (hs' : TAok K ts as) : TEok K (tBM K "list" rInsert ta ts) (aIns a as) := by
  intro F σ ρ H q Q r h k
  refine ha F σ ρ H _ _ r h fun r1 ρ1 x H1 h1 rel1 => ?_
  split at h1
  · rename_i i
    obtain ⟨r', k1, i1⟩ := rel1.inF
    have ex : σ[i]? = some (some x) := i1
    split at h1
    · rename_i ds0 hg0
      have s := r'.sl i
      rw [hg0, ex] at s
      obtain ⟨l, vs0, e, hl, _⟩ := s
      injection e with e; injection e with e; subst e
      refine ⟨.inl ⟨rfl, _, SqL.of hl⟩, hs' F σ ρ1 H1 _ _ r' h1 fun rs ρ2 vs H2 h2 r2 i2 k2 => ?_⟩
      split at h2
      · rename_i j y
        obtain ⟨z1, z2, rfl, iz1, iz2⟩ := i2.two
        obtain ⟨es, ρ3, h3, r3, k3, rd⟩ := sto_ok r2 (.cons iz2 .nil) h2
        split at h3
        · rename_i ds d hg
          have s := r3.sl i
          rw [hg, ex] at s
          obtain ⟨l', us, e, hl', rd'⟩ := s
          injection e with e; injection e with e; injection e with e; subst e
          obtain ⟨n, rfl, hn, hz, hq⟩ := h3
          unfold RepDs at rd
          have rdn : RepDs K (hid H2 (hs F σ ρ3)) (us.take n ++ z2 :: us.drop n) (ds.take n ++ d :: ds.drop n) := (rd'.take n).append (.cons rd.1 (rd'.drop n))
          have hw := r3.write (i := i) (l := l) (o := .lst (us.take n ++ z2 :: us.drop n)) (s := .ow (ds.take n ++ d :: ds.drop n)) (by rw [hg]; rfl) ex rfl ⟨l, _, rfl, upd_same, rdn⟩
          have ll := rd'.length
          exact ⟨l, us, n, z2, rfl, by rw [iz1.int], hl', by omega, by omega, ((((k.after k1).after k2).after k3).after hw.2).non hw.1 hq⟩
        · exact h3.elim
      · exact h2.elim
    · exact h1.elim
  · exact h1.elim
def aDNewT : AE := fun ρ q => q (.n (.dt [])) ρ
theorem tok_dnewT : TEok K tDNewT aDNewT := fun F σ ρ H q Q r h k p hp => k (.n (.dt [])) ρ _ _ h ⟨H, p, _, r, .refl, rfl, ⟨p, [], rfl, upd_same, rfl, .nil⟩, hp, rfl, rfl⟩
theorem dt_at {F : Fr} {σ : St} {ρ : En} {H : Hp} {i : Nat} {x : V} {kvs : List (List Key × D)} (r : Rel K F σ ρ H) (ei : σ[i]? = some (some x)) (hg : gt ρ i = .dt kvs) : ∃ t ks, x = .ref t ∧ H t = some (.dT ks) ∧ ks.map Prod.fst = kvs.map Prod.fst ∧ RepDs K (hid H (hs F σ ρ)) (ks.map Prod.snd) (kvs.map Prod.snd) := by
  have s := r.sl i
  rw [hg, ei] at s
  obtain ⟨t, ks, e, h1, h2, h3⟩ := s
  injection e with e; injection e with e
  exact ⟨t, ks, e, h1, h2, h3⟩
theorem InFs.length {F : Fr} {σ : St} {ρ : En} {H : Hp} {vs : List V} {rs : List R} (h : InFs K F σ ρ H vs rs) : vs.length = rs.length := by
  induction h with
  | nil => rfl
  | cons _ _ ih => rw [List.length_cons, List.length_cons, ih]
end
end L2
set_option Elab.async false
set_option linter.all false
set_option maxRecDepth 100000
namespace L2
open PySem PySem.Spec PyProof.Rows
section
variable {X : Cx} (K : PySem.W.Frag)
end
section
variable {K : PySem.W.Frag} {ta : TE} {a : AE} {ts : TA} {as : AA}
end
end L2
set_option Elab.async false
set_option linter.all false
set_option maxRecDepth 100000
namespace L2
open PySem PySem.Spec PyProof.Rows
section
variable {K : PySem.W.Frag} {t1 : TE} {a1 : AE} {S : ASp} {E : XK}
end
def Itv (a : Addr) (ob : Obj) (vs : List V) : It :=
  ⟨fun i H => (∃ u, H a = some (.frz ob u)) ∧ i < vs.length, fun i H v H' => H' = H ∧ vs[i]? = some v, fun i H => (∃ u, H a = some (.frz ob u)) ∧ vs.length ≤ i⟩
theorem turn_vals {P : Program} {w : World} {K : PySem.W.Frag} {tg : Expr} {it a : Addr} {ob : Obj} {vs : List V} {kv : List (Key × Value)} {ep : Nat} (rv : Vals vs (kv.map Prod.snd)) (ne : a ≠ it) (hob : ∀ h : Heap, h.get? a = some ob → h.DictAt (mixKind P w) a kv ep) :
    Turn P w K tg (Itv a ob vs) [it] it (fun i h => h.IsValIter it a i kv.length ep) where
  mem := by simp
  obj := fun i h st b hb => by
    obtain ⟨o1, e1, c1, d1⟩ := st
    rw [List.mem_singleton.mp hb]
    exact ⟨o1, e1, fun v q => by rw [d1] at q; cases q⟩
  keep := fun i h h' st k => st.at fun o q => k it (by simp) o q
  item := by
    intro X hP hw hK hc i pins s σ H E I hf st hg
    subst hP hw hK
    obtain ⟨⟨u, hu⟩, hi⟩ := hg
    have ha : s.heap.get? a = some ob := (show ObjOk X.prog X.w H s.heap a (.frz ob u) from I.hok a _ hu).1
    have hl : vs.length = kv.length := by have := rv.length; rw [List.length_map] at this; exact this
    obtain ⟨⟨kk, x⟩, hx⟩ : ∃ p, kv[i]? = some p := ⟨kv[i], List.getElem?_eq_getElem (by omega)⟩
    have hx' : (kv.map Prod.snd)[i]? = some x := by rw [List.getElem?_map, hx]; rfl
    have hv : ∃ v, vs[i]? = some v ∧ RelV v x := by
      obtain ⟨y, e1, e2⟩ := rv.get (i := i) (x := vs[i]) (List.getElem?_eq_getElem hi)
      rw [hx'] at e1; cases e1
      exact ⟨_, List.getElem?_eq_getElem hi, e2⟩
    obtain ⟨v, hv, rx⟩ := hv
    refine wpAny_pyNext_values_item st (hob _ ha) hx fun h' hit' hs' => ?_
    obtain ⟨o1, e1, c1, d1⟩ := id hit'
    refine ⟨_, rfl, go_of e1 c1 d1 (by decide) ?_⟩
    refine ⟨v, H, I.turns (ch := [it]) (t' := s.toks) (fun b o hb q => hs'.extBut b o (fun z => hb (by simp [z])) q) hf, rx, ⟨rfl, hv⟩, hit', fun b hb => (hf b hb).1⟩
  done := by
    intro X hP hw hK hc i pins s σ H E I hf st hg
    subst hP hw hK
    obtain ⟨⟨u, hu⟩, hi⟩ := hg
    have ha : s.heap.get? a = some ob := (show ObjOk X.prog X.w H s.heap a (.frz ob u) from I.hok a _ hu).1
    have hl : vs.length = kv.length := by have := rv.length; rw [List.length_map] at this; exact this
    refine wpAny_pyNext_values_end (I.ok.hd hc) st (hob _ ha) (by rw [List.getElem?_eq_none (by omega)]) fun h' he' => ⟨rfl, I.turns (ch := [it]) (t' := s.toks) (fun b o hb q => he' b o (fun z => hb (by simp [z])) q) hf⟩
  self := fun _ _ _ _ _ st h => wpAny_pyIter_valiter st h
def iVals (td : TE) : TI := fun σ H R => td σ H fun x H1 => ∃ a kvs, x = .ref a ∧ H1 a = some (.dK kvs) ∧ ∀ ob, R (Itv a ob (kvs.map Prod.snd)) (upd H1 a (.frz ob (.dK kvs)))
theorem pi_vals {X : Cx} {tg o : Expr} {td : TE} {apos cpos : Pos} (ho : PE X o td) (hbase : attributeBase o "values" X.env (eval o X.env) = eval o X.env := by rfl) (hline : (apos.endLine == cpos.line) = true := by rfl) :
    PI X tg (.Call (.Attribute o "values" apos) [] [] cpos) (iVals td) := by
  intro pins s σ H R I h
  refine wpAny_Call_method0_late hbase hline (thn (ho pins s σ H _ I h) fun v s1 ⟨x, H1, I1, r1, a, kvs, ex, ha, q1⟩ => ?_)
  subst ex
  obtain rfl : v = Value.ref a := r1
  obtain ⟨z, hd, vs, rel, dd⟩ := dk_of I1.hok ha
  obtain ⟨t1, t2, _⟩ := isD_at I1 (.inl ⟨kvs, .inl ha⟩)
  refine ⟨"dict", "dict.values", PySem.F.plainAttrs_dict, PySem.F.slot_dict_values, PySem.F.type_dict_values, t1, t2, Calls.callWith_builtin rfl (PySem.evalArgs_none ?_)⟩
  refine call_meetsIn PySem.F.slot_dict_values dd.typeIs PySem.F.entry_dict_values (PySem.F.args_dict_values_1 _) (meets_dict_values (mixKind X.prog X.w) a hd) ⟨⟨vs, dd⟩, ?_⟩
  obtain ⟨ep, da⟩ := dd.dictAt
  obtain ⟨ob, es, eo, r⟩ := id da
  refine wpAny_pyIter_values (knd := mixKind X.prog X.w) (kvs := vs) (ep := ep) ⟨_, Heap.get?_push_size _ rfl, rfl, rfl⟩ (da.push _) ?_
  have I2 : Inv X pins σ H1 { s1 with heap := (s1.heap.push { cls := .type "dict_values", data := .fields #[.ref a] }).push { cls := .type "dict_valueiterator", data := .fields #[.ref a, .int 0 0, .int vs.length 0, .int ep 0] } } := I1.kept (t' := s1.toks) fun b o e => Heap.get?_push_of_some _ (Heap.get?_push_of_some _ e)
  have ha2 : ((s1.heap.push { cls := .type "dict_values", data := .fields #[.ref a] }).push { cls := .type "dict_valueiterator", data := .fields #[.ref a, .int 0 0, .int vs.length 0, .int ep 0] }).get? a = some ob := Heap.get?_push_of_some _ (Heap.get?_push_of_some _ eo)
  have I3 := I2.write (x := a) (e := a) (o := .frz ob (.dK kvs)) (t' := s1.toks) (h' := (s1.heap.push { cls := .type "dict_values", data := .fields #[.ref a] }).push { cls := .type "dict_valueiterator", data := .fields #[.ref a, .int 0 0, .int vs.length 0, .int ep 0] }) (by rw [ha]; exact True.intro) (.inl rfl) (fun b q _ e => e) ⟨ob, ha2⟩ ⟨ha2, z, hd, vs, rel, ⟨ob, es, ep, ha2, r⟩⟩
  have lt : a < s1.heap.objs.size := Heap.lt_size eo
  have sz : (s1.heap.push { cls := .type "dict_values", data := .fields #[.ref a] }).objs.size = s1.heap.objs.size + 1 := Heap.size_push _ _
  have ne : a ≠ (s1.heap.push { cls := .type "dict_values", data := .fields #[.ref a] }).objs.size := by rw [sz]; exact Nat.ne_of_lt (Nat.lt_succ_of_lt lt)
  have T : Turn X.prog X.w X.K tg (Itv a ob (kvs.map Prod.snd)) [(s1.heap.push { cls := .type "dict_values", data := .fields #[.ref a] }).objs.size] (s1.heap.push { cls := .type "dict_values", data := .fields #[.ref a] }).objs.size (fun i h => h.IsValIter (s1.heap.push { cls := .type "dict_values", data := .fields #[.ref a] }).objs.size a i vs.length ep) :=
    turn_vals (kv_vals (P := X.prog) (w := X.w) rel) ne (fun h e => (⟨ob, es, e, r⟩ : h.DictAt (mixKind X.prog X.w) a vs ep))
  refine ⟨_, _, _, _, _, rfl, I3, T, ⟨_, Heap.get?_push_size _ rfl, rfl, rfl⟩, fun b hb => ?_, q1 ob⟩
  rw [List.mem_singleton.mp hb]
  refine I1.fpOk (by rw [sz]; exact Nat.le_succ _) ?_
  rw [upd_ne ne.symm, sz]
  exact I1.hok.fresh (Nat.le_succ _)
section
variable {K : PySem.W.Frag} {td : TE} {ad : AE}
def aVals (a : AE) : AI := fun ρ q => a ρ fun r ρ1 => match r with
  | .n (.dk kvs) => q (kvs.map Prod.snd) (fun _ => True) ρ1
  | _ => False
theorem tiok_vals {pin : Nat → Bool} (h : TEok K td ad) : TIok K pin (iVals td) (aVals ad) := by
  intro F σ ρ H q Rk r ha k
  refine h F σ ρ H _ _ r ha fun r1 ρ1 x H1 h1 o1 => ?_
  split at h1
  · rename_i kvs
    obtain ⟨Hb, l, o, rb, kb, so, sv, hl, rfl, rfl⟩ := o1
    obtain ⟨t, ks, e, ht, e1, e2⟩ := sv
    cases e
    rw [upd_same] at ht
    cases ht
    refine ⟨l, ks, rfl, upd_same, fun ob => ?_⟩
    have eh : upd (upd Hb l (.dK ks)) l (.frz ob (.dK ks)) = upd Hb l (.frz ob (.dK ks)) := by
      funext a
      by_cases z : a = l
      · rw [z, upd_same, upd_same]
      · rw [upd_ne z, upd_ne z, upd_ne z]
    rw [eh]
    have kf : Kp σ ρ1 ρ1 Hb (upd Hb l (.frz ob (.dK ks))) := Kp.fresh hl
    refine k _ _ _ _ _ h1 (rb.fresh hl) (kb.trans kf) fun σ2 ρ2 H2 sm _ _ _ _ => ?_
    have vl : hid (upd Hb l (.frz ob (.dK ks))) (hs F σ ρ1) l = some (.frz ob (.dK ks)) := hid_of (fun z => hs_alive rb z hl) upd_same
    have h2 : H2 l = some (.frz ob (.dK ks)) := (hid_some.mp (sm _ _ vl)).2
    have rd : RepDs K (hid H2 (hs F σ2 ρ2)) (ks.map Prod.snd) (kvs.map Prod.snd) := (e2.same kf.vis).same sm
    intro i
    refine ⟨fun d hd => ?_, fun hi => ⟨⟨_, h2⟩, by rw [rd.length]; exact hi⟩⟩
    obtain ⟨v, hv, rv⟩ := rd.get hd
    refine ⟨⟨⟨_, h2⟩, (List.getElem?_eq_some_iff.mp hv).1⟩, fun y H' hy => ?_⟩
    obtain ⟨rfl, hy⟩ := hy
    rw [hv] at hy; cases hy
    exact ⟨Same.refl _, rv⟩
  · exact h1.elim
end
end L2
set_option Elab.async false
set_option linter.all false
set_option maxRecDepth 100000
namespace L2
open PySem PySem.Spec PyProof.Rows
section
variable {M : Model} {A : Around} {E : Value → Shared → Prop} {s : Shared}
end
section
variable {X : Cx}
structure BlkC (X : Cx) (scope : Scope) (own : List Str) (js : List Nat) : Prop where
  kind : scope.kind = .function
  cells : ∀ y ∈ scope.names, y.2 = .cell → scope.names.lookup y.1 = some .cell
  names : ∀ y ∈ scope.names, y.2 = .local → scope.names.lookup y.1 = some .local
  free : ∀ y ∈ scope.names, y.2 = .free → X.env.kindOf y.1 = some .cell ∨ X.env.kindOf y.1 = some .free
  uniq : ∀ x, (x, NameKind.free) ∈ scope.names → scope.names.lookup x = some .free
  nd : (own ++ capN X.N js).Nodup
  cap : ∀ j ∈ js, j < X.N.length ∧ ((X.N[j]?).getD "", NameKind.free) ∈ scope.names
def blkCB (sc : Scope) (N : List Str) (scope : Scope) (own : List Str) (js : List Nat) : Bool :=
  scope.kind == .function && scope.names.all (fun y => y.2 != .cell || scope.names.lookup y.1 == some .cell) && scope.names.all (fun y => y.2 != .local || scope.names.lookup y.1 == some .local) &&
  scope.names.all (fun y => y.2 != .free || sc.names.lookup y.1 == some .cell || sc.names.lookup y.1 == some .free) && scope.names.all (fun y => y.2 != .free || scope.names.lookup y.1 == some .free) &&
  decide (own ++ capN N js).Nodup && js.all (fun j => decide (j < N.length) && scope.names.any fun y => y.1 == (N[j]?).getD "" && y.2 == .free)
theorem BlkC.of {scope : Scope} {own : List Str} {js : List Nat} (sc : Scope) (N : List Str) (h : blkCB sc N scope own js = true := by decide +kernel) (e1 : X.env.scope = sc := by rfl) (e2 : X.N = N := by rfl) : BlkC X scope own js := by
  subst e1 e2
  unfold blkCB at h
  simp only [Bool.and_eq_true, List.all_eq_true, decide_eq_true_eq, beq_iff_eq] at h
  obtain ⟨⟨⟨⟨⟨⟨h1, h2⟩, h3⟩, h4⟩, h5⟩, h6⟩, h7⟩ := h
  refine ⟨h1, fun y hy e => ?_, fun y hy e => ?_, fun y hy e => ?_, fun x hx => ?_, h6, fun j hj => ?_⟩
  · have := h2 y hy
    simpa [e] using this
  · have := h3 y hy
    simpa [e] using this
  · have := h4 y hy
    simp only [e, bne_self_eq_false, Bool.false_or, Bool.or_eq_true, beq_iff_eq] at this
    exact this
  · have := h5 _ hx
    simpa using this
  · obtain ⟨a, b⟩ := h7 j hj
    refine ⟨a, ?_⟩
    obtain ⟨y, hy, e⟩ := List.any_eq_true.mp b
    simp only [Bool.and_eq_true, beq_iff_eq] at e
    obtain ⟨e1, e2⟩ := e
    rw [← e1, ← e2]
    exact hy
end
end L2
set_option Elab.async false
set_option linter.all false
set_option maxRecDepth 100000
namespace L2
open PySem PySem.Spec PyProof.Rows
section
variable {X : Cx} (K : PySem.W.Frag)
end
section
variable {K : PySem.W.Frag}
end
end L2
set_option Elab.async false
set_option linter.all false
set_option maxRecDepth 100000
namespace L2
open PySem PySem.Spec PyProof.Rows
section
variable {M : Model} {A : Around} {E : Value → Shared → Prop} {s : Shared} {base : Heap} {env : Env} {outer : List Env} {L e C : Addr} {oe : Obj} {vs : Array Value} {od : Option Addr}
end
def Hot (od : Option Addr) (h0 h : Heap) (H : Hp) (e C : Addr) : Prop :=
  ∃ oe vs hv, h.get? e = some oe ∧ oe.cls = .ref C ∧ oe.dict = od ∧ oe.data = .fields vs ∧ vs[1]? = some hv ∧ h0.get? e = none ∧ H e = none ∧
    (hv = .none ∨ ∃ T oT ts, hv = .ref T ∧ T ≠ e ∧ h.get? T = some oT ∧ oT.data = .fields ts ∧ ts[3]? = some .none ∧ h0.get? T = none ∧ H T = none)
section
variable {X : Cx} {pins : List (Addr × Obj)} {σ : St} {H : Hp} {s : Shared} {h0 : Heap} {e C : Addr} {od : Option Addr}
end
def odV : Option Addr → Value
  | none => .none
  | some dx => .ref dx
def Yg (h : Heap) (od : Option Addr) : Prop := ∀ dx, od = some dx → h.get? dx = none
def CX1 (P : Program) (w : World) : CXT := fun outer H s E e s' =>
  ∃ a C od H', e = .ref a ∧ s'.os = s.os ∧ AllBare s'.gens ∧ Un (frs outer) [] H H' s.heap s'.heap ∧ HOk P w H' s'.heap ∧ Hot od s.heap s'.heap H' a C ∧ Yg s.heap od ∧ E (odV od) (some C) H'
section
variable {P : Program} {w : World} {K : PySem.W.Frag} {mg : Str → Option Value} {base : Heap} {N : List Str} {qual : Str} {scope : Scope} {f : Addr} {cd : Value} {A : Around} {outer : List Env} {s0 : Shared} {H0 : Hp} {E : XK}
end
theorem HOk.get {P : Program} {w : World} {H : Hp} {h : Heap} {a : Addr} {o : HO} (k : HOk P w H h) (e : H a = some o) : ∃ u, h.get? a = some u := by
  have x := k a o e
  cases o with
  | lst xs => obtain ⟨_, _, _, _, e⟩ := x; exact ⟨_, e⟩
  | tup xs => obtain ⟨_, _, _, ob, e, _⟩ := x; exact ⟨_, e⟩
  | dK kvs => obtain ⟨_, _, _, _, o, _, _, e, _⟩ := x; exact ⟨_, e⟩
  | dT kvs => obtain ⟨_, _, _, _, o, _, _, e, _⟩ := x; exact ⟨_, e⟩
  | set S n => obtain ⟨o, _, _, _, e, _⟩ := x; exact ⟨_, e⟩
  | ins C dx fs => obtain ⟨_, _, _, e, _⟩ := x; exact ⟨_, e⟩
  | own y => exact x
  | xd fs => obtain ⟨_, ⟨_, _, _, e, _⟩, _⟩ := x; exact ⟨_, e⟩
  | rng lo hi => obtain ⟨_, _, _, e⟩ := x; exact ⟨_, e⟩
  | frz ob u => obtain ⟨e, _⟩ := x; exact ⟨_, e⟩
  | tbl ps => exact ⟨_, x⟩
  | met f y => exact ⟨_, x⟩
  | ext φ => obtain ⟨_, e, _⟩ := x; exact e
def Fld (H : Hp) : Option Str → Option Addr → V → Prop
  | none, od, v => od = none ∧ v = .non
  | some f, od, v => ∃ dx, od = some dx ∧ H dx = some (.xd [(f, v)])
section
variable {X : Cx} {R : VK} {C : Addr}
end
theorem PA.nox {X : Cx} {es : List Expr} {t : TA} (h : PA X.nox es t) : PA X es t := fun pos pins s σ H Q I hw =>
  wpAny_mono (h pos pins s σ H Q (I.wish _) hw) (fun _ _ ⟨xs, H', I', r, q⟩ => ⟨xs, H', I'.unwish, r, q⟩) fun _ _ z => False.elim z
def XW (E : XK) (C : Addr) (fn : Option Str) : VK := fun v H' => ∀ od, Fld H' fn od v → E (odV od) (some C) H'
def spX (C : Addr) (fn : Option Str) (sp : Sp) : Sp := fun vs H Q E => sp vs H (XW E C fn) E
structure OkX (P : Program) (w : World) (K : PySem.W.Frag) (mg : Str → Option Value) (base : Heap) (k : Nat) (x : Str) (ps : List Str) (C : Addr) (fn : Option Str) (sp : Sp) : Prop where
  ex : ∃ f fd, mg x = some (.ref f) ∧ PySem.W.keepIn K (.ref f) = true ∧ Binds K fd ps [] ∧ FnOk P w K mg base (CX1 P w) k f fd ps (spX C fn sp)
theorem OkX.mono {P : Program} {w : World} {K : PySem.W.Frag} {mg : Str → Option Value} {base : Heap} {x : Str} {ps : List Str} {C : Addr} {fn : Option Str} {j k : Nat} {sp : Sp} (F : OkX P w K mg base j x ps C fn sp) (h : j ≤ k) : OkX P w K mg base k x ps C fn sp := by
  obtain ⟨f, fd, hm, hk, hb, F⟩ := F.ex
  exact ⟨f, fd, hm, hk, hb, F.mono h⟩
section
variable {P : Program} {w : World} {K : PySem.W.Frag} {mg : Str → Option Value} {base : Heap} {N : List Str} {qual : Str} {scope : Scope} {f : Addr} {cd : Value} {A : Around} {outer : List Env} {s0 : Shared} {H0 : Hp} {E : XK} {C : Addr} {fn : Option Str} {od : Option Addr}
end
section
variable {X : Cx} {E : XK} {C : Addr} {fn : Option Str} {K : PySem.W.Frag} {S : ASp}
end
section
variable {X : Cx} {pins : List (Addr × Obj)} {σ σ1 : St} {H H1 : Hp} {s s1 : Shared} {h' : Heap} {ch : List Addr} {e C : Addr}
def hcx (X : Cx) (pins : List (Addr × Obj)) (e : Addr) (oe : Obj) : Cx := { X with A := X.A.mark (some (.ref e)), calm := false, pn := X.pn ++ pins ++ [(e, oe)], xe := fun _ _ => False }
theorem Inv.hcx {oe : Obj} (I : Inv X pins σ H s) (ge : s.heap.get? e = some oe) (ue : H e = none) (nL : e ≠ X.env.locals) (nf : e ∉ X.fs) (nc : ∀ v, oe.data ≠ .cell v) : Inv (hcx X pins e oe) [] σ H s := by
  refine ⟨⟨I.ok.mod, I.ok.kind, I.ok.glob, I.ok.blt, I.ok.above, I.ok.inj, I.ok.has, I.ok.cab, fun z => (nomatch z), I.ok.frames, I.ok.stk, I.ok.exf, I.ok.bs, I.ok.bsz, I.ok.noex, I.ok.exfs, I.ok.funs, I.ok.frf⟩, I.os, I.bare, I.base, I.loc, I.cell, I.free, I.freeC, fun p hp => ?_, I.hok, I.len⟩
  have hp' : p ∈ X.pn ++ pins ∨ p = (e, oe) := by
    have : p ∈ (X.pn ++ pins ++ [(e, oe)]) ++ [] := hp
    simpa [or_assoc] using this
  rcases hp' with z | rfl
  · exact I.pin p z
  · exact ⟨ge, ue, nL, nf, nc⟩
theorem Inv.forget {oe : Obj} {m' : Str → Option Value} {t' : Nat} (I : Inv (L2.hcx X pins e oe) [] σ H s) (sb : Heap.SameBut X.env.locals s.heap h') (hn : h'.Ns X.env.locals m') (hd : X.calm = true → X.A.handled = none) (hfm : X.A.frames = some X.stack) : Inv X pins (List.replicate X.N.length none) H { s with heap := h', toks := t' } := by
  have kp : ∀ b o, b ≠ X.env.locals → s.heap.get? b = some o → h'.get? b = some o := fun b o n q => (sb.2 b n).trans q
  have n0 : ∀ b o, X.s₀.heap.get? b = some o → b ≠ X.env.locals := fun b o q => Nat.ne_of_lt (Nat.lt_of_lt_of_le (Heap.lt_size q) I.ok.above)
  have cl : ∀ x c, X.env.cells.lookup x = some c → c ≠ X.env.locals := fun x c q z => by
    obtain ⟨v, oc, hoc, hdc⟩ := I.cell x c q
    obtain ⟨m, ⟨o, es, ep, ho, hdo, _⟩, _⟩ := id I.loc
    rw [z] at hoc
    cases hoc.symm.trans (show s.heap.get? X.env.locals = some o from ho)
    rw [hdc] at hdo; cases hdo
  refine ⟨⟨I.ok.mod, I.ok.kind, I.ok.glob, I.ok.blt, I.ok.above, I.ok.inj, I.ok.has, I.ok.cab, hd, hfm, I.ok.stk, I.ok.exf, I.ok.bs, I.ok.bsz, I.ok.noex, I.ok.exfs, I.ok.funs, I.ok.frf⟩, I.os, I.bare, ⟨fun b o q n f x => kp b o (n0 b o q) (I.base.keep b o q n f x), fun b o q n f x => ?_, I.base.free, fun b o q x => ?_, I.base.tups, I.base.frzs, I.base.tbls⟩, ⟨m', hn, fun i x v _ a2 _ => ?_⟩, fun x c q => ?_, I.free, I.freeC, fun p hp => ?_, fun a o q => ?_, List.length_replicate⟩
  · obtain ⟨sl, q'⟩ := I.base.slot b o q n f x
    exact ⟨sl, kp b _ (n0 b o q) q'⟩
  · obtain ⟨o', q'⟩ := I.base.there b o q x
    exact ⟨o', kp b o' (n0 b o q) q'⟩
  · rw [List.getElem?_replicate] at a2
    split at a2 <;> cases a2
  · obtain ⟨v, oc, hoc, hdc⟩ := I.cell x c q
    exact ⟨v, oc, kp c oc (cl x c q) hoc, hdc⟩
  · have hp' : p ∈ (X.pn ++ pins ++ [(e, oe)]) ++ [] := by rw [List.append_nil]; exact List.mem_append_left _ hp
    obtain ⟨p1, p2, p3, p4, p5⟩ := I.pin p hp'
    exact ⟨kp _ _ p3 p1, p2, p3, p4, p5⟩
  · refine (I.hok a o q).stay (fun b u hb z => kp b u (fun w => ?_) z) (fun _ z => z) fun _ _ z => z
    have fr : H b = none := by rw [w]; exact I.free
    rcases hb with hb | hb
    · rw [← hb, fr] at q; cases q
    · rw [fr] at hb; cases hb
end
section
variable {X : Cx} {K : PySem.W.Frag} {S : ASp}
end
end L2
set_option Elab.async false
set_option linter.all false
set_option maxRecDepth 100000
namespace L2
open PySem PySem.Spec PyProof.Rows PySem.W
section
variable {prog : Program} {w : World} {A : Around} {E : Value → Shared → Prop} {s : Shared} {K : PySem.W.Frag} {x D : Addr} {ox : Obj} {odo : Option Obj}
end
structure ExIs (K : PySem.W.Frag) (C : Addr) : Prop where
  ga : findIn K (.ref C) "__getattribute__" = some (some (.builtin "BaseException.__getattribute__"))
  gn : findIn K (.ref C) "__getattr__" = some none
  cl : ∀ od, findObj K C od "__class__" = some (.bind (.builtin "getset_descriptor.__get__") (.builtin "object.__class__"))
  mo : mroIn K C (.type "object") = some true
  be : subIn K (.ref C) (.type "BaseException") = some true
  is : (clsIn K C).isSome = true
theorem ExIs.of {K : PySem.W.Frag} {C : Addr} (ga : findIn K (.ref C) "__getattribute__" = some (some (.builtin "BaseException.__getattribute__"))) (gn : findIn K (.ref C) "__getattr__" = some none) (hc : hasDictIn K C = true) (ha : findIn K (.ref C) "__class__" = some (some (.builtin "object.__class__")))
    (hn : specialIn K (.builtin "object.__class__") "__get__" = some (some (.builtin "getset_descriptor.__get__"))) (ht : takesIn K (.builtin "object.__class__") = some true) (mo : mroIn K C (.type "object") = some true) (be : subIn K (.ref C) (.type "BaseException") = some true) : ExIs K C := by
  obtain ⟨cd, hcd, _⟩ := any_some hc
  refine ⟨ga, gn, fun od => ?_, mo, be, by rw [hcd]; rfl⟩
  unfold findObj
  rw [hcd, Option.bind_some, ha, Option.bind_some]
  simp only [hn, ht, Option.bind_some]
section
variable {Y : Cx} {a C Dc : Addr} {oe : Obj} {vs : Array Value} {b : Bool}
end
section
variable {K : PySem.W.Frag} {pr : Nat → Bool} {t u : TS} {a b : AS} {S : ASp} {ts : TA} {as : AA} {th : Addr → TS} {ah : AS} {i : Nat}
end
end L2
set_option Elab.async false
set_option linter.all false
set_option maxRecDepth 100000
namespace L2
open PySem PySem.Spec PyProof.Rows PySem.W
section
variable {X : Cx} {pins : List (Addr × Obj)} {σ σ1 : St} {H H1 : Hp} {s s1 : Shared} {h' : Heap} {e C : Addr}
end
section
variable {X : Cx} {K : PySem.W.Frag} {S : ASp}
end
section
variable {X : Cx} {R : VK} {E : XK} {C : Addr} {fn : Option Str} {K : PySem.W.Frag} {S : ASp}
end
section
variable {Y : Cx} (K : PySem.W.Frag)
end
section
variable {K : PySem.W.Frag} {pr : Nat → Bool} {F : Fr} {σ : St} {ρ : En} {H : Hp} {th : TS} {ah : AS} {S : ASp} {ts : TA} {as : AA} {ta : TE} {a : AE}
end
end L2
set_option Elab.async false
set_option linter.all false
set_option maxRecDepth 100000
namespace L2
open PySem PySem.Spec PyProof.Rows Builtin
section
variable {X : Cx} (K : PySem.W.Frag)
end
section
variable {K : PySem.W.Frag}
end
end L2
set_option Elab.async false
set_option linter.all false
set_option maxRecDepth 100000
namespace L2
open PySem PySem.Spec PyProof.Rows
section
variable {K : PySem.W.Frag} {ts : TA} {as : AA}
end
end L2
set_option Elab.async false
set_option linter.all false
set_option maxRecDepth 100000
namespace L2
open PySem PySem.Spec PyProof.Rows
theorem draws_tup {prog : Program} {w : World} {A : Around} (hh : A.handled = none) (it l : Addr) (hne : l ≠ it) (xs : Array Value) :
    Draws prog w A it [it, l] xs.size (fun i v => xs[i]? = some v) (fun i h => h.IsTupleIter it l i ∧ h.IsTuple l xs) where
  live := fun _ _ st => let ⟨o, ho, _⟩ := st.1; ⟨o, ho⟩
  frame := fun _ _ _ st hk => (feed_tup (prog := prog) (w := w) hne).keep _ _ _ st fun b o hb e => hk b hb o e
  item := fun i s Q E hi st hQ => (feed_tup hne).item A i s xs[i] Q E st (by simp [hi]) fun h' st' sb => hQ _ h' s.toks (by simp [hi]) st' sb
  done := fun s Q E st hE => (feed_tup hne).fin A xs.size s Q E hh st (by simp) hE
open AutoSeq1 (wpAny_loadPart') in
theorem meets_enumT (l : Addr) (xs : Array Value) :
    Meets (Builtin.«enumerate.__new__» ⟨[.type "enumerate", .ref l], []⟩) (fun _ R s => s.heap.IsTuple l xs ∧
      R (.ok (.ret (.ref (s.heap.push { cls := .type "tuple_iterator", data := .fields #[.ref l, .int 0 0] }).objs.size)))
        { s with heap := (s.heap.push { cls := .type "tuple_iterator", data := .fields #[.ref l, .int 0 0] }).push { cls := .type "enumerate", data := .fields #[.none, .bool false, .ref s.heap.objs.size, rawInt 0, .none, .none] } }) :=
  .of_wp fun prog w A R s h => by
    obtain ⟨hp, g, d, tk, os⟩ := s; obtain ⟨hl, h⟩ := h
    have hsub := sub_enumerate
    have hL : Heap.IsTuple (Shared.heap ⟨hp, g, d, tk, os⟩) l xs := hl
    wp_walk
    refine wpAny_stack_any fun st => wpAny_pure ?_
    split
    · rename_i c _ _ _ _ _
      cases (c == Value.type "enumerate")
      · wp_walk using wpAny_pyIter_tuple hL
        exact ⟨_, rfl, h⟩
      · wp_walk using wpAny_pyIter_tuple hL
        exact ⟨_, rfl, h⟩
    · wp_walk using wpAny_pyIter_tuple hL
      exact ⟨_, rfl, h⟩
theorem call_enumT {prog : Program} {w : World} {A : Around} {E : Value → Shared → Prop} {s : Shared} {l : Addr} {xs : Array Value} {Q : Value → Shared → Prop} (hL : s.heap.IsTuple l xs)
    (h : ∀ h', IsEnum h' (s.heap.objs.size + 1) s.heap.objs.size 0 .none → h'.IsTupleIter s.heap.objs.size l 0 → h'.objs.size = s.heap.objs.size + 2 →
      (∀ b o, s.heap.get? b = some o → h'.get? b = some o) → Q (.ref (s.heap.objs.size + 1)) { s with heap := h' }) :
    wpAny (model prog w) A (call (.type "enumerate") [.ref l]) Q E s := by
  refine callType_new F.called_enumerate (by decide) (F.typeCall_enumerate_1 _) (F.newCall_enumerate_1 _) (fun obj => F.args_object_init_2 obj _) F.entry_enumerate_new
    (meets_enumT l xs) ⟨hL, ?_⟩
  have hz : (s.heap.push { cls := .type "tuple_iterator", data := .fields #[.ref l, .int 0 0] }).objs.size = s.heap.objs.size + 1 := Heap.size_push ..
  show _ ∧ _
  rw [hz]
  have he : IsEnum ((s.heap.push { cls := .type "tuple_iterator", data := .fields #[.ref l, .int 0 0] }).push
      { cls := .type "enumerate", data := .fields #[.none, .bool false, .ref s.heap.objs.size, rawInt 0, .none, .none] }) (s.heap.objs.size + 1) s.heap.objs.size 0 .none := by
    have := Heap.get?_push_size (s.heap.push { cls := .type "tuple_iterator", data := .fields #[.ref l, .int 0 0] })
      (o := { cls := .type "enumerate", data := .fields #[.none, .bool false, .ref s.heap.objs.size, rawInt 0, .none, .none] }) rfl
    rw [hz] at this; exact this
  refine ⟨⟨_, he, rfl⟩, h _ he ⟨_, Heap.get?_push_of_some _ (Heap.get?_push_size _ rfl), rfl, rfl⟩ (by rw [Heap.size_push, hz]) fun b o x => Heap.get?_push_of_some _ (Heap.get?_push_of_some _ x)⟩
def Itf (K : PySem.W.Frag) (l : Addr) (n : Nat) : It :=
  ⟨fun i H => ∃ xs x, SqT K H l xs ∧ xs.length = n ∧ xs[i]? = some x, fun i H v H' => ∃ p x, v = .ref p ∧ H p = none ∧ H' = upd H p (.tup [.int (i : Nat), x]) ∧ ∀ xs, SqT K H l xs → xs[i]? = some x,
   fun i H => n ≤ i ∧ ∃ xs, SqT K H l xs ∧ xs.length = n⟩
theorem turn_enumT {P : Program} {w : World} {K : PySem.W.Frag} {elts : List Expr} {x1} {tpos : Pos} {e it l : Addr} {n : Nat} (ne : e ≠ it) (nl : l ≠ it) (nel : e ≠ l) :
    Turn P w K (.Tuple elts x1 tpos) (Itf K l n) [e, it] e (fun i h => ((∃ old, IsEnum h e it (i : Nat) old) ∧ h.IsTupleIter it l i) ∧ i ≤ n) where
  mem := by simp
  obj := fun i h st b hb => by
    obtain ⟨⟨⟨old, he⟩, ⟨o1, e1, c1, d1⟩⟩, _⟩ := st
    simp only [List.mem_cons, List.not_mem_nil, or_false] at hb
    rcases hb with rfl | rfl
    · exact ⟨_, he, fun v q => by cases q⟩
    · exact ⟨o1, e1, fun v q => by rw [d1] at q; cases q⟩
  keep := fun i h h' st k => by
    obtain ⟨⟨⟨old, he⟩, h1⟩, hi⟩ := st
    exact ⟨⟨⟨old, k e (by simp) _ he⟩, h1.at fun o q => k it (by simp) o q⟩, hi⟩
  item := by
    intro X hP hw hK hc i pins s σ H E I hf st hg
    subst hP hw hK
    obtain ⟨xs, x, q1, hln, hx⟩ := hg
    obtain ⟨⟨⟨old, he⟩, h1⟩, hin⟩ := st
    obtain ⟨its, rv, p1, _⟩ := I.tuple q1
    have hxi := (List.getElem?_eq_some_iff.mp hx).1
    obtain ⟨u, hu, ru⟩ := rv.get hx
    have hlt : i < its.toArray.size := by rw [List.size_toArray]; exact (List.getElem?_eq_some_iff.mp hu).1
    refine wpAny_pyNext_enum_itemD (draws_tup (show X.A.in1.handled = none from I.ok.hd hc) it l nl its.toArray) he ⟨h1, p1⟩ hlt ne (by simp [ne, nel]) fun y h' tk hy a1 a2 a3 a4 hk => ?_
    have ey : y = u := by
      have hy' : its[i]? = some y := by simpa using hy
      rw [hu] at hy'; cases hy'; rfl
    subst ey
    refine ⟨_, rfl, wpAny_letOwnedTupleGo_enum (s := { s with heap := h', toks := tk + 1 }) a1 fun h2' he' hs' => ?_⟩
    have hs2 : Heap.SameBut e h' h2' := hs'
    have ls : ∀ {b o}, s.heap.get? b = some o → b ≠ s.heap.objs.size := fun e => Nat.ne_of_lt (Heap.lt_size e)
    have es : e ≠ s.heap.objs.size := ls he
    have up : ∀ b o, b ∉ [e, it] → s.heap.get? b = some o → h2'.get? b = some o := fun b o hb q => by
      simp only [List.mem_cons, List.not_mem_nil, or_false, not_or] at hb
      exact (hs2.2 b hb.1).trans (hk b o hb.1 hb.2 q)
    have I1 : Inv X pins σ H { s with heap := h2', toks := tk + 1 } := I.turns (t' := tk + 1) up hf
    have fp : FpOk X pins H s.heap.objs.size := I.fpOk (Nat.le_refl _) (I.hok.fresh (Nat.le_refl _))
    have g : h2'.get? s.heap.objs.size = some { cls := .type "tuple", data := .seq #[.int i tk, y] } := (hs2.2 _ (Ne.symm es)).trans a3
    have I2 := I1.trackO (o := .tup [.int (i : Nat), x]) fp ⟨by show 2 ≤ sizeLine; decide, [.int i tk, y], .cons ⟨_, rfl⟩ (.cons ru .nil), _, g, rfl, _, rfl⟩
    refine ⟨.ref s.heap.objs.size, upd H s.heap.objs.size (.tup [.int (i : Nat), x]), I2, rfl, ⟨_, x, rfl, fp.1, rfl, fun zs hz => by rw [I.tuple_inj hz q1]; exact hx⟩, ?_, fun b hb => ?_⟩
    · refine ⟨⟨⟨y, by simpa using he'⟩, ?_⟩, by omega⟩
      obtain ⟨o, q, r⟩ := a2.1; exact ⟨o, (hs2.2 it (Ne.symm ne)).trans q, r⟩
    · have hb' := (hf b hb).1
      have ne' : b ≠ s.heap.objs.size := by
        obtain ⟨o1, e1, _⟩ := h1
        simp only [List.mem_cons, List.not_mem_nil, or_false] at hb
        rcases hb with rfl | rfl
        · exact ls he
        · exact ls e1
      rw [upd_ne ne']; exact hb'
  done := by
    intro X hP hw hK hc i pins s σ H E I hf st hg
    subst hP hw hK
    obtain ⟨hni, xs, q1, hl⟩ := hg
    obtain ⟨⟨⟨old, he⟩, h1⟩, hin⟩ := st
    obtain ⟨its, rv, p1, _⟩ := I.tuple q1
    have l1 := rv.length
    have ei : i = its.toArray.size := by rw [List.size_toArray]; omega
    subst ei
    refine wpAny_pyNext_enum_endD (draws_tup (show X.A.in1.handled = none from I.ok.hd hc) it l nl its.toArray) he ⟨h1, p1⟩ fun h' hk => ⟨rfl, I.turns (ch := [e, it]) (t' := s.toks) (fun b o hb q => ?_) hf⟩
    simp only [List.mem_cons, List.not_mem_nil, or_false, not_or] at hb
    exact hk b o hb.2 q
  self := fun _ _ _ _ _ st h => by obtain ⟨⟨⟨old, he⟩, _⟩, _⟩ := st; exact wpAny_pyIter_enum he h
def iEnumT (K : PySem.W.Frag) (t : TA) : TI := fun σ H R => t σ H fun vs H1 => ∃ l xs, vs = [.ref l] ∧ SqT K H1 l xs ∧ R (Itf K l xs.length) H1
theorem pi_enumT (K : PySem.W.Frag) {X : Cx} {elts : List Expr} {x1} {tpos : Pos} {a : Expr} {ta : TA} {p pos : Pos} (hg : Gl X "enumerate") (hm : X.mg "enumerate" = none) (ha : PA X [a] ta) (hK : X.K = K := by rfl) (hs : starEach [a] X.env = [(false, eval a X.env)] := by rfl) :
    PI X (.Tuple elts x1 tpos) (.Call (.Name "enumerate" p) [a] [] pos) (iEnumT K ta) := by
  subst hK
  intro pins s σ H R I h
  refine Call_ (ld_blt I hg hm bt_enumerate (PyProof.Rows.callWith_type1 (thn (ha pos pins s σ H _ I h) fun us s1 ⟨vs, H1, I1, r1, q1⟩ => ?_) hs rfl))
  obtain ⟨l, xs, rfl, h1, q⟩ := q1
  obtain ⟨u, rfl, ru⟩ := vals1 r1
  cases ru
  obtain ⟨its, _, p1, _⟩ := I1.tuple h1
  have lt : l < s1.heap.objs.size := by obtain ⟨o, e, _⟩ := id p1; exact Heap.lt_size e
  refine call_enumT p1 fun h' he hi hsz hk => ?_
  refine wpAny_pyIter_enum he ?_
  refine ⟨_, _, _, _, H1, rfl, I1.kept (t' := s1.toks) hk, turn_enumT (show s1.heap.objs.size + 1 ≠ s1.heap.objs.size by omega) (Nat.ne_of_lt lt) (Ne.symm (Nat.ne_of_lt (Nat.lt_succ_of_lt lt))), ⟨⟨⟨_, he⟩, hi⟩, Nat.zero_le _⟩, fun b hb => ?_, q⟩
  have le : s1.heap.objs.size ≤ b := by
    simp only [List.mem_cons, List.not_mem_nil, or_false] at hb
    rcases hb with rfl | rfl <;> omega
  exact I1.fpOk le (I1.hok.fresh le)
section
variable {K : PySem.W.Frag} {ts : TA} {as : AA}
theorem wk_enumT {S : Addr → Prop} {H : Hp} {l : Addr} {vs : List V} {ds : List D} (al : ∀ a, S a → H a ≠ none) (h1 : SqT K H l vs) (r1 : RepDs K (hid H S) vs ds) : WkAt K S H (Itf K l vs.length) (enumD 0 ds) := by
  intro k
  constructor
  · intro d e
    obtain ⟨x, ex, rfl⟩ := enumD_get e
    rw [Nat.zero_add]
    obtain ⟨v, e1, rv⟩ := r1.get ex
    refine ⟨⟨vs, v, h1, rfl, e1⟩, fun z H' ⟨p, a, ez, hp, eH, ha⟩ => ?_⟩
    have a1 := ha vs h1
    rw [e1] at a1
    cases a1
    subst eH ez
    have sm : Same H (upd H p (.tup [.int (k : Nat), v])) := (Same.refl H).new hp
    have sm' : Same (hid H S) (hid (upd H p (.tup [.int (k : Nat), v])) S) := hid_same fun a o e n => ⟨sm a o e, n⟩
    refine ⟨sm, ?_⟩
    unfold RepD
    exact ⟨p, [.int (k : Nat), v], rfl, (hid_of (fun z => al p z hp) upd_same), .cons (by unfold RepD; rfl) (.cons (rv.same sm') .nil)⟩
  · intro z
    rw [enumD_len] at z
    exact ⟨by rw [r1.length]; exact z, vs, h1, rfl⟩
def aEnumT (as : AA) : AI := fun ρ q => as ρ fun rs ρ1 => match rs with
  | [.d (.tup ds)] => q (enumD 0 ds) (fun _ => True) ρ1
  | _ => False
theorem tiok_enumT {pin : Nat → Bool} (h : TAok K ts as) : TIok K pin (iEnumT K ts) (aEnumT as) := by
  intro F σ ρ H q Rk r ha k
  refine h F σ ρ H _ _ r ha fun rs ρ1 vs H1 h1 r1 i1 k1 => ?_
  split at h1
  · rename_i ds
    obtain ⟨x, rfl, ix⟩ := i1.one
    have rd : RepD K _ x (.tup ds) := ix
    unfold RepD at rd
    obtain ⟨a, vs, rfl, sq, rd⟩ := rd
    refine ⟨a, vs, rfl, hid_sub.seqT sq.sq, k _ _ _ _ _ h1 r1 k1 fun σ2 ρ2 H2 sm sv pn al hc => ?_⟩
    exact wk_enumT (fun a z => (al a z).1) (hid_sub.seqT (sm.seqT sq.sq)) (rd.same sm)
  · exact h1.elim
end
end L2
set_option Elab.async false
set_option linter.all false
set_option maxRecDepth 100000
namespace L2
open PySem PySem.Spec PyProof.Rows PySem.W
section
variable {prog : Program} {w : World} {A : Around} {E : Value → Shared → Prop} {h : Heap} {g : Array GenState} {d : Drawn} {t : Nat} {os : OsState}
variable {nm q : Str} {C N : Addr} {bs bm bmB : List Value} {hdct : Bool} {sn : List Str} {sub : List Value} {ab : Bool} {col : Option Bool} {dd : Option Addr} {k0 k1 k2 k3 k5 : Option Value} {B newId initId : String}
end
section
variable {M : Model} {A : Around} {E : Value → Shared → Prop} {env : Env}
variable {nm q : Str} {C N : Addr} {bs bm : List Value} {hdct : Bool} {sn : List Str} {sub : List Value} {ab : Bool} {col : Option Bool} {dd : Option Addr} {k0 k1 k2 k3 k5 : Option Value} {newId : String}
end
section
variable {prog : Program} {w : World} {A : Around} {E : Value → Shared → Prop} {s : Shared} {env : Env}
variable {nm q : Str} {C N : Addr} {bs bm bmB : List Value} {hdct : Bool} {sn : List Str} {sub : List Value} {ab : Bool} {col : Option Bool} {dd : Option Addr} {k0 k1 k2 k3 k5 : Option Value} {B newId initId : String}
end
end L2
set_option Elab.async false
set_option linter.all false
set_option maxRecDepth 100000
namespace L2
open PySem PySem.Spec PyProof.Rows PySem.W Builtin Builtin.ObjectAttr
section
variable {prog : Program} {w : World} {A : Around} {E : Value → Shared → Prop} {h : Heap} {g : Array GenState} {d : Drawn} {t : Nat} {os : OsState} {K : PySem.W.Frag}
variable {nm q : Str} {C N x : Addr} {bs bm : List Value} {sn : List Str} {sub : List Value} {ab : Bool} {col : Option Bool} {dd : Option Addr} {k0 k1 k2 k3 k5 : Option Value} {newId : String} {hdct : Bool} {name : Str} {v : Value} {o : Obj}
end
end L2
set_option Elab.async false
set_option linter.all false
set_option maxRecDepth 100000
namespace L2
open PySem PySem.Spec PyProof.Rows PySem.W
def exI (e C : Addr) (od : Option Addr) : Heap → Prop := fun h => ∃ t, h.get? e = some { cls := .ref C, dict := od, data := .fields #[.ref t, .none, .none, .none, .bool false, .none] }
theorem exI.ok {P : Program} {w : World} {H : Hp} {h : Heap} {e C : Addr} {od : Option Addr} (q : exI e C od h) : ObjOk P w H h e (.ext (exI e C od)) :=
  ⟨q, let ⟨t, g⟩ := q; ⟨_, g⟩, fun h1 h2 ⟨t, g⟩ k => ⟨t, k _ g⟩⟩
section
variable {X : Cx} {pins : List (Addr × Obj)} {σ σ1 : St} {H H1 : Hp} {s s1 : Shared} {h' : Heap} {e C : Addr}
end
section
variable {X : Cx} {C D : Addr} {y f : Str} {np apos cpos pos pos' sp : Pos} {e text value : Expr} {es : List Expr} {t : TA} {tv : TE}
end
end L2
set_option Elab.async false
set_option linter.all false
set_option maxRecDepth 100000
namespace L2
open PySem PySem.Spec PyProof.Rows PySem.W
section
variable {X : Cx} {R : VK} {C fI : Addr} {f x : Str}
end
section
variable {K : PySem.W.Frag} {C : Addr} {f : Str} {pr : Nat → Bool} {t0 : TE} {a0 : AE}
end
end L2
set_option Elab.async false
set_option linter.all false
set_option maxRecDepth 100000
namespace L2
open PySem PySem.Spec PyProof.Rows PySem.W
section
variable {prog : Program} {w : World} {A : Around} {E : Value → Shared → Prop} {s : Shared} {K : PySem.W.Frag} {x D : Addr} {ox : Obj} {odo : Option Obj}
end
section
variable {X : Cx} {e : Expr} {ta : TE} {f : Str} {pos : Pos} {K : PySem.W.Frag}
end
end L2
set_option Elab.async false
set_option linter.all false
set_option maxRecDepth 100000
namespace L2
open PySem PySem.Spec PyProof.Rows PySem.W
end L2
set_option Elab.async false
set_option linter.all false
set_option maxRecDepth 100000
namespace L2
open PySem PySem.Spec PyProof.Rows
section
variable {P : Program} {w : World} {A : Around} {R : Result → Shared → Prop} {s : Shared}
theorem compTurn_two0 (elt tg iter tg2 iter2 : Expr) (ifs ifs2 : List Expr) (scope : Scope) (pos : Pos) (it acc : Value) (env : Env) :
    compTurn (.ListComp elt [⟨tg, iter, ifs, 0⟩, ⟨tg2, iter2, ifs2, 0⟩] scope pos) 0 it acc env = (do
      standAt iter.pos
      match ← pyNext it with
      | none => pure (.done .next)
      | some v =>
        letOwnedTupleGo tg it v
        assign tg env v
        let mut ok := true
        for c in ifs do
          if ok then ok ← isTrue c env (eval c env)
        if ok then
          let x ← eval iter2 env
          standAt iter2.pos
          let x ← foldedSetIterable iter2 env x
          let _ ← runOwn (.compStart (.ListComp elt [⟨tg, iter, ifs, 0⟩, ⟨tg2, iter2, ifs2, 0⟩] scope pos) 1 (← holding [x] (pyIter x)) acc env) env
        again (.compLoop (.ListComp elt [⟨tg, iter, ifs, 0⟩, ⟨tg2, iter2, ifs2, 0⟩] scope pos) 0 it acc env)) := by rfl
theorem compTurn_two1 (elt tg iter tg2 iter2 : Expr) (ifs ifs2 : List Expr) (scope : Scope) (pos : Pos) (it acc : Value) (env : Env) :
    compTurn (.ListComp elt [⟨tg, iter, ifs, 0⟩, ⟨tg2, iter2, ifs2, 0⟩] scope pos) 1 it acc env = (do
      standAt iter2.pos
      match ← pyNext it with
      | none => pure (.done .next)
      | some v =>
        letOwnedTupleGo tg2 it v
        assign tg2 env v
        let mut ok := true
        for c in ifs2 do
          if ok then ok ← isTrue c env (eval c env)
        if ok then
          (do let _ ← call (.builtin "list.append") [acc, ← eval elt env])
        again (.compLoop (.ListComp elt [⟨tg, iter, ifs, 0⟩, ⟨tg2, iter2, ifs2, 0⟩] scope pos) 1 it acc env)) := by rfl
abbrev tests (M : Model) (A : Around) (ifs : List Expr) (env : Env) (Q : Bool → Shared → Prop) (s : Shared) : Prop :=
  wpAny M A (forIn ifs true fun c r => if r = true then do let ok ← isTrue c env (eval c env); pure (ForInStep.yield ok) else pure (ForInStep.yield r)) Q (fun _ _ => False) s
theorem comp2_by1 {elt tg iter tg2 iter2 : Expr} {ifs ifs2 : List Expr} {scope : Scope} {pos : Pos} {it acc : Value} {env : Env} (J : Nat → Shared → Prop)
    (turn : ∀ n s, J n s → wpAny (model P w) A (pyNext it) (fun r s1 => match r with
      | none => R (.ok .next) s1
      | some v => wpAny (model P w) A (letOwnedTupleGo tg2 it v) (fun _ s2 => wpAny (model P w) A (assign tg2 env v) (fun _ s3 =>
          tests (model P w) A ifs2 env (fun ok s4 =>
            if ok = true then wpAny (model P w) A (eval elt env) (fun x s5 => wpAny (model P w) A (call (.builtin "list.append") [acc, x]) (fun _ s6 => ∃ m, m < n ∧ J m s6) (fun _ _ => False) s5) (fun _ _ => False) s4
            else ∃ m, m < n ∧ J m s4) s3) (fun _ _ => False) s2) (fun _ _ => False) s1) (fun _ _ => False) s)
    (n : Nat) (h : J n s) : codeAny (model P w) A (.compLoop (.ListComp elt [⟨tg, iter, ifs, 0⟩, ⟨tg2, iter2, ifs2, 0⟩] scope pos) 1 it acc env) R s := by
  have no : ∀ {α : Type} {t : Sem α} {Q Q' : α → Shared → Prop} {E : Value → Shared → Prop} {s : Shared}, wpAny (model P w) A t Q (fun _ _ => False) s → (∀ a s, Q a s → Q' a s) → wpAny (model P w) A t Q' E s :=
    fun h hq => wpAny_mono h hq fun _ _ f => f.elim
  refine codeAny_loop rfl J (fun n s hJ => ?_) n h
  show wpAny _ A ((compTurn (.ListComp elt [⟨tg, iter, ifs, 0⟩, ⟨tg2, iter2, ifs2, 0⟩] scope pos) 1 it acc env).onRaise (fun x => do noteFrame x env; theTreesLotGoes x)) _ _ s
  refine wpAny_noted ?_
  rw [compTurn_two1]
  refine wpAny_bind (wpAny_standAt (wpAny_bind (no (turn n s hJ) fun r s1 h1 => ?_)))
  cases r with
  | none => exact wpAny_pure h1
  | some v =>
    refine wpAny_bind (no h1 fun _ s2 h2 => wpAny_bind (no h2 fun _ s3 h3 => wpAny_bind (no h3 fun ok s4 h4 => ?_)))
    cases ok with
    | false => exact wpAny_pure ⟨rfl, h4⟩
    | true => exact wpAny_bind (wpAny_bind (no h4 fun x s5 h5 => wpAny_bind (no h5 fun _ s6 h6 => wpAny_pure (wpAny_pure ⟨rfl, h6⟩))))
theorem comp2_by0 {elt tg iter tg2 iter2 : Expr} {ifs ifs2 : List Expr} {scope : Scope} {pos : Pos} {it acc : Value} {env : Env} (J : Nat → Shared → Prop) (hf : ∀ x, foldedSetIterable iter2 env x = pure x)
    (turn : ∀ n s, J n s → wpAny (model P w) A (pyNext it) (fun r s1 => match r with
      | none => R (.ok .next) s1
      | some v => wpAny (model P w) A (letOwnedTupleGo tg it v) (fun _ s2 => wpAny (model P w) A (assign tg env v) (fun _ s3 =>
          tests (model P w) A ifs env (fun ok s4 =>
            if ok = true then wpAny (model P w) A (eval iter2 env) (fun x s5 => wpAny (model P w) A (pyIter x) (fun itv s6 =>
              codeAny (model P w) A (.compStart (.ListComp elt [⟨tg, iter, ifs, 0⟩, ⟨tg2, iter2, ifs2, 0⟩] scope pos) 1 itv acc env) (fun r s7 => r = .ok .next ∧ ∃ m, m < n ∧ J m s7) s6) (fun _ _ => False) s5) (fun _ _ => False) s4
            else ∃ m, m < n ∧ J m s4) s3) (fun _ _ => False) s2) (fun _ _ => False) s1) (fun _ _ => False) s)
    (n : Nat) (h : J n s) : codeAny (model P w) A (.compLoop (.ListComp elt [⟨tg, iter, ifs, 0⟩, ⟨tg2, iter2, ifs2, 0⟩] scope pos) 0 it acc env) R s := by
  have no : ∀ {α : Type} {t : Sem α} {Q Q' : α → Shared → Prop} {E : Value → Shared → Prop} {s : Shared}, wpAny (model P w) A t Q (fun _ _ => False) s → (∀ a s, Q a s → Q' a s) → wpAny (model P w) A t Q' E s :=
    fun h hq => wpAny_mono h hq fun _ _ f => f.elim
  refine codeAny_loop rfl J (fun n s hJ => ?_) n h
  show wpAny _ A ((compTurn (.ListComp elt [⟨tg, iter, ifs, 0⟩, ⟨tg2, iter2, ifs2, 0⟩] scope pos) 0 it acc env).onRaise (fun x => do noteFrame x env; theTreesLotGoes x)) _ _ s
  refine wpAny_noted ?_
  rw [compTurn_two0]
  refine wpAny_bind (wpAny_standAt (wpAny_bind (no (turn n s hJ) fun r s1 h1 => ?_)))
  cases r with
  | none => exact wpAny_pure h1
  | some v =>
    refine wpAny_bind (no h1 fun _ s2 h2 => wpAny_bind (no h2 fun _ s3 h3 => wpAny_bind (no h3 fun ok s4 h4 => ?_)))
    cases ok with
    | false => exact wpAny_pure ⟨rfl, h4⟩
    | true =>
      refine wpAny_bind (no h4 fun x s5 h5 => wpAny_bind (wpAny_standAt (wpAny_bind (wpAny_of_eq (hf x) (wpAny_bind (wpAny_holding (no h5 fun itv s6 h6 => ?_)))))))
      refine wpAny_bind (wpAny_runOwn (codeAny_mono h6 fun r s7 h7 => ?_))
      obtain ⟨rfl, h7⟩ := h7
      exact wpAny_pure ⟨rfl, h7⟩
theorem compStart_two1 {elt tg iter tg2 iter2 : Expr} {ifs ifs2 : List Expr} {scope : Scope} {pos : Pos} {it acc : Value} {env : Env}
    (h0 : codeAny (model P w) A (.compLoop (.ListComp elt [⟨tg, iter, ifs, 0⟩, ⟨tg2, iter2, ifs2, 0⟩] scope pos) 1 it acc env) R s)
    (h : wpAny (model P w) A (pyIter it) (fun it' s' => codeAny (model P w) A (.compLoop (.ListComp elt [⟨tg, iter, ifs, 0⟩, ⟨tg2, iter2, ifs2, 0⟩] scope pos) 1 it' acc env) R s') (notedBy (model P w) A env fun x s' => R (.error x) s') s) :
    codeAny (model P w) A (.compStart (.ListComp elt [⟨tg, iter, ifs, 0⟩, ⟨tg2, iter2, ifs2, 0⟩] scope pos) 1 it acc env) R s := by
  refine codeAny_of_tree ?_
  show wpAny _ _ ((compStart (.ListComp elt [⟨tg, iter, ifs, 0⟩, ⟨tg2, iter2, ifs2, 0⟩] scope pos) 1 it acc env).onRaise (fun x => do noteFrame x env; standAt theWindowsPlace)) _ _ s
  refine wpAny_notedAt ?_
  unfold compStart
  show wpAny _ _ (ask >>= _) _ _ s
  refine wpAny_bind (wpAny_askSetting (wpAny_ite ?_))
  split
  · first
      | exact wpAny_bind (wpAny_pure (wpAny_pure (And.intro rfl h0)))
      | exact wpAny_pure (And.intro rfl h0)
  · first
      | exact wpAny_bind (wpAny_rule (wpAny_bind (wpAny_standAt (wpAny_bind (wpAny_mono h (fun it' s' h' => wpAny_pure (And.intro rfl h')) fun _ _ x => x)))))
      | (refine wpAny_bind (wpAny_rule ?_); show wpAny _ _ (standAt iter2.pos >>= _) _ _ s; exact wpAny_bind (wpAny_standAt (wpAny_bind (wpAny_mono h (fun it' s' h' => wpAny_pure (And.intro rfl h')) fun _ _ x => x))))
end
def CompI (J : It) (g : TG) (tc : TT) (te : TE) (N : List V → Hp → Prop) (σ : St) (ys0 : List V) (H1 : Hp) : Prop := ∃ W : Nat → Nat → List V → Hp → Prop, (∃ m, W 0 m ys0 H1) ∧ ∀ i m ys H, W i m ys H →
  (J.stop i H ∧ N ys H) ∨
  (J.go i H ∧ ys.length < sizeLine ∧ ∃ N2 : List V → Hp → Prop, (∀ zs H', N2 zs H' → ∃ m', m' < m ∧ W (i + 1) m' zs H') ∧ ∀ x H', J.yld i H x H' → g x σ H' fun σ2 H2 => (σ2.length = σ.length ∧ ∀ (j : Nat) v, σ[j]? = some (some v) → σ2[j]? = some (some v)) ∧ tc σ2 H2 fun b H3 =>
    if b = true then te σ2 H3 fun v H4 => N2 (ys ++ [v]) H4 else N2 ys H3)
def CompW2 (J : It) (n : Nat) (js : List Nat) (g : TG) (tc : TT) (wi2 : TI) (g2 : TG) (tc2 : TT) (te : TE) (Q : VK) (σ : St) (H1 : Hp) : Prop := ∃ W : Nat → Nat → List V → Hp → Prop, (∃ m, W 0 m [] H1) ∧ ∀ i m ys H, W i m ys H →
  (J.stop i H ∧ ys.length ≤ sizeLine ∧ ∀ l, H l = none → Q (.ref l) (upd H l (.lst ys))) ∨
  (J.go i H ∧ ∃ N : List V → Hp → Prop, (∀ zs H', N zs H' → ∃ m', m' < m ∧ W (i + 1) m' zs H') ∧ ∀ x H', J.yld i H x H' → g x (bst n σ js) H' fun σ2 H2 => σ2.drop n = capt σ js ∧ tc σ2 H2 fun b H3 =>
    if b = true then wi2 σ2 H3 fun J2 H4 => CompI J2 g2 tc2 te N σ2 ys H4 else N ys H3)
def tComp2 (n : Nat) (js : List Nat) (wi : TI) (g : TG) (tc : TT) (wi2 : TI) (g2 : TG) (tc2 : TT) (te : TE) : TE := fun σ H Q => wi σ H fun J H1 => CompW2 J n js g tc wi2 g2 tc2 te Q σ H1
section
variable {Y : Cx}
theorem inner_loop {elt tg iter tg2 iter2 : Expr} {ifs ifs2 : List Expr} {scope : Scope} {pos : Pos} {g2 : TG} {tc2 : TT} {te : TE} {N : List V → Hp → Prop} {D : Addr} {pl : List (Addr × Obj)} {σ : St} {itv : Value} {ys : List V} {its : List Value} {k : Nat} {s : Shared}
    {RR : Result → Shared → Prop} (xe : Y.xe = fun _ _ => False) (hc : Y.calm = true) (hg : PG Y tg2 g2) (ht : PTs Y ifs2 tc2) (he : PE Y elt te)
    (szD : Y.s₀.heap.objs.size ≤ D) (neDL : D ≠ Y.env.locals) (notFs : D ∉ Y.fs) (clB : ∀ x d, Y.env.cells.lookup x = some d → d ≠ D) (plD : ∀ p ∈ Y.pn ++ pl, p.1 ≠ D)
    (h : PIE Y ((D, { cls := .type "list", data := .seq its.toArray k }) :: pl) σ tg2 (fun J H1 => CompI J g2 tc2 te N σ ys H1) itv s) (r0 : Vals ys its)
    (hR : ∀ zs its' k' H' s', Inv Y pl σ H' s' → Vals zs its' → s'.heap.get? D = some { cls := .type "list", data := .seq its'.toArray k' } → H' D = none → N zs H' → RR (.ok .next) s') :
    codeAny (model Y.prog Y.w) Y.A (.compStart (.ListComp elt [⟨tg, iter, ifs, 0⟩, ⟨tg2, iter2, ifs2, 0⟩] scope pos) 1 itv (.ref D) Y.env) RR s := by
  obtain ⟨it, fp, tn, J, H2, rfl, I2, T, st2, f2, W, ⟨m0, w0⟩, turn⟩ := h
  have plN : ∀ p ∈ pl, p.1 ≠ D := fun p hp => plD p (List.mem_append_right _ hp)
  have fpD : ∀ b ∈ fp, b ≠ D := fun b hb => ((f2 b hb).2.2.2.2.2 (D, { cls := .type "list", data := .seq its.toArray k }) (List.mem_append_right _ (List.mem_cons_self ..))).symm
  have p0 := I2.pin (D, { cls := .type "list", data := .seq its.toArray k }) (List.mem_append_right _ (List.mem_cons_self ..))
  have f2' : ∀ (its' : List Value) (k' : Nat) {H' : Hp}, (∀ b ∈ fp, H' b = none) → ∀ b ∈ fp, FpOk Y ((D, { cls := .type "list", data := .seq its'.toArray k' }) :: pl) H' b := fun its' k' {H'} hn b hb => by
    obtain ⟨f0, f1, f3, f4, f5, f6⟩ := f2 b hb
    refine ⟨hn b hb, f1, f3, f4, f5, fun p hp => ?_⟩
    rcases List.mem_append.mp hp with z | z
    · exact f6 p (List.mem_append_left _ z)
    · rcases List.mem_cons.mp z with z | z
      · rw [z]; exact (fpD b hb).symm
      · exact f6 p (List.mem_append_right _ (List.mem_cons_of_mem _ z))
  have loop : codeAny (model Y.prog Y.w) Y.A (.compLoop (.ListComp elt [⟨tg, iter, ifs, 0⟩, ⟨tg2, iter2, ifs2, 0⟩] scope pos) 1 (.ref it) (.ref D) Y.env) RR s := by
    refine comp2_by1 (fun n s' => ∃ (i : Nat) (ys : List V) (its : List Value) (k : Nat) (H' : Hp), Inv Y pl σ H' s' ∧ tn i s'.heap ∧ (∀ b ∈ fp, H' b = none) ∧ H' D = none ∧ Vals ys its ∧
      s'.heap.get? D = some { cls := .type "list", data := .seq its.toArray k } ∧ W i n ys H') ?_ m0 ⟨0, ys, its, k, H2, I2.pins_of fun p hp => I2.pin p (List.mem_append_right _ (List.mem_cons_of_mem _ hp)), st2, fun b hb => (f2 b hb).1, p0.2.1, r0, p0.1, w0⟩
    rintro n s3 ⟨i, ys, its, k, H3, I3, st3, fr3, hD3, r3, g3, w3⟩
    have I3p : Inv Y ((D, { cls := .type "list", data := .seq its.toArray k }) :: pl) σ H3 s3 := I3.pins_of fun p hp => by
      rcases List.mem_cons.mp hp with z | z
      · subst z
        exact ⟨g3, hD3, neDL, notFs, fun v z => by cases z⟩
      · exact I3.pin p (List.mem_append_right _ z)
    have f3 := f2' its k fr3
    rcases turn i n ys H3 w3 with ⟨stop, qn⟩ | ⟨go, hz, N2, hN, step⟩
    · refine thn (T.done Y rfl rfl rfl hc i _ s3 _ H3 (fun _ _ => False) I3p f3 st3 stop) fun r s4 ⟨hr, I4⟩ => ?_
      subst hr
      have g4 := I4.pin (D, { cls := .type "list", data := .seq its.toArray k }) (List.mem_append_right _ (List.mem_cons_self ..))
      exact hR ys its k H3 s4 (I4.pins_of fun p hp => I4.pin p (List.mem_append_right _ (List.mem_cons_of_mem _ hp))) r3 g4.1 hD3 qn
    · refine thn (T.item Y rfl rfl rfl hc i _ s3 _ H3 (fun _ _ => False) I3p f3 st3 go) fun r s4 ⟨u, hr, h4⟩ => ?_
      subst hr
      refine thn h4 fun _ s5 ⟨x, H5, I5, r5, y5, st5, fr5⟩ => ?_
      have I5' := I5.pinned (f2' its k fr5) (T.obj _ _ st5)
      refine thn (xe ▸ hg _ s5 _ H5 x u _ I5' r5 (step x H5 y5)) fun _ s6 ⟨σ6, H6, I6, ⟨l6, d6⟩, q6⟩ => ?_
      refine thn (xe ▸ ht _ s6 σ6 H6 _ I6 q6) fun ok s7 ⟨H7, I7, q7⟩ => ?_
      have after : ∀ {s8 : Shared} {H8 : Hp}, Inv Y ((D, { cls := .type "list", data := .seq its.toArray k }) :: pl ++ pinsAt fp s5.heap) σ6 H8 s8 →
          s8.heap.get? D = some { cls := .type "list", data := .seq its.toArray k } ∧ H8 D = none ∧ tn (i + 1) s8.heap ∧ (∀ b ∈ fp, H8 b = none) ∧ Inv Y pl σ H8 s8 := fun {s8 H8} I8 => by
        have p8 := I8.pin (D, { cls := .type "list", data := .seq its.toArray k }) (List.mem_append_right _ (List.mem_append_left _ (List.mem_cons_self ..)))
        refine ⟨p8.1, p8.2.1, T.keep _ _ _ st5 fun b hb o e => (I8.pin (b, o) (List.mem_append_right _ (List.mem_append_right _ (mem_pinsAt hb e)))).1, fun b hb => ?_, ?_⟩
        · obtain ⟨o, e, _⟩ := T.obj _ _ st5 b hb
          exact (I8.pin (b, o) (List.mem_append_right _ (List.mem_append_right _ (mem_pinsAt hb e)))).2.1
        · exact (I8.pins_of (pins' := pl) fun p hp => I8.pin p (List.mem_append_right _ (List.mem_append_left _ (List.mem_cons_of_mem _ hp)))).weak l6.symm d6
      cases ok with
      | false =>
        rw [if_neg Bool.false_ne_true] at q7 ⊢
        obtain ⟨m', hm, w7⟩ := hN _ _ q7
        obtain ⟨a1, a2, a3, a4, a5⟩ := after I7
        exact ⟨m', hm, i + 1, ys, its, k, H7, a5, a3, a4, a2, r3, a1, w7⟩
      | true =>
        rw [if_pos rfl] at q7 ⊢
        refine thn (xe ▸ he _ s7 σ6 H7 _ I7 q7) fun u8 s8 ⟨v8, H8, I8, r8, n8⟩ => ?_
        obtain ⟨m', hm, w8⟩ := hN _ _ n8
        obtain ⟨a1, a2, a3, a4, a5⟩ := after I8
        have hsz : its.toArray.size < sizeLine := by rw [List.size_toArray, ← r3.length]; exact hz
        refine call_meets F.slot_list_append ⟨_, a1, rfl⟩ F.entry_list_append (F.args_list_append_2 _ _) (PySem.list_append D its.toArray k u8 (Nat.le_of_lt hsz)) ⟨a1, ?_⟩
        have q9 := PySem.IsL.update a1 (fun xs => xs.push u8)
        have sb : Heap.SameBut D s8.heap (s8.heap.update D (Obj.mapSeq fun xs => xs.push u8)) := Heap.SameBut.update ..
        have I9 := a5.young sb a2 szD neDL clB plD
        have fin : ∃ k', (s8.heap.update D (Obj.mapSeq fun xs => xs.push u8)).get? D = some { cls := .type "list", data := .seq (its ++ [u8]).toArray k' } := ⟨_, by
          rw [show (its ++ [u8]).toArray = its.toArray.push u8 by simp]
          exact q9⟩
        obtain ⟨k', fin⟩ := fin
        exact ⟨m', hm, i + 1, ys ++ [v8], its ++ [u8], k', H8, I9, T.keep _ _ _ a3 (fun b hb o e => (sb.2 b (fpD b hb)).trans e), a4, a2, r3.append (.cons r8 .nil), fin, w8⟩
  exact compStart_two1 loop (T.self _ 0 _ _ _ st2 loop)
end
section
variable {X : Cx}
theorem comp_block2 {elt tg iter tg2 iter2 : Expr} {ifs ifs2 : List Expr} {scope : Scope} {pos : Pos} {own : List Str} {js : List Nat} {g g2 : TG} {tc tc2 : TT} {wi2 : TI} {te : TE} {Q : VK} {pins : List (Addr × Obj)} {σ : St} {s2 : Shared} {itv : Value} {E : Value → Shared → Prop}
    {RR : Value → Addr → Result → Shared → Prop} (hc : X.calm = true) (B : Blk X scope own js) (hg : ∀ s H C fp, (own ++ capN X.N js).Nodup → PG (blk X scope (own ++ capN X.N js) s H C fp) tg g) (ht : ∀ s H C fp, PTs (blk X scope (own ++ capN X.N js) s H C fp) ifs tc)
    (hi2 : ∀ s H C fp, PI (blk X scope (own ++ capN X.N js) s H C fp) tg2 iter2 wi2) (hg2 : ∀ s H C fp, (own ++ capN X.N js).Nodup → PG (blk X scope (own ++ capN X.N js) s H C fp) tg2 g2) (ht2 : ∀ s H C fp, PTs (blk X scope (own ++ capN X.N js) s H C fp) ifs2 tc2) (hs2 : ∀ s H C fp x, foldedSetIterable iter2 (blk X scope (own ++ capN X.N js) s H C fp).env x = pure x)
    (he : ∀ s H C fp, PE (blk X scope (own ++ capN X.N js) s H C fp) elt te)
    (h : PIE X pins σ tg (fun J H1 => CompW2 J own.length js g tc wi2 g2 tc2 te Q σ H1) itv s2)
    (hR : ∀ C acc s', Behind X pins σ Q C acc s' → RR acc C (.ok .next) s') :
    wpAny (model X.prog X.w) X.A (newList []) (fun acc s3 => wpAny (model X.prog X.w) X.A (newFunctionEnv scope X.env.globals (closOf scope X.env) [] X.env.qual none .none (some X.env)) (fun cenv s4 =>
      codeAny (model X.prog X.w) X.A (.compStart (.ListComp elt [⟨tg, iter, ifs, 0⟩, ⟨tg2, iter2, ifs2, 0⟩] scope pos) 0 itv acc { cenv with scope := relabel scope X.env }) (RR acc cenv.locals) s4) E s3) E s2 := by
  obtain ⟨it, fp, tn, J, H2, rfl, I2, T, st2, f2, W, ⟨m0, w0⟩, turn⟩ := h
  refine wpAny_newObj_type (wpAny_newFunctionEnv B.nocell (by intro y hy; simp at hy) (fun h1 hns1 hsb1 => ?_) B.kind)
  generalize hPu : s2.heap.push { cls := .type "list", dict := none, data := .seq ([] : List Value).toArray } = Pu at hns1 hsb1 ⊢
  dsimp only at hns1 hsb1 ⊢
  have hDC : Pu.objs.size = s2.heap.objs.size + 1 := by rw [← hPu, Heap.size_push]
  generalize hD : s2.heap.objs.size = D at hDC ⊢
  have gD : Pu.get? D = some { cls := .type "list", dict := none, data := .seq ([] : List Value).toArray } := by
    rw [← hPu, ← hD]; exact Heap.get?_push_size _ rfl
  generalize hC : Pu.objs.size = C at hns1 hsb1 hDC ⊢
  have ltDC : D < C := by rw [hDC]; exact Nat.lt_succ_self D
  have neDC : D ≠ C := Nat.ne_of_lt ltDC
  have keep1 : ∀ b o, s2.heap.get? b = some o → h1.get? b = some o := fun b o e => by
    have hb : b < D := by rw [← hD]; exact Heap.lt_size e
    have hb2 : b ≠ C := Nat.ne_of_lt (Nat.lt_trans hb ltDC)
    refine (hsb1.2 b hb2).trans (Heap.get?_push_of_some _ ?_)
    rw [← hPu]
    exact Heap.get?_push_of_some _ e
  have gD1 : h1.get? D = some { cls := .type "list", dict := none, data := .seq ([] : List Value).toArray } := (hsb1.2 D neDC).trans (Heap.get?_push_of_some _ gD)
  have szD : s2.heap.objs.size ≤ D := Nat.le_of_eq hD
  have szC : s2.heap.objs.size ≤ C := Nat.le_trans szD (Nat.le_of_lt ltDC)
  have old : ∀ {b : Addr}, b < s2.heap.objs.size → b ≠ D ∧ b ≠ C := fun hb => ⟨Nat.ne_of_lt (Nat.lt_of_lt_of_le hb szD), Nat.ne_of_lt (Nat.lt_of_lt_of_le hb szC)⟩
  have fpo : ∀ b ∈ fp, ∃ o, s2.heap.get? b = some o := fun b hb => let ⟨o, e, _⟩ := T.obj 0 _ st2 b hb; ⟨o, e⟩
  have fpD : ∀ b ∈ fp, b ≠ D ∧ b ≠ C := fun b hb => by
    obtain ⟨o, e⟩ := fpo b hb
    exact old (Heap.lt_size e)
  have clD : ∀ x d, X.env.cells.lookup x = some d → d ≠ D ∧ d ≠ C := fun x d e => by
    obtain ⟨v, o, ho, _⟩ := I2.cell x d e
    exact old (Heap.lt_size ho)
  have pinD : ∀ p ∈ X.pn ++ pins, p.1 ≠ D ∧ p.1 ≠ C := fun p hp => by
    exact old (Heap.lt_size (I2.pin p hp).1)
  have locD : D ≠ X.env.locals ∧ C ≠ X.env.locals := by
    exact ⟨(old I2.lt).1.symm, (old I2.lt).2.symm⟩
  let Y := blk X scope (own ++ capN X.N js) s2 H2 C fp
  have IB : Inv Y [] (bst own.length σ js) H2 { s2 with heap := h1, toks := s2.toks + ([] : List (Str × Value)).length } := blk_inv B I2 f2 fpo szC hns1 keep1
  have fpB : ∀ {H' : Hp} {pl : List (Addr × Obj)}, (∀ b ∈ fp, H' b = none) → (∀ p ∈ pl, p.1 = D) → ∀ b ∈ fp, FpOk Y pl H' b := fun {H' pl} hn hp b hb => by
    obtain ⟨f0, f1, f3, f4, f5, f6⟩ := f2 b hb
    refine ⟨hn b hb, (fpD b hb).2, fun z => ?_, .inl hb, fun x c e => f5 x c (closOf_old e), fun p q => ?_⟩
    · rcases List.mem_cons.mp (I2.stkSub b z) with z | z
      · exact f1 z
      · exact f3 z
    · have q' : p ∈ pl := by simpa [Y, blk] using q
      rw [hp p q']
      exact (fpD b hb).1.symm
  have clB : ∀ x d, Y.env.cells.lookup x = some d → d ≠ D := fun x d e => (clD x d (closOf_old e)).1
  have notFs : D ∉ Y.fs := fun z => by
    obtain ⟨_, o, ho, _⟩ := IB.ok.funs.mem z
    exact (old (Heap.lt_size (show s2.heap.get? D = some o from ho))).1 rfl
  have loop : ∀ s3 : Shared, s3 = { s2 with heap := h1, toks := s2.toks + ([] : List (Str × Value)).length } →
      codeAny (model X.prog X.w) X.A (.compLoop (.ListComp elt [⟨tg, iter, ifs, 0⟩, ⟨tg2, iter2, ifs2, 0⟩] scope pos) 0 (.ref it) (.ref D) (compEnvC scope (closOf scope X.env) C X.env)) (RR (.ref D) C) s3 := by
    rintro s3 rfl
    refine comp2_by0 (fun n s' => ∃ (i : Nat) (ys : List V) (its : List Value) (k : Nat) (H' : Hp), Inv Y [] (bst own.length σ js) H' s' ∧ tn i s'.heap ∧ (∀ b ∈ fp, H' b = none) ∧ H' D = none ∧ Vals ys its ∧
      s'.heap.get? D = some { cls := .type "list", data := .seq its.toArray k } ∧ W i n ys H') (hs2 s2 H2 C fp) ?_ m0 ⟨0, [], [], 0, H2, IB, T.keep 0 _ _ st2 (fun b hb o e => keep1 b o e), fun b hb => (f2 b hb).1, I2.hok.fresh szD, .nil, gD1, w0⟩
    rintro n s3 ⟨i, ys, its, k, H3, I3, st3, fr3, hD3, r3, g3, w3⟩
    have I3p : Inv Y [(D, { cls := .type "list", data := .seq its.toArray k })] (bst own.length σ js) H3 s3 := I3.pins_of fun p hp => by
      have e : p = (D, { cls := .type "list", data := .seq its.toArray k }) := by simpa using hp
      subst e
      exact ⟨g3, hD3, neDC, notFs, fun v z => by cases z⟩
    have f3 : ∀ b ∈ fp, FpOk Y [(D, { cls := .type "list", data := .seq its.toArray k })] H3 b := fpB fr3 fun p hp => by
      have e : p = (D, { cls := .type "list", data := .seq its.toArray k }) := by simpa using hp
      rw [e]
    rcases turn i n ys H3 w3 with ⟨stop, hz, qn⟩ | ⟨go, N, hN, step⟩
    · refine thn (T.done Y rfl rfl rfl hc i _ s3 _ H3 (fun _ _ => False) I3p f3 st3 stop) fun r s4 ⟨hr, I4⟩ => ?_
      subst hr
      refine hR C _ s4 ?_
      have g4 := (I4.pin (D, { cls := .type "list", data := .seq its.toArray k }) (by simp [Y, blk])).1
      obtain ⟨m, hn4, _⟩ := id I4.loc
      have un : Un (frs X.stack) fp H2 H3 s2.heap s4.heap := I4.base
      have I5 : Inv X pins σ H3 s4 := I2.call' I4.os un I4.hok I4.bare fun b hb => let ⟨_, b1, _, b3, b4, b5⟩ := f2 b hb; ⟨b3, b1, b4, b5⟩
      have I6 := I5.track (ys := ys) (its := its) (n := k) hD3 (Nat.le_trans I2.sz szD) locD.1 (fun x d e => (clD x d e).1) (fun p hp => (pinD p hp).1) hz r3 g4
      refine ⟨D, _, m, rfl, hn4, I6, ?_, Nat.le_trans I2.sz szC, locD.2, fun x d e => (clD x d e).2, fun p hp => (pinD p hp).2, qn D hD3⟩
      rw [upd_ne (Ne.symm neDC)]
      exact I4.free
    · refine thn (T.item Y rfl rfl rfl hc i _ s3 _ H3 (fun _ _ => False) I3p f3 st3 go) fun r s4 ⟨u, hr, h4⟩ => ?_
      subst hr
      refine thn h4 fun _ s5 ⟨x, H5, I5, r5, y5, st5, fr5⟩ => ?_
      have f5 : ∀ b ∈ fp, FpOk Y [(D, { cls := .type "list", data := .seq its.toArray k })] H5 b := fun b hb => ⟨fr5 b hb, (f3 b hb).2⟩
      have I5' := I5.pinned f5 (T.obj _ _ st5)
      refine thn (hg s2 H2 C fp B.nd _ s5 _ H5 x u _ I5' r5 (step x H5 y5)) fun _ s6 ⟨σ6, H6, I6, d6, q6⟩ => ?_
      refine thn (ht s2 H2 C fp _ s6 σ6 H6 _ I6 q6) fun ok s7 ⟨H7, I7, q7⟩ => ?_
      have after : ∀ {s8 : Shared} {H8 : Hp} {its : List Value} {k : Nat}, Inv Y ([(D, { cls := .type "list", data := .seq its.toArray k })] ++ pinsAt fp s5.heap) σ6 H8 s8 →
          s8.heap.get? D = some { cls := .type "list", data := .seq its.toArray k } ∧ H8 D = none ∧ tn (i + 1) s8.heap ∧ (∀ b ∈ fp, H8 b = none) ∧ Inv Y [] (bst own.length σ js) H8 s8 := fun {s8 H8 its k} I8 => by
        have p8 := I8.pin (D, { cls := .type "list", data := .seq its.toArray k }) (by simp [Y, blk])
        refine ⟨p8.1, p8.2.1, T.keep _ _ _ st5 fun b hb o e => (I8.pin (b, o) (List.mem_append_right _ (List.mem_append_right _ (mem_pinsAt hb e)))).1, fun b hb => ?_, ?_⟩
        · obtain ⟨o, e, _⟩ := T.obj _ _ st5 b hb
          exact (I8.pin (b, o) (List.mem_append_right _ (List.mem_append_right _ (mem_pinsAt hb e)))).2.1
        · refine (I8.pins_of (pins' := []) fun p hp => absurd hp (by simp [Y, blk])).weak ?_ fun j v e => ?_
          · rw [I8.len, bst_len]
            show _ = (own ++ capN X.N js).length
            unfold capN
            simp
          · rcases Nat.lt_or_ge j own.length with z | z
            · exfalso
              unfold bst at e
              rw [List.getElem?_append_left (by simpa using z), List.getElem?_replicate] at e
              split at e <;> cases e
            · unfold bst at e
              rw [List.getElem?_append_right (by simpa using z), List.length_replicate, ← d6, List.getElem?_drop] at e
              rw [← e]
              congr 1
              omega
      cases ok with
      | false =>
        rw [if_neg Bool.false_ne_true] at q7 ⊢
        obtain ⟨m', hm, w7⟩ := hN _ _ q7
        obtain ⟨a1, a2, a3, a4, a5⟩ := after I7
        exact ⟨m', hm, i + 1, ys, its, k, H7, a5, a3, a4, a2, r3, a1, w7⟩
      | true =>
        rw [if_pos rfl] at q7 ⊢
        refine thn (hi2 s2 H2 C fp _ s7 σ6 H7 _ I7 q7) fun v8 s8 h8 => thn h8 fun itv s9 h9 => ?_
        refine inner_loop (Y := Y) (pl := pinsAt fp s5.heap) rfl hc (hg2 s2 H2 C fp B.nd) (ht2 s2 H2 C fp) (he s2 H2 C fp) szD neDC notFs clB (fun p hp => ?_) h9 r3 fun zs its' k' H' s' I' r' g' d' n' => ⟨rfl, ?_⟩
        · have hp' : p ∈ pinsAt fp s5.heap := by simpa [Y, blk] using hp
          exact (fpD p.1 (of_pinsAt hp').1).1
        · obtain ⟨m', hm, w8⟩ := hN _ _ n'
          have I'p : Inv Y ([(D, { cls := .type "list", data := .seq its'.toArray k' })] ++ pinsAt fp s5.heap) σ6 H' s' := I'.pins_of fun p hp => by
            rcases List.mem_append.mp hp with z | z
            · have e : p = (D, { cls := .type "list", data := .seq its'.toArray k' }) := by simpa using z
              subst e
              exact ⟨g', d', neDC, notFs, fun v z => by cases z⟩
            · exact I'.pin p (List.mem_append_right _ z)
          obtain ⟨a1, a2, a3, a4, a5⟩ := after I'p
          exact ⟨m', hm, i + 1, zs, its', k', H', a5, a3, a4, d', r', g', w8⟩
  exact codeAny_compStart_list (loop _ rfl) (T.self _ 0 _ _ _ (T.keep 0 _ _ st2 fun b hb o e => keep1 b o e) (loop _ rfl))
theorem pe_comp2 {elt tg iter tg2 iter2 : Expr} {ifs ifs2 : List Expr} {scope : Scope} {pos : Pos} (own : List Str) (js : List Nat) {wi wi2 : TI} {g g2 : TG} {tc tc2 : TT} {te : TE} (hc : X.calm = true) (B : Blk X scope own js) (hi : PI X tg iter wi)
    (hg : ∀ s H C fp, (own ++ capN X.N js).Nodup → PG (blk X scope (own ++ capN X.N js) s H C fp) tg g) (ht : ∀ s H C fp, PTs (blk X scope (own ++ capN X.N js) s H C fp) ifs tc)
    (hi2 : ∀ s H C fp, PI (blk X scope (own ++ capN X.N js) s H C fp) tg2 iter2 wi2) (hg2 : ∀ s H C fp, (own ++ capN X.N js).Nodup → PG (blk X scope (own ++ capN X.N js) s H C fp) tg2 g2) (ht2 : ∀ s H C fp, PTs (blk X scope (own ++ capN X.N js) s H C fp) ifs2 tc2) (he : ∀ s H C fp, PE (blk X scope (own ++ capN X.N js) s H C fp) elt te)
    (hs : ∀ x, foldedSetIterable iter X.env x = pure x := by intro _; rfl) (hs2 : ∀ s H C fp x, foldedSetIterable iter2 (blk X scope (own ++ capN X.N js) s H C fp).env x = pure x := by intros; rfl) : PE X (.ListComp elt [⟨tg, iter, ifs, 0⟩, ⟨tg2, iter2, ifs2, 0⟩] scope pos) (tComp2 own.length js wi g tc wi2 g2 tc2 te) := by
  intro pins s σ H Q I h
  have hcl : closureFor scope X.env = pure (closOf scope X.env) := closureFor_of fun x hx hf => I.ok.has x.1 (B.free x hx hf)
  rw [eval_ListComp]
  refine wpAny_comprehension_free (use := none) rfl hs hcl B.kind B.names (thn (hi pins s σ H _ I h) fun v s1 h1 => thn h1 fun itv s2 h2 => ?_)
  refine comp_block2 (RR := fun acc C => compPost (model X.prog X.w) X.A X.xe none (EP X pins σ Q) acc C) hc B hg ht hi2 hg2 ht2 hs2 he h2 fun C acc s' hb => ?_
  obtain ⟨D, H', m, rfl, hn, I', c1, c2, c3, c4, c5, q⟩ := hb
  exact ⟨m, hn, fun h' hs' => ⟨.ref D, H', I'.young hs' c1 c2 c3 c4 c5, rfl, q⟩⟩
end
end L2
set_option Elab.async false
set_option linter.all false
set_option maxRecDepth 100000
namespace L2
open PySem PySem.Spec PyProof.Rows
def compI (n2 : Nat) (c : En → Prop) (g : AG) (tc : AT) (te : AE) (k : List D → En → Prop) : List D → List D → En → Prop
  | [], acc, ρ => c ρ ∧ k acc ρ
  | d :: ds, acc, ρ => c ρ ∧ acc.length ≤ 1000000 ∧ g d ρ fun ρ1 => tc ρ1 fun b ρ2 => if b = true then te ρ2 fun r ρ3 => sto [r.frz] ρ3 fun es ρ4 => compI n2 c g tc te k ds (acc ++ es) (List.replicate n2 .un ++ ρ4.drop n2) else compI n2 c g tc te k ds acc (List.replicate n2 .un ++ ρ2.drop n2)
def compB (n2 n : Nat) (js : List Nat) (c : En → Prop) (g : AG) (tc : AT) (i2 : AI) (g2 : AG) (tc2 : AT) (te : AE) (q : List D → En → Prop) : List D → List D → En → Prop
  | [], acc, ρ => c ρ ∧ acc.length ≤ 1000000 ∧ q acc ρ
  | d :: ds, acc, ρ => c ρ ∧ g d (blkE n js ρ) fun ρ1 => tc ρ1 fun b ρ2 => if b = true then i2 ρ2 fun ds2 c2 ρ3 => compI n2 c2 g2 tc2 te (fun acc' ρ4 => compB n2 n js c g tc i2 g2 tc2 te q ds acc' (back ρ (js.map R.o) (ρ4.drop n))) ds2 acc ρ3 else compB n2 n js c g tc i2 g2 tc2 te q ds acc (back ρ (js.map R.o) (ρ2.drop n))
def aComp2 (n2 n : Nat) (js : List Nat) (i : AI) (g : AG) (tc : AT) (i2 : AI) (g2 : AG) (tc2 : AT) (te : AE) : AE := fun ρ q => i ρ fun ds c ρ1 => compB n2 n js c g tc i2 g2 tc2 te (fun acc ρ2 => q (.f acc) ρ2) ds [] ρ1
section
variable {K : PySem.W.Frag}
theorem tok_inner {n2 : Nat} {g2 : TG} {tc2 : TT} {te : TE} {ag2 : AG} {atc2 : AT} {ate : AE} (hg : TGok K (fun j => decide (n2 ≤ j)) g2 ag2) (hc : TTok K tc2 atc2) (he : TEok K te ate)
    {F : Fr} {σ : St} {ρ : En} {H : Hp} {J : It} {ds : List D} {c : En → Prop} {k : List D → En → Prop} {N : List V → Hp → Prop} {ys : List V} {acc : List D}
    (hpin : ∀ i a, F.pin i a → n2 ≤ i) (hn : n2 ≤ σ.length) (h0 : σ = List.replicate n2 none ++ σ.drop n2) (r : Rel K F σ ρ H)
    (wk : ∀ ρ2 H2, Same (hid H (hs F σ ρ)) (hid H2 (hs F σ ρ2)) → (∀ i, SvOk K (hid H2 (hs F σ ρ2)) H2 σ[i]? (gt ρ2 i)) → (∀ a, hs F σ ρ2 a → Nt H2 a) → c ρ2 → WkAt K (hs F σ ρ2) H2 J ds)
    (rd : RepDs K (hid H (hs F σ ρ)) ys acc) (h : compI n2 c ag2 atc2 ate k ds acc ρ)
    (kk : ∀ acc' ρ' ys' H', k acc' ρ' → Rel K F σ ρ' H' → Kp σ ρ ρ' H H' → RepDs K (hid H' (hs F σ ρ')) ys' acc' → N ys' H') : CompI J g2 tc2 te N σ ys H := by
  refine ⟨fun i m ys H' => ∃ ρ' acc, m = ds.length - i ∧ i ≤ ds.length ∧ Rel K F σ ρ' H' ∧ Kp σ ρ ρ' H H' ∧ RepDs K (hid H' (hs F σ ρ')) ys acc ∧ compI n2 c ag2 atc2 ate k (ds.drop i) acc ρ', ⟨ds.length, ρ, acc, rfl, Nat.zero_le _, r, .refl, rd, h⟩, ?_⟩
  rintro i m ys H' ⟨ρ', acc, rfl, hl, r', k', rd, h'⟩
  have w : c ρ' → WkAt K (hs F σ ρ') H' J ds := fun hc => wk ρ' H' k'.vis r'.sl (fun a z => hs_nt r' z) hc
  rcases Nat.lt_or_ge i ds.length with lt | ge
  · right
    rw [List.drop_eq_getElem_cons lt] at h'
    unfold compI at h'
    obtain ⟨hcc, hz, h'⟩ := h'
    obtain ⟨go, yld⟩ := (w hcc i).1 ds[i] (List.getElem?_eq_getElem lt)
    have yl : ys.length = acc.length := rd.length
    refine ⟨go, smallS (by omega), fun zs H2 => ∃ ρ2 acc2, Rel K F σ ρ2 H2 ∧ Kp σ ρ ρ2 H H2 ∧ RepDs K (hid H2 (hs F σ ρ2)) zs acc2 ∧ compI n2 c ag2 atc2 ate k (ds.drop (i + 1)) acc2 ρ2,
      fun zs H2 ⟨ρ2, acc2, a1, a2, a3, a5⟩ => ⟨ds.length - (i + 1), by omega, ρ2, acc2, rfl, lt, a1, a2, a3, a5⟩, fun x H2 hy => ?_⟩
    obtain ⟨sm, rx⟩ := yld x H2 hy
    have k' : Kp σ ρ ρ' H H2 := k'.trans ⟨fun a o e _ => sm a o e, fun _ h => h⟩
    have rd : RepDs K (hid H2 (hs F σ ρ')) ys acc := rd.same (hid_same fun a o e n => ⟨sm a o e, n⟩)
    have r' := r'.grow sm
    refine hg F σ ρ' H2 x _ _ _ (fun i a h => decide_eq_true (hpin i a h)) r' rx h' fun σ3 ρ3 h3 r3 l3 p3 o3 => ?_
    have drop3 : σ3.drop n2 = σ.drop n2 := by
      apply List.ext_getElem?
      intro i
      rw [List.getElem?_drop, List.getElem?_drop]
      exact p3 (n2 + i) (decide_eq_true (Nat.le_add_right ..))
    have ret : ∀ ρ4 H4, Rel K F σ3 ρ4 H4 → Kp σ3 ρ3 ρ4 H2 H4 → Rel K F σ (List.replicate n2 .un ++ ρ4.drop n2) H4 ∧ Kp σ ρ' (List.replicate n2 .un ++ ρ4.drop n2) H2 H4 ∧ Same (hid H4 (hs F σ3 ρ4)) (hid H4 (hs F σ (List.replicate n2 .un ++ ρ4.drop n2))) := fun ρ4 H4 r4 k4 => by
      obtain ⟨f1, f2⟩ := r4.forget (n := n2) (by omega) hpin
      rw [drop3, ← h0] at f1 f2
      refine ⟨f1, ⟨fun a o e n => k4.st a o e fun ⟨j, hj, ej⟩ => ?_, fun j hj => ?_⟩, f2⟩
      · obtain ⟨b1, b2⟩ := o3 j hj
        rw [b2] at ej
        exact n ⟨j, b1, ej⟩
      · rw [gt_pad] at hj
        split at hj
        · cases hj
        · rename_i hnj
          rw [gt_drop, show n2 + (j - n2) = j by omega] at hj
          exact (o3 j (k4.sb j hj)).1
    refine ⟨⟨l3, fun j v e => ?_⟩, hc F σ3 ρ3 H2 _ _ r3 h3 fun b ρ4 H4 h4 r4 k4 => ?_⟩
    · rcases Nat.lt_or_ge j n2 with z | z
      · exfalso
        rw [h0, List.getElem?_append_left (by simpa using z), List.getElem?_replicate] at e
        split at e <;> cases e
      · rw [p3 j (decide_eq_true z)]; exact e
    · cases b with
      | false =>
        obtain ⟨b1, b2, _⟩ := ret ρ4 H4 r4 k4
        exact ⟨_, acc, b1, k'.trans b2, rd.same b2.vis, h4⟩
      | true =>
        refine he F σ3 ρ4 H4 _ _ r4 h4 fun r5 ρ5 v H5 h5 o5 => ?_
        obtain ⟨r5', k5, i5⟩ := o5.inF
        obtain ⟨d, ρ6, h6, r6, k6, rv⟩ := sto_one r5' i5 h5
        obtain ⟨b1, b2, b3⟩ := ret ρ6 H5 r6 (k4.trans (k5.trans k6))
        exact ⟨_, acc ++ [d], b1, k'.trans b2, (rd.same b2.vis).append (.one (rv.same b3)), h6⟩
  · left
    rw [List.drop_eq_nil_of_le ge] at h'
    unfold compI at h'
    obtain ⟨hcc, h'⟩ := h'
    exact ⟨(w hcc i).2 ge, kk acc ρ' ys H' h' r' k' rd⟩
theorem tok_comp2 {n2 n : Nat} {js : List Nat} {wi wi2 : TI} {g g2 : TG} {tc tc2 : TT} {te : TE} {ai ai2 : AI} {ag ag2 : AG} {atc atc2 : AT} {ate : AE} (hi : TIok K (fun _ => true) wi ai) (hg : TGok K (fun j => decide (j < n2) || decide (n ≤ j)) g ag) (hc : TTok K tc atc)
    (hi2 : TIok K (fun _ => true) wi2 ai2) (hg2 : TGok K (fun j => decide (n2 ≤ j)) g2 ag2) (hc2 : TTok K tc2 atc2) (he : TEok K te ate)
    (hn : n2 ≤ n := by decide) (hd : dis (js.map R.o) = true := by rfl) : TEok K (tComp2 n js wi g tc wi2 g2 tc2 te) (aComp2 n2 n js ai ag atc ai2 ag2 atc2 ate) := by
  intro F σ ρ H q Q r h k
  refine hi F σ ρ H _ _ r h fun ds c ρ1 J H1 h1 r1 k1 wk => ?_
  have hd' : dis (blkR n js) = true := by rw [blkR_dis]; exact hd
  refine ⟨fun i m ys H' => ∃ ρ' acc, m = ds.length - i ∧ i ≤ ds.length ∧ Rel K F σ ρ' H' ∧ Kp σ ρ1 ρ' H1 H' ∧ RepDs K (hid H' (hs F σ ρ')) ys acc ∧ compB n2 n js c ag atc ai2 ag2 atc2 ate (fun acc ρ2 => q (.f acc) ρ2) (ds.drop i) acc ρ', ⟨ds.length, ρ1, [], rfl, Nat.zero_le _, r1, .refl, .nil, h1⟩, ?_⟩
  rintro i m ys H' ⟨ρ', acc, rfl, hl, r', k', rd, h'⟩
  have w : c ρ' → WkAt K (hs F σ ρ') H' J ds := fun hc => wk σ ρ' H' k'.vis r'.sl (fun _ _ _ e => e) (fun a z => hs_nt r' z) hc
  have yl : ys.length = acc.length := rd.length
  rcases Nat.lt_or_ge i ds.length with lt | ge
  · right
    rw [List.drop_eq_getElem_cons lt] at h'
    unfold compB at h'
    obtain ⟨hcc, h'⟩ := h'
    obtain ⟨go, yld⟩ := (w hcc i).1 ds[i] (List.getElem?_eq_getElem lt)
    refine ⟨go, fun zs H2 => ∃ ρ2 acc2, Rel K F σ ρ2 H2 ∧ Kp σ ρ1 ρ2 H1 H2 ∧ RepDs K (hid H2 (hs F σ ρ2)) zs acc2 ∧ compB n2 n js c ag atc ai2 ag2 atc2 ate (fun acc ρ2 => q (.f acc) ρ2) (ds.drop (i + 1)) acc2 ρ2,
      fun zs H2 ⟨ρ2, acc2, a1, a2, a3, a5⟩ => ⟨ds.length - (i + 1), by omega, ρ2, acc2, rfl, lt, a1, a2, a3, a5⟩, fun x H2 hy => ?_⟩
    obtain ⟨sm, rx⟩ := yld x H2 hy
    have r0' := r'
    have k' : Kp σ ρ1 ρ' H1 H2 := k'.trans ⟨fun a o e _ => sm a o e, fun _ h => h⟩
    have rd : RepDs K (hid H2 (hs F σ ρ')) ys acc := rd.same (hid_same fun a o e n => ⟨sm a o e, n⟩)
    have r' := r0'.grow sm
    have src := blk_srcs (K := K) (F := F) (σ := σ) (ρ := ρ') (H := H2) n js
    have rb := r'.sub src hd'
    have hs2 := sub_hs r' src
    rw [blkR_slots] at rb hs2
    have pin0 : ∀ i a, (subFr F σ ρ' H2 (bst n σ js) (blkE n js ρ')).pin i a → n ≤ i := fun i a h => by
      rcases h with h | h
      · exact blkE_own h.1
      · exact h.elim
    have hlen : (bst n σ js).length = n + js.length := bst_len
    have ret : ∀ σ2 ρ2 H3, Rel K (subFr F σ ρ' H2 (bst n σ js) (blkE n js ρ')) σ2 ρ2 H3 → σ2.length = (bst n σ js).length → σ2.drop n = capt σ js → (∀ i, (gt ρ2 i).own = true → (gt (blkE n js ρ') i).own = true) →
        Rel K F σ (back ρ' (js.map R.o) (ρ2.drop n)) H3 ∧ Kp σ ρ' (back ρ' (js.map R.o) (ρ2.drop n)) H2 H3 ∧ Same (hid H3 (hs (subFr F σ ρ' H2 (bst n σ js) (blkE n js ρ')) σ2 ρ2)) (hid H3 (hs F σ (back ρ' (js.map R.o) (ρ2.drop n)))) := fun σ2 ρ2 H3 rr hlen2 hdrop hown => by
      obtain ⟨f1, f2⟩ := rr.forget (n := n) (by omega) pin0
      rw [hdrop] at f1 f2
      have f1' : Rel K (subFr F σ ρ' H2 (bst n σ js) ((blkR n js).map (slotR ρ'))) (bst n σ js) (List.replicate n .un ++ ρ2.drop n) H3 := by rw [blkR_slots]; exact f1
      have bk := r'.back src hd' f1' fun i hi => by
        rw [blkR_slots]
        rw [gt_pad] at hi
        split at hi
        · cases hi
        · rename_i hni
          rw [gt_drop, show n + (i - n) = i by omega] at hi
          exact hown i hi
      have ln : (List.replicate n Sv.un ++ ρ2.drop n).length = n + js.length := by
        have := rr.len
        simp; omega
      rw [blkR_back js ρ' n _ ln, List.drop_left' (by simp), blkR_slots] at bk
      exact ⟨bk.1, bk.2.1, f2.trans bk.2.2⟩
    refine hg _ (bst n σ js) (blkE n js ρ') H2 x _ _ _ (fun i a h => by simp [pin0 i a h]) rb (by rw [hs2]; exact rx) h' fun σ2 ρ2 h2 r2 l2 p2 o2 => ?_
    have hdrop : σ2.drop n = capt σ js := by
      have : σ2.drop n = (bst n σ js).drop n := by
        apply List.ext_getElem?
        intro i
        rw [List.getElem?_drop, List.getElem?_drop]
        exact p2 (n + i) (by simp)
      rw [this]
      unfold bst
      rw [List.drop_left' (by simp)]
    have hin : σ2 = List.replicate n2 none ++ σ2.drop n2 := by
      apply List.ext_getElem?
      intro j
      rcases Nat.lt_or_ge j n2 with z | z
      · rw [p2 j (by simp [z]), List.getElem?_append_left (by simpa using z)]
        unfold bst
        rw [List.getElem?_append_left (by simp; omega), List.getElem?_replicate, List.getElem?_replicate, if_pos z, if_pos (by omega)]
      · rw [List.getElem?_append_right (by simpa using z), List.length_replicate, List.getElem?_drop]
        congr 1; omega
    have rdb : RepDs K (hid H2 (hs (subFr F σ ρ' H2 (bst n σ js) (blkE n js ρ')) σ2 ρ2)) ys acc := by
      rw [← hs2] at rd
      refine rd.same (hid_same fun a o e nn => ⟨e, fun z => nn ?_⟩)
      rcases z with z | ⟨j, hj, ej⟩
      · exact .inl z
      · obtain ⟨b1, b2⟩ := o2 j hj
        rw [b2] at ej
        exact .inr ⟨j, b1, ej⟩
    refine ⟨hdrop, hc _ σ2 ρ2 H2 _ _ r2 h2 fun b ρ3 H3 h3 r3 k3 => ?_⟩
    cases b with
    | false =>
      obtain ⟨b1, b2, _⟩ := ret σ2 ρ3 H3 r3 l2 hdrop fun i hi => (o2 i (k3.sb i hi)).1
      exact ⟨_, acc, b1, k'.trans b2, rd.same b2.vis, h3⟩
    | true =>
      refine hi2 _ σ2 ρ3 H3 _ _ r3 h3 fun ds2 c2 ρ4 J2 H4 h4 r4 k4 wk2 => ?_
      refine tok_inner hg2 hc2 he (fun i a h => Nat.le_trans hn (pin0 i a h)) (by omega) hin r4 (fun ρ5 H5 a1 a2 a3 a4 => wk2 σ2 ρ5 H5 a1 a2 (fun _ _ _ e => e) a3 a4) (rdb.same (k3.trans k4).vis) h4 fun acc' ρ5 ys' H5 h5 r5 k5 rd5 => ?_
      obtain ⟨b1, b2, b3⟩ := ret σ2 ρ5 H5 r5 l2 hdrop fun i hi => (o2 i (k3.sb i (k4.sb i (k5.sb i hi)))).1
      exact ⟨_, acc', b1, k'.trans b2, rd5.same b3, h5⟩
  · left
    rw [List.drop_eq_nil_of_le ge] at h'
    unfold compB at h'
    obtain ⟨hcc, hz, h'⟩ := h'
    refine ⟨(w hcc i).2 ge, small (by omega), fun l hl' => ?_⟩
    exact ((k.after k1).after k').new r' h' rd hl'
end
end L2
set_option Elab.async false
set_option linter.all false
set_option maxRecDepth 100000
namespace L2
open PySem PySem.Spec PyProof.Rows
def stp {α : Type} (xs : List α) (c l : Nat) : List α := (sliceRange ((min c xs.length : Nat) : Int) ((xs.length : Nat) : Int) (l : Int)).filterMap (xs[·]?)
section
variable {X : Cx} {K : PySem.W.Frag}
variable {e lo st : Expr} {te : TE} {tl ts : TO} {pos p2 : Pos}
end
section
variable {n2 n : Nat} {js : List Nat} {c : En → Prop} {g g2 : AG} {tc tc2 : AT} {i2 : AI} {te : AE}
end
end L2
set_option Elab.async false
set_option linter.all false
set_option maxRecDepth 100000
namespace L2
open PySem PySem.Spec PyProof.Rows
section
variable {M : Model} {A : Around} {E : Value → Value → Shared → Prop} {s : Shared} {base : Heap} {env : Env} {outer : List Env} {L e C : Addr} {oe : Obj} {vs : Array Value} {od : Option Addr}
end
section
variable {X : Cx} {pins : List (Addr × Obj)} {σ : St} {H : Hp} {s : Shared} {h0 : Heap} {e C : Addr} {od : Option Addr}
end
section
variable {P : Program} {w : World} {K : PySem.W.Frag} {mg : Str → Option Value} {base : Heap} {N : List Str} {qual : Str} {scope : Scope} {f : Addr} {cd : Value} {A : Around} {outer : List Env} {s0 : Shared} {H0 : Hp} {E : XK}
end
section
variable {X : Cx} {R : VK} {tg : Expr}
end
section
variable {P : Program} {w : World} {K : PySem.W.Frag} {mg : Str → Option Value} {base : Heap} {N : List Str} {qual : Str} {scope : Scope} {f : Addr} {cd : Value} {A : Around} {outer : List Env} {s0 : Shared} {H0 : Hp} {E : XK} {C : Addr} {fn : Option Str}
end
end L2
namespace L2
end L2
set_option Elab.async false
set_option linter.all false
set_option maxRecDepth 100000
namespace L2
open PySem PySem.Spec PyProof.Rows
abbrev EnO (h : Heap) (e it : Addr) (i : Int) (old : Value) (a : Addr) (f : Bool) : Prop :=
  h.get? e = some { cls := .type "enumerate", dict := none, data := .fields #[rawInt a, .bool f, .ref it, rawInt i, .none, old], slots := #[] }
section
variable {prog : Program} {w : World} {A : Around} {E : Value → Shared → Prop} {s : Shared}
def EnS (h : Heap) (e it : Addr) (i : Nat) (S : Addr) : Prop := (∃ old, IsEnum h e it i old) ∨ ∃ old a f oa, EnO h e it i old a f ∧ h.get? a = some oa ∧ a ≠ e ∧ a ≠ it ∧ a ≠ S
theorem EnS.keep {h h' : Heap} {e it S : Addr} {i : Nat} (x : EnS h e it i S) (hk : ∀ b o, b ≠ S → h.get? b = some o → h'.get? b = some o) (hS : e ≠ S) : EnS h' e it i S := by
  rcases x with ⟨old, he⟩ | ⟨old, a, f, oa, he, ha, h1, h2, h3⟩
  · exact .inl ⟨old, hk _ _ hS he⟩
  · exact .inr ⟨old, a, f, oa, hk _ _ hS he, hk _ _ h3 ha, h1, h2, h3⟩
theorem EnS.typeIs {e it S : Addr} {i : Nat} (x : EnS s.heap e it i S) : s.TypeIs (.ref e) "enumerate" := by
  rcases x with ⟨old, he⟩ | ⟨old, a, f, oa, he, _⟩
  · exact ⟨_, he, rfl⟩
  · exact ⟨_, he, rfl⟩
end
structure LeG (P : Nat → Value → Prop) (lo : Addr) (h : Heap) (as : List Addr) : Prop where
  rise : as.Pairwise (· < ·)
  above : ∀ a ∈ as, lo < a
  pairs : ∀ (j : Nat) (a : Addr), as[j]? = some a → ∃ tk x, P j x ∧ h.get? a = some { cls := .type "tuple", data := .seq #[.int j tk, x] }
theorem LeG.there {P : Nat → Value → Prop} {lo : Addr} {h : Heap} {as : List Addr} (g : LeG P lo h as) {a : Addr} (ha : a ∈ as) : a < h.objs.size := by
  obtain ⟨j, hj⟩ := List.mem_iff_getElem?.mp ha
  obtain ⟨_, _, _, e⟩ := g.pairs j a hj
  exact Heap.lt_size e
section
variable {prog : Program} {w : World} {A : Around} {s : Shared} {R : Result → Shared → Prop}
end
section
variable {prog : Program} {w : World} {A : Around} {E : Value → Shared → Prop} {s : Shared}
end
section
variable {K : PySem.W.Frag} {ts : TA} {as : AA}
end
end L2
set_option Elab.async false
set_option linter.all false
set_option maxRecDepth 100000
namespace L2
open PySem PySem.Spec PyProof.Rows
section
variable {P : Program} {w : World} {A : Around} {R : Result → Shared → Prop} {s : Shared}
end
section
variable {X : Cx}
end
section
variable {K : PySem.W.Frag}
end
def kD : Key → D
  | .inl i => .int i
  | .inr x => .str x
theorem kD_rep {K : PySem.W.Frag} {H : Hp} (k : Key) : RepD K H (kV k) (kD k) := by
  cases k with
  | inl i => unfold RepD; rfl
  | inr x => unfold RepD; rfl
section
variable {K : PySem.W.Frag} {F : Fr} {σ : St} {ρ : En} {H : Hp}
theorem Rel.giveUp (r : Rel K F σ ρ H) {i : Nat} {a : Addr} {o : HO} (ho : (gt ρ i).own = true) (el : σ[i]? = some (some (.ref a))) : Rel K F σ (pt ρ i .un) (upd H a o) ∧ Kp σ ρ (pt ρ i .un) H (upd H a o) ∧ ¬ hs F σ (pt ρ i .un) a := by
  have lt := own_lt ho
  have own' : ∀ j, (gt (pt ρ i .un) j).own = true → i ≠ j ∧ (gt ρ j).own = true := fun j h => own_set rfl h
  have sub : ∀ b, owned σ (pt ρ i .un) b → owned σ ρ b ∧ b ≠ a := fun b ⟨j, hj, e⟩ => by
    obtain ⟨ij, hj⟩ := own' j hj
    exact ⟨⟨j, hj, e⟩, fun z => ij (r.nd i j a ho hj el (z ▸ e))⟩
  have hso : owned σ ρ a := ⟨i, ho, el⟩
  have vis : Same (hid H (hs F σ ρ)) (hid (upd H a o) (hs F σ (pt ρ i .un))) := hid_same fun b u e n => by
    have al : b ≠ a := fun z => n (.inr (z ▸ hso))
    exact ⟨by rw [upd_ne al]; exact e, fun z => n (z.imp id fun z => (sub b z).1)⟩
  have vl : ¬ hs F σ (pt ρ i .un) a := fun z => by
    rcases z with z | z
    · exact r.zo a hso z
    · exact (sub a z).2 rfl
  have up : ∀ {b}, H b ≠ none → (upd H a o) b ≠ none := fun {b} h e => by
    by_cases al : b = a
    · subst al; rw [upd_same] at e; cases e
    · rw [upd_ne al] at e; exact h e
  refine ⟨⟨by rw [pt_len, r.len], fun b u e n => ?_, fun b z => nt_upd (fun q => r.zo a hso (q ▸ z)) (r.zl b z), fun b h => r.zo b (sub b h).1, fun j b hj e => r.ow j b (own' j hj).2 e, r.mi, r.ml, fun b z => up (r.ma b z), fun j k b hj hk ej ek => r.nd j k b (own' j hj).2 (own' k hk).2 ej ek, fun j => ?_⟩, ⟨fun b u e n => ?_, fun j h => (own' j h).2⟩, vl⟩
  · have al : b ≠ a := fun z => by
      subst z
      rcases r.ow i _ ho el with ⟨_, q⟩ | q
      · exact n q
      · rw [e] at q; cases q
    rw [upd_ne al]; exact r.fr b u e n
  · by_cases ij : i = j
    · subst ij
      rw [gt_pt ρ i _ lt]
      trivial
    · rw [gt_pt_ne ρ i j _ ij]
      refine (r.sl j).keep vis fun b u ho' e h => ?_
      have al : b ≠ a := fun z => ij (r.nd i j a ho ho' el (z ▸ e))
      rw [upd_ne al]; exact h
  · have al : b ≠ a := fun z => n (z ▸ hso)
    rw [upd_ne al]; exact e
end
section
variable {K : PySem.W.Frag} {td : TE} {ad : AE}
end
end L2
set_option Elab.async false
set_option linter.all false
set_option maxRecDepth 100000
namespace L2
open PySem PySem.Spec PyProof.Rows
section
variable {prog : Program} {w : World} {A : Around} {E : Value → Shared → Prop} {s : Shared}
end
section
variable {K : PySem.W.Frag} {ts : TA} {as : AA}
end
end L2
set_option Elab.async false
set_option linter.all false
set_option maxRecDepth 100000
namespace L2
section
variable {m : Nat} {f : Nat → Nat}
end
section
variable {m : Nat} {L : Nat → Bool}
end
section
variable {m : Nat} {f : Nat → Nat} {L : Nat → Bool} {js : List (Nat × Nat)}
end
structure Rws (N : Net) : Prop where
  ix : okIx N.m N.js
  ne : ∀ (i : Nat) (p : Nat × Nat), N.js[i]? = some p → (rowsN N).getD p.1 0 ≠ (rowsN N).getD p.2 0
section
variable {N : Net}
end
section
variable {N : Net} (R : Rws N) (ho : ∀ o ∈ N.os, o < N.m + N.js.length)
include R ho
end
end L2
set_option Elab.async false
set_option linter.all false
set_option maxRecDepth 100000
namespace L2
end L2
set_option Elab.async false
set_option linter.all false
set_option maxRecDepth 100000
namespace L2
theorem compI_inv {n2 : Nat} {c : En → Prop} {g : AG} {tc : AT} {te : AE} {k : List D → En → Prop} (I : Nat → List D → En → Prop) {ds : List D} (hc : ∀ i acc ρ, i ≤ ds.length → I i acc ρ → c ρ ∧ acc.length ≤ 1000000)
    (hs : ∀ (i : Nat) d acc ρ (N : List D → En → Prop), ds[i]? = some d → I i acc ρ → (∀ acc' ρ', I (i + 1) acc' ρ' → N acc' ρ') →
      g d ρ fun ρ1 => tc ρ1 fun b ρ2 => if b = true then te ρ2 fun r ρ3 => sto [r.frz] ρ3 fun es ρ4 => N (acc ++ es) (List.replicate n2 .un ++ ρ4.drop n2) else N acc (List.replicate n2 .un ++ ρ2.drop n2))
    (hd : ∀ acc ρ, I ds.length acc ρ → k acc ρ) : ∀ acc ρ, I 0 acc ρ → compI n2 c g tc te k ds acc ρ := by
  have go : ∀ (es : List D) (i : Nat), ds.drop i = es → i ≤ ds.length → ∀ acc ρ, I i acc ρ → compI n2 c g tc te k es acc ρ := by
    intro es
    induction es with
    | nil =>
      intro i h hi acc ρ hI
      have : ds.length ≤ i := List.drop_eq_nil_iff.mp h
      have : i = ds.length := by omega
      subst this
      unfold compI
      exact ⟨(hc _ acc ρ (Nat.le_refl _) hI).1, hd acc ρ hI⟩
    | cons d es ih =>
      intro i h hi acc ρ hI
      have lt : i < ds.length := by
        rcases Nat.lt_or_ge i ds.length with q | q
        · exact q
        · rw [List.drop_eq_nil_of_le q] at h; cases h
      rw [List.drop_eq_getElem_cons lt] at h
      injection h with h1 h2
      unfold compI
      obtain ⟨a, b⟩ := hc i acc ρ hi hI
      exact ⟨a, b, hs i d acc ρ (fun acc' ρ' => compI n2 c g tc te k es acc' ρ') (by rw [← h1]; exact List.getElem?_eq_getElem lt) hI (fun acc' ρ' i' => ih (i + 1) h2 lt acc' ρ' i')⟩
  exact go ds 0 rfl (Nat.zero_le _)
theorem compB_inv {n2 n : Nat} {js : List Nat} {c : En → Prop} {g : AG} {tc : AT} {i2 : AI} {g2 : AG} {tc2 : AT} {te : AE} {q : List D → En → Prop} (I : Nat → List D → En → Prop) {ds : List D} (hc : ∀ i acc ρ, i ≤ ds.length → I i acc ρ → c ρ ∧ acc.length ≤ 1000000)
    (hs : ∀ (i : Nat) d acc ρ (N : List D → En → Prop), ds[i]? = some d → I i acc ρ → (∀ acc' ρ', I (i + 1) acc' ρ' → N acc' ρ') →
      g d (blkE n js ρ) fun ρ1 => tc ρ1 fun b ρ2 => if b = true then i2 ρ2 fun ds2 c2 ρ3 => compI n2 c2 g2 tc2 te (fun acc' ρ4 => N acc' (back ρ (js.map R.o) (ρ4.drop n))) ds2 acc ρ3 else N acc (back ρ (js.map R.o) (ρ2.drop n)))
    (hd : ∀ acc ρ, I ds.length acc ρ → q acc ρ) : ∀ ρ, I 0 [] ρ → compB n2 n js c g tc i2 g2 tc2 te q ds [] ρ := by
  have go : ∀ (es : List D) (i : Nat), ds.drop i = es → i ≤ ds.length → ∀ acc ρ, I i acc ρ → compB n2 n js c g tc i2 g2 tc2 te q es acc ρ := by
    intro es
    induction es with
    | nil =>
      intro i h hi acc ρ hI
      have : ds.length ≤ i := List.drop_eq_nil_iff.mp h
      have : i = ds.length := by omega
      subst this
      unfold compB
      obtain ⟨a, b⟩ := hc _ acc ρ (Nat.le_refl _) hI
      exact ⟨a, b, hd acc ρ hI⟩
    | cons d es ih =>
      intro i h hi acc ρ hI
      have lt : i < ds.length := by
        rcases Nat.lt_or_ge i ds.length with q | q
        · exact q
        · rw [List.drop_eq_nil_of_le q] at h; cases h
      rw [List.drop_eq_getElem_cons lt] at h
      injection h with h1 h2
      unfold compB
      exact ⟨(hc i acc ρ hi hI).1, hs i d acc ρ (fun acc' ρ' => compB n2 n js c g tc i2 g2 tc2 te q es acc' ρ') (by rw [← h1]; exact List.getElem?_eq_getElem lt) hI (fun acc' ρ' i' => ih (i + 1) h2 lt acc' ρ' i')⟩
  exact go ds 0 rfl (Nat.zero_le _) []
end L2
set_option Elab.async false
set_option linter.all false
set_option maxRecDepth 100000
namespace L2
open PySem PySem.Spec PyProof.Rows
def tDispT (tk tv : TE) : TE := fun σ H Q => tk σ H fun y H1 => tv σ H1 fun v H2 => ∃ b ks, y = .ref b ∧ H2 b = some (.tup (ks.map kV)) ∧ ∀ p, H2 p = none → Q (.ref p) (upd H2 p (.dT [(ks, v)]))
theorem pe_dispT {X : Cx} {k v : Expr} {pos : Pos} {tk tv : TE} (hu : X.A.units + 1 < cLine) (hk : PE X k tk) (hv : PE X v tv) : PE X (.Dict [some k] [v] pos) (tDispT tk tv) := by
  intro pins s σ H Q I h
  rw [arm_eval_Dict]
  have hsh : (evalEachOpt [some k] X.env).zip ((evalEach [v] X.env).map fun v => do let x ← v; standAt pos; pure x) = [(eval k X.env, (do let x ← eval v X.env; standAt pos; pure x : Sem Value))].map fun p => (some p.1, p.2) := rfl
  rw [hsh, dictDisplay_pairs _ (by simp) (by simp)]
  refine wpAny_bind (wpAny_standAt (wpAny_bind ?_))
  unfold subDict
  refine wpAny_bind (wpAny_alloc ?_)
  refine wpAny_bind (wpAny_holding ?_)
  rw [if_pos (show [(eval k X.env, (do let x ← eval v X.env; standAt pos; pure x : Sem Value))].length ≤ 15 by simp)]
  have f0 : FpOk X pins H s.heap.objs.size := I.fpOk (Nat.le_refl _) (I.hok.fresh (Nat.le_refl _))
  have I1 : Inv X pins σ H { s with heap := s.heap.push { cls := .type "dict", data := .dict #[] } } := I.kept (t' := s.toks) fun b o e => Heap.get?_push_of_some _ e
  have g1 : (s.heap.push { cls := .type "dict", data := .dict #[] }).get? s.heap.objs.size = some { cls := .type "dict", data := .dict #[] } := Heap.get?_push_size _ rfl
  have hbig := I.big
  generalize hd0 : s.heap.objs.size = d at f0 g1 hbig ⊢
  have I2 : Inv X ((d, { cls := .type "dict", data := .dict #[] }) :: pins) σ H { s with heap := s.heap.push { cls := .type "dict", data := .dict #[] } } := I1.pins_of fun p hp => by
    rcases List.mem_cons.mp hp with rfl | hp
    · exact ⟨g1, f0.1, f0.2.1, f0.2.2.1, fun v z => by cases z⟩
    · exact I1.pin p (List.mem_append_right _ hp)
  refine wpAny_bind (evalPairs_cons (thn (hk _ _ σ H _ I2 h) fun u1 s1 ⟨y, H1, J1, ry, q1⟩ => wpAny_bind (thn (hv _ s1 σ H1 _ J1 q1) fun u2 s2 ⟨x, H2, J2, rx, b, ks, ey, hb, q2⟩ => wpAny_bind (wpAny_standAt (wpAny_pure (evalPairs_nil ?_))))))
  subst ey
  cases (show u1 = Value.ref b from ry)
  have p2 := J2.pin (d, { cls := .type "dict", data := .dict #[] }) (List.mem_append_right _ List.mem_cons_self)
  have g2 : s2.heap.get? d = some { cls := .type "dict", data := .dict #[] } := p2.1
  have n2 : H2 d = none := p2.2.1
  have dd : s2.heap.DictOfH (tupleKind (mixKind X.prog X.w)) d [] := ⟨_, #[], 0, g2, ⟨rfl, rfl, rfl⟩, rfl, rfl, (fun x hx => nomatch hx), List.nodup_nil⟩
  refine wpAny_holding ?_
  rw [List.forIn_cons]
  refine wpAny_bind ?_
  refine wpAny_bind ?_
  show wpAny _ _ (dictSet d (.ref b) u2 >>= _) _ _ _
  refine wpAny_bind ?_
  refine wpAny_dictSet_heap (hsz := Nat.zero_le _) (knd := tupleKind (mixKind X.prog X.w)) (show X.A.units < cLine by omega) (key_of J2.hok hb) dd fun h' dd' hs => ?_
  refine wpAny_pure ?_
  show wpAny _ _ (forIn ([] : List (Value × Value)) PUnit.unit _) _ _ _
  rw [List.forIn_nil]
  refine wpAny_pure (wpAny_pure (wpAny_pure ?_))
  obtain ⟨q, es, ep, hq, h2, h3, h4, _, h5⟩ := dd'
  have sb : Heap.SameBut d s2.heap h' := hs
  have J3 : Inv X pins σ H2 s2 := J2.pins_of fun p hp => J2.pin p (List.mem_append_right _ (List.mem_cons_of_mem _ hp))
  have f2 : FpOk X pins H2 d := ⟨n2, f0.2⟩
  have J4 : Inv X pins σ H2 { s2 with heap := h', toks := s2.toks + (tupleKind (mixKind X.prog X.w)).draws ks } := Inv.turns (ch := [d]) (t' := s2.toks + (tupleKind (mixKind X.prog X.w)).draws ks) J3 (fun b o hb e => sb.extBut b o (fun z => hb (by simp [z])) e) (fun b hb => by rw [List.mem_singleton.mp hb]; exact f2)
  have nb : b ≠ d := ne_of_none hb n2
  have J5 := J4.trackO (p := d) (o := .dT [(ks, x)]) f2 ⟨by show 1 ≤ sizeLine; decide, beq_eq_false_iff_ne.mpr (Ne.symm (Nat.ne_of_lt hbig)), [(ks, b, u2)], .cons ⟨rfl, by show upd H2 d _ b = _; rw [upd_ne nb]; exact hb, rx⟩ .nil, q, es, ep, hq, h2, h3, h4, h5⟩
  exact wpAny_pure ⟨.ref d, _, J5, rfl, q2 d n2⟩
def keysD' : List D → Option (List Key)
  | [] => some []
  | d :: ds => (match dKey d, keysD' ds with | some k, some ks => some (k :: ks) | _, _ => none)
def keyT : D → Option (List Key)
  | .tup ds => keysD' ds
  | _ => none
section
variable {K : PySem.W.Frag} {td ty tx tv tk : TE} {ad ay ax av ak : AE}
theorem keysD'_ok {H : Hp} : ∀ {vs : List V} {ds : List D} {ks : List Key}, RepDs K H vs ds → keysD' ds = some ks → vs = ks.map kV
  | [], [], ks, _, e => by cases e; rfl
  | v :: vs, d :: ds, ks, r, e => by
    unfold RepDs at r
    unfold keysD' at e
    split at e
    · rename_i k1 ks1 e1 e2
      cases e
      rw [keysD'_ok r.2 e2, kV_of r.1 e1]; rfl
    · cases e
  | [], _ :: _, _, r, _ => by unfold RepDs at r; exact r.elim
  | _ :: _, [], _, r, _ => by unfold RepDs at r; exact r.elim
theorem keyT_ok {H : Hp} {v : V} {d : D} {ks : List Key} (r : RepD K H v d) (e : keyT d = some ks) : ∃ b, v = .ref b ∧ H b = some (.tup (ks.map kV)) := by
  cases d with
  | tup ds =>
    unfold RepD at r
    obtain ⟨a, vs, rfl, h1, h2⟩ := r
    have := keysD'_ok h2 e
    subst this
    exact ⟨a, rfl, h1⟩
  | _ => cases e
theorem keyT_at {F : Fr} {σ : St} {ρ : En} {H : Hp} {v : V} {d : D} {ks : List Key} (r : RepD K (hid H (hs F σ ρ)) v d) (e : keyT d = some ks) : ∃ b, v = .ref b ∧ H b = some (.tup (ks.map kV)) := by
  obtain ⟨b, e1, e2⟩ := keyT_ok r e
  exact ⟨b, e1, (hid_some.mp e2).2⟩
@[irreducible] def gTKey (d : D) (q : List Key → Prop) : Prop := ∃ k, keyT d = some k ∧ q k
theorem gTKey_ok {d : D} {k : List Key} {q : List Key → Prop} (e : keyT d = some k) (h : q k) : gTKey d q := by unfold gTKey; exact ⟨k, e, h⟩
def aDispT (ak av : AE) : AE := fun ρ q => ak ρ fun r1 ρ1 => match r1 with
  | .d kd => av ρ1 fun r2 ρ2 => sto [r2.frz] ρ2 fun es ρ3 => (match es with
    | [e] => gTKey kd fun k => q (.n (.dt [(k, e)])) ρ3
    | _ => False)
  | _ => False
theorem tok_dispT (hk : TEok K tk ak) (hv : TEok K tv av) : TEok K (tDispT tk tv) (aDispT ak av) := by
  intro F σ ρ H q Q r h k
  refine hk F σ ρ H _ _ r h fun r1 ρ1 y H1 h1 o1 => ?_
  obtain ⟨r1', k1, i1⟩ := o1.inF
  split at h1
  · rename_i kd
    refine hv F σ ρ1 H1 _ _ r1' h1 fun r2 ρ2 x H2 h2 o2 => ?_
    obtain ⟨r2', k2, i2⟩ := o2.inF
    obtain ⟨d, ρ3, h3, r3, k3, rv⟩ := sto_one r2' i2 h2
    dsimp only at h3
    unfold gTKey at h3
    obtain ⟨kk, ek, h3⟩ := h3
    have i1' : RepD K (hid H2 (hs F σ ρ3)) y kd := (RepD.same i1 k2.vis).same k3.vis
    obtain ⟨b, rfl, hb⟩ := keyT_at i1' ek
    refine ⟨b, kk, rfl, hb, fun p hp => ?_⟩
    exact k (.n (.dt [(kk, d)])) ρ3 _ _ h3 ⟨H2, p, _, r3, (k1.trans k2).trans k3, rfl, ⟨p, [(kk, x)], rfl, upd_same, rfl, .one rv⟩, hp, rfl, rfl⟩
  · exact h1.elim
def aDInT (neg : Bool) (i a : AE) : AE := fun ρ q => i ρ fun r ρ1 => a ρ1 fun r2 ρ2 => match r, r2 with
  | .d d, .o j => (match gt ρ2 j with
    | .dt kvs => gTKey d fun k => q (.d (.bl (if neg then !(valD kvs k).isSome else (valD kvs k).isSome))) ρ2
    | _ => False)
  | _, _ => False
theorem isSome_repT {H : Hp} {kvs : List (List Key × D)} {ks : List (List Key × V)} {k : List Key} (e1 : ks.map Prod.fst = kvs.map Prod.fst) (e2 : RepDs K H (ks.map Prod.snd) (kvs.map Prod.snd)) : (valV ks k).isSome = (valD kvs k).isSome := by
  obtain ⟨a, b⟩ := val_rep k e1 e2
  cases h : valD kvs k with
  | none => rw [b h]; rfl
  | some d => obtain ⟨v, e, _⟩ := a d h; rw [e]; rfl
theorem tok_dnotinT (hi : TEok K ty ay) (ha : TEok K td ad) : TEok K (tDNotIn ty td) (aDInT true ay ad) := by
  intro F σ ρ H q Q r h k
  refine hi F σ ρ H _ _ r h fun r1 ρ1 y H1 h1 o1 => ?_
  obtain ⟨r1', k1, i1⟩ := o1.inF
  refine ha F σ ρ1 H1 _ _ r1' h1 fun r2 ρ2 x H2 h2 o2 => ?_
  obtain ⟨r2', k2, i2⟩ := o2.inF
  split at h2
  · rename_i d j
    have ej : σ[j]? = some (some x) := i2
    split at h2
    · rename_i kvs hg
      unfold gTKey at h2
      obtain ⟨kk, ek, h2⟩ := h2
      obtain ⟨t, ks, rfl, ht, e1, e2⟩ := dt_at r2' ej hg
      obtain ⟨b, rfl, hb⟩ := keyT_at (RepD.same i1 k2.vis) ek
      refine ⟨t, valV ks kk, rfl, DGet.t ht hb, ?_⟩
      rw [isSome_repT e1 e2]
      exact ((k.after k1).after k2).bl r2' h2
    · exact h2.elim
  · exact h2.elim
@[irreducible] def gTGet (kvs : List (List Key × D)) (d : D) (q : D → Prop) : Prop := ∃ k x, keyT d = some k ∧ valD kvs k = some x ∧ q x
theorem gTGet_ok {kvs : List (List Key × D)} {d : D} {k : List Key} {x : D} {q : D → Prop} (e : keyT d = some k) (e' : valD kvs k = some x) (h : q x) : gTGet kvs d q := by unfold gTGet; exact ⟨k, x, e, e', h⟩
def aDGetT (a i : AE) : AE := fun ρ q => a ρ fun r ρ1 => match r with
  | .o j => i ρ1 fun r2 ρ2 => (match r2, gt ρ2 j with
    | .d d, .dt kvs => gTGet kvs d fun x => q (.d x) ρ2
    | _, _ => False)
  | _ => False
theorem tok_dgetT (ha : TEok K td ad) (hi : TEok K ty ay) : TEok K (tDGet td ty) (aDGetT ad ay) := by
  intro F σ ρ H q Q r h k
  refine ha F σ ρ H _ _ r h fun r1 ρ1 x H1 h1 o1 => ?_
  obtain ⟨r1', k1, i1⟩ := o1.inF
  split at h1
  · rename_i j
    have ej : σ[j]? = some (some x) := i1
    refine hi F σ ρ1 H1 _ _ r1' h1 fun r2 ρ2 y H2 h2 o2 => ?_
    obtain ⟨r2', k2, i2⟩ := o2.inF
    split at h2
    · rename_i d kvs hg
      unfold gTGet at h2
      obtain ⟨kk, z, ek, ez, hq⟩ := h2
      obtain ⟨t, ks, rfl, ht, e1, e2⟩ := dt_at r2' ej hg
      obtain ⟨v, ev, rv⟩ := (val_rep kk e1 e2).1 z ez
      obtain ⟨b, rfl, hb⟩ := keyT_at i2 ek
      refine ⟨t, v, rfl, ?_, ((k.after k1).after k2).dat r2' hq rv⟩
      rw [← ev]
      exact DGet.t ht hb
    · exact h2.elim
  · exact h1.elim
def aDPutT (x o i : AE) : AS := fun e ρ => x ρ fun r ρ1 => sto [r.frz] ρ1 fun ds ρ2 => o ρ2 fun r2 ρ3 => match r2 with
  | .o j => i ρ3 fun r3 ρ4 => (match r3, gt ρ4 j, ds with
    | .d kd, .dt kvs, [d] => gTKey kd fun k => kvs.length ≤ 1000000 ∧ e.nx (pt ρ4 j (.dt (putD kvs k d)))
    | _, _, _ => False)
  | _ => False
theorem sok_dputT {pr : Nat → Bool} (h : TEok K tv av) (ho : TEok K td ad) (hi : TEok K ty ay) : TSok K pr (sDPut td ty tv) (aDPutT av ad ay) := by
  intro F σ ρ H D e hp r ha k
  refine h F σ ρ H _ _ r ha fun r1 ρ1 v H1 h1 o => ?_
  obtain ⟨r', k1, i1⟩ := o.inF
  obtain ⟨ds, ρ2, h2, r2, k2, rd⟩ := sto_ok r' (.cons i1 .nil) h1
  refine ho F σ ρ2 H1 _ _ r2 h2 fun r3 ρ3 x H3 h3 o3 => ?_
  obtain ⟨r3', k3, i3⟩ := o3.inF
  split at h3
  · rename_i j
    have ej : σ[j]? = some (some x) := i3
    refine hi F σ ρ3 H3 _ _ r3' h3 fun r4 ρ4 y H4 h4 o4 => ?_
    obtain ⟨r4', k4, i4⟩ := o4.inF
    split at h4
    · rename_i kd kvs d hg
      unfold gTKey at h4
      obtain ⟨kk, ek, h4⟩ := h4
      obtain ⟨t, ks, rfl, ht, e1, e2⟩ := dt_at r4' ej hg
      unfold RepDs at rd
      have rd4 := (RepD.same rd.1 (k3.trans k4).vis)
      obtain ⟨p1, p2⟩ := put_rep kk rd4 e1 e2
      obtain ⟨b, rfl, hb⟩ := keyT_at i4 ek
      have hw := r4'.write (i := j) (l := t) (o := .dT (putK ks kk v)) (s := .dt (putD kvs kk d)) (by rw [hg]; rfl) ej rfl ⟨t, _, rfl, upd_same, p1, p2⟩
      exact ⟨t, _, rfl, DPut.t ht hb (smallS (by rw [keys_len e1]; exact h4.1)), k.nx _ _ _ h4.2 hw.1⟩
    · exact h4.elim
  · exact h3.elim
end
end L2
set_option Elab.async false
set_option linter.all false
set_option maxRecDepth 100000
namespace L2
open PySem PySem.Spec PyProof.Rows
end L2
set_option Elab.async false
set_option linter.all false
set_option maxRecDepth 100000
namespace L2
open PySem PySem.Spec PyProof.Rows
theorem kt_get {H : Hp} {kvs : List (List Key × V)} {xs : List (List Key × Addr × Value)} (h : KT H kvs xs) : ∀ {i : Nat} {ks : List Key} {y : V}, kvs[i]? = some (ks, y) → ∃ b u, xs[i]? = some (ks, b, u) ∧ H b = some (.tup (ks.map kV)) ∧ RelV y u := by
  induction h with
  | nil => intro i ks y e; cases e
  | @cons p q l l' a t ih =>
    intro i ks y e
    cases i with
    | zero =>
      cases e
      obtain ⟨q1, q2, q3⟩ := q
      obtain ⟨e1, e2, e3⟩ := a
      simp only at e1 e2 e3
      subst e1
      exact ⟨q2, q3, rfl, e2, e3⟩
    | succ i => exact ih e
theorem kt_map {H H' : Hp} {kvs : List (List Key × V)} {xs : List (List Key × Addr × Value)} (g : ∀ b ys, H b = some (.tup ys) → H' b = some (.tup ys)) (h : KT H kvs xs) : KT H' kvs xs := by
  induction h with
  | nil => exact .nil
  | cons a _ ih => exact .cons ⟨a.1, g _ _ a.2.1, a.2.2⟩ ih
theorem kt_len {H : Hp} {kvs : List (List Key × V)} {xs : List (List Key × Addr × Value)} (h : KT H kvs xs) : kvs.length = xs.length := by
  induction h with
  | nil => rfl
  | cons _ _ ih => rw [List.length_cons, List.length_cons, ih]
section
variable {K : PySem.W.Frag} {td : TE} {ad : AE}
theorem kDs_rep {H : Hp} : ∀ ks : List Key, RepDs K H (ks.map kV) (ks.map kD)
  | [] => .nil
  | k :: ks => .cons (kD_rep k) (kDs_rep ks)
end
end L2
set_option Elab.async false
set_option linter.all false
set_option maxRecDepth 100000
namespace L2
open PySem PySem.Spec PyProof.Rows
section
variable {X : Cx} (K : PySem.W.Frag)
end
section
variable {K : PySem.W.Frag} {td ty tx : TE} {ad ay ax : AE}
end
end L2
set_option Elab.async false
set_option linter.all false
set_option maxRecDepth 100000
namespace L2
open PySem PySem.Spec PyProof.Rows
section
variable {prog : Program} {w : World} {A : Around} {it : Addr} {own wr : List Addr} {len : Nat} {Pv : Nat → Value → Prop} {Sx : Nat → Heap → Prop} {Rz : Result → Shared → Prop}
end
section
variable {X : Cx} (K : PySem.W.Frag)
end
section
variable {K : PySem.W.Frag}
end
end L2
set_option Elab.async false
set_option linter.all false
set_option maxRecDepth 100000
namespace L2
open PySem PySem.Spec PyProof.Rows
section
variable {X : Cx} {o : Expr} {td : TE} {p pos : Pos}
end
section
variable {K : PySem.W.Frag} {td : TE} {ad : AE}
end
end L2
set_option Elab.async false
set_option linter.all false
set_option maxRecDepth 100000
namespace L2
open PySem PySem.Spec PyProof.Rows
section
variable {X : Cx} {a b c d : Expr} {ta tb tc td : TE} {pos : Pos}
end
section
variable {K : PySem.W.Frag} {ta tb tc td : TE} {a b c d : AE} {rr rr' rr'' : R2} {g g' g'' : R → R → AE}
end
end L2
set_option Elab.async false
set_option linter.all false
set_option maxRecDepth 100000
namespace L2
open PySem PySem.Spec PyProof.Rows
section
variable {P : Program} {w : World} {K : PySem.W.Frag} {mg : Str → Option Value} {base : Heap} {N : List Str} {qual : Str} {scope : Scope} {f : Addr} {cd : Value} {A : Around} {outer : List Env} {s0 : Shared} {H0 : Hp} {E : XK}
end
section
variable {X : Cx} {R : VK} {pos : Pos}
end
end L2
set_option Elab.async false
set_option linter.all false
set_option maxRecDepth 100000
namespace L2
open PySem PySem.Spec PyProof.Rows
section
variable {K : PySem.W.Frag} {td ty tx : TE} {ad ay ax : AE}
end
end L2
set_option Elab.async false
set_option linter.all false
set_option maxRecDepth 100000
namespace L2
open PySem PySem.Spec PyProof.Rows
section
variable {X : Cx} {R : VK} {E : XK} {C : Addr} {fn : Option Str} {K : PySem.W.Frag} {S : ASp}
end
end L2
set_option Elab.async false
set_option linter.all false
set_option maxRecDepth 100000
namespace L2
open PySem PySem.Spec PyProof.Rows
section
variable {X : Cx} (K : PySem.W.Frag)
end
section
variable {K : PySem.W.Frag} {ta te : TE} {a ae : AE} {ts : TA} {as : AA}
end
end L2
set_option Elab.async false
set_option linter.all false
set_option maxRecDepth 100000
namespace L2
open PySem PySem.Spec PyProof.Rows
section
variable {X : Cx}
end
section
variable {K : PySem.W.Frag} {te : TE} {ae : AE} {pr : Nat → Bool}
end
end L2
set_option Elab.async false
set_option linter.all false
set_option maxRecDepth 100000
namespace L2
open PySem PySem.Spec PyProof.Rows
section
variable {prog : Program} {w : World} {A : Around} {E : Value → Shared → Prop} {s : Shared}
end
end L2
set_option Elab.async false
set_option linter.all false
set_option maxRecDepth 100000
namespace L2
open PySem PySem.Spec PyProof.Rows
section
variable {M : Model} {A : Around} {E : Value → Shared → Prop} {s : Shared} {env : Env}
theorem cw_type_kw {pos : Pos} {T : String} {first : List Value} {args : List (Bool × Sem Value)} {keywords : List (Option Str × Sem Value)} {Q : Value → Shared → Prop}
    (hplain : args.any (·.1) = false) (hkw : keywords.any (·.1.isNone) = false)
    (h : wpAny M A (evalArgs (.type T) true args keywords) (fun a s₁ => wpAny M A (call (.type T) (first ++ a.pos) a.kw) Q E s₁) E s) :
    wpAny M A (callWith pos (.type T) first args keywords) Q E s := by
  unfold callWith
  refine wpAny_bind (wpAny_holding (wpAny_mono h (fun a s₁ h₁ => wpAny_bind (wpAny_standAt ?_)) fun _ _ x => x))
  simp only [hplain, hkw, Bool.or_false]
  refine wpAny_bind (wpAny_pure ?_)
  exact wpAny_bind (wpAny_mono h₁ (fun r s₂ hr => wpAny_bind (wpAny_holding (wpAny_point (wpAny_pure hr)))) fun _ _ x => x)
theorem cw_kwT {pos : Pos} {T : String} {e : Expr} {rest : List Expr} {kws : List Keyword} {Q : Value → Shared → Prop}
    (h : wpAny M A (spliced (backTo pos (starEach (e :: rest) env))) (fun vs s₁ => wpAny M A (evalAll ((backToKw pos (keywordEach kws env)).map (·.2)))
      (fun kvs s₂ => wpAny M A (call (.type T) vs (((backToKw pos (keywordEach kws env)).filterMap (·.1)).zip kvs)) Q E s₂) E s₁) E s)
    (he : backTo pos (starEach (e :: rest) env) = (false, eval e env) :: backTo pos (starEach rest env) := by rfl)
    (hplain : (backTo pos (starEach (e :: rest) env)).any (·.1) = false := by rfl)
    (hall : (backToKw pos (keywordEach kws env)).all (·.1.isSome) = true := by rfl)
    (hkw : (backToKw pos (keywordEach kws env)).any (·.1.isNone) = false := by rfl) :
    wpAny M A (callWith pos (.type T) [] (backTo pos (starEach (e :: rest) env)) (backToKw pos (keywordEach kws env))) Q E s := by
  refine cw_type_kw hplain hkw ?_
  rw [he] at h ⊢
  exact evalArgs_kwB hall h
end
section
variable {K : PySem.W.Frag} {ts : TA} {as : AA} {td : TE} {ad : AE}
end
end L2
set_option Elab.async false
set_option linter.all false
set_option maxRecDepth 100000
namespace L2
open PySem PySem.Spec PyProof.Rows
section
variable {X : Cx} (K : PySem.W.Frag)
def isNone : Value → Bool
  | .none => true
  | _ => false
end
section
variable {K : PySem.W.Frag}
end
end L2
set_option Elab.async false
set_option linter.all false
set_option maxRecDepth 100000
set_option maxHeartbeats 2000000
namespace L2
open PySem PySem.Spec PyProof.Rows
end L2
set_option Elab.async false
set_option linter.all false
set_option maxRecDepth 100000
namespace L2
open PySem PySem.Spec PyProof.Rows
end L2
set_option Elab.async false
set_option linter.all false
set_option maxRecDepth 100000
namespace L2
open PySem PySem.Spec PyProof.Rows
section
variable {X : Cx}
end
section
variable {K : PySem.W.Frag} {ta te : TE} {a ae : AE} {ts : TA} {as : AA}
end
end L2
set_option Elab.async false
set_option linter.all false
set_option maxRecDepth 100000
namespace L2
open PySem PySem.Spec PyProof.Rows
section
variable {K : PySem.W.Frag} {te ta : TE} {ae a : AE} {ts : TA} {as : AA}
theorem RepDs.eraseIdx {H : Hp} : ∀ {vs : List V} {ds : List D} (n : Nat), RepDs K H vs ds → RepDs K H (vs.eraseIdx n) (ds.eraseIdx n)
  | [], [], n, _ => by simp; exact .nil
  | v :: vs, d :: ds, 0, h => by unfold RepDs at h; exact h.2
  | v :: vs, d :: ds, n + 1, h => by unfold RepDs at h; exact .cons h.1 (RepDs.eraseIdx n h.2)
  | [], d :: ds, n, h => by unfold RepDs at h; exact h.elim
  | v :: vs, [], n, h => by unfold RepDs at h; exact h.elim
end
end L2
set_option Elab.async false
set_option linter.all false
set_option maxRecDepth 100000
namespace L2
open PySem PySem.Spec PyProof.Rows
end L2
set_option Elab.async false
set_option linter.all false
set_option maxRecDepth 100000
namespace L2
open PySem
def Ris (xs : Array Nat) : Prop := xs.toList.Pairwise (· < ·)
theorem Ris.lt {xs : Array Nat} (h : Ris xs) {i k : Nat} (hk : k < xs.size) (hi : i < k) : xs[i]'(by omega) < xs[k] := by
  have := List.pairwise_iff_getElem.mp h i k (by simp; omega) (by simpa using hk) hi
  simpa using this
def Led (t : SetTable) : Prop := t.led = true ∧ Ris t.place
end L2
set_option Elab.async false
set_option linter.all false
set_option maxRecDepth 100000
namespace L2
open PySem PySem.Spec PyProof.Rows
def byT (w : World) : Bool := w.params.followText "set-order"
def SetI (P : Program) (w : World) (h : Heap) (a : Addr) (ks : List Int) : Prop :=
  ∃ o es ep t, h.get? a = some o ∧ o.ExactSet ∧ o.data = .set es ep t ∧ ElemsOf (intKind P w) es.toList ∧ (∀ k, k ∈ ks ↔ ∃ e ∈ es.toList, (intKind P w).is k e.2 = true) ∧ es.size < scanBound ∧ t.fits es.size = true ∧ es.size = ks.length ∧ (byT w = false → Led t)
section
variable {P : Program} {w : World} {A : Around} {E : Value → Shared → Prop} {s : Shared}
theorem SetI.kept {h h' : Heap} {a : Addr} {ks : List Int} (hS : SetI P w h a ks) (k : ∀ o, h.get? a = some o → h'.get? a = some o) : SetI P w h' a ks := by
  obtain ⟨o, es, ep, t, ho, r⟩ := hS
  exact ⟨o, es, ep, t, k o ho, r⟩
end
end L2
set_option Elab.async false
set_option linter.all false
set_option maxRecDepth 100000
set_option maxHeartbeats 3200000
namespace L2
open PySem PySem.Spec PyProof.Rows
section
variable {P : Program} {w : World} {A : Around} {E : Value → Shared → Prop} {s : Shared}
variable {R : Result → Shared → Prop} {I : Addr} {fp wr : List Addr} {G : Array GenState → Array GenState → Prop} {n : Nat} {p : Nat → Value → Prop} {St : Nat → Shared → Prop}
end
section
variable {P : Program} {w : World} {A : Around} {E : Value → Shared → Prop} {s : Shared}
end
end L2
set_option Elab.async false
set_option linter.all false
set_option maxRecDepth 100000
set_option maxHeartbeats 1000000
namespace L2
open PySem PySem.Spec PyProof.Rows
section
variable {P : Program} {w : World} {A : Around} {E : Value → Shared → Prop} {s : Shared}
variable {I S : Addr} {o : Obj} {es : Array (Int × Value)} {ep : Nat} {t : SetTable}
end
end L2
set_option Elab.async false
set_option linter.all false
set_option maxRecDepth 100000
set_option maxHeartbeats 1000000
namespace L2
open PySem PySem.Spec PyProof.Rows
section
variable {P : Program} {w : World} {A : Around} {E : Value → Shared → Prop} {s : Shared} {I S : Addr} {o : Obj} {es : Array (Int × Value)} {ep : Nat} {t : SetTable}
end
end L2
set_option Elab.async false
set_option linter.all false
set_option maxRecDepth 100000
set_option maxHeartbeats 1000000
namespace L2
open PySem PySem.Spec PyProof.Rows
section
variable {P : Program} {w : World} {A : Around} {E : Value → Shared → Prop} {s : Shared} {I S : Addr} {o : Obj} {es : Array (Int × Value)} {ep : Nat} {t : SetTable}
end
end L2
set_option Elab.async false
set_option linter.all false
set_option maxRecDepth 100000
set_option maxHeartbeats 1000000
namespace L2
open PySem PySem.Spec PyProof.Rows
section
variable {P : Program} {w : World} {A : Around} {E : Value → Shared → Prop} {s : Shared} {S : Addr}
end
end L2
set_option Elab.async false
set_option linter.all false
set_option maxRecDepth 100000
namespace L2
open PySem PySem.Spec PyProof.Rows
theorem Inv.drawn {X : Cx} {pins : List (Addr × Obj)} {σ : List (Option V)} {H : Hp} {s : Shared} (I : Inv X pins σ H s) (d : Drawn) : Inv X pins σ H { s with drawn := d } :=
  ⟨I.ok, I.os, I.bare, I.base, I.loc, I.cell, I.free, I.freeC, I.pin, I.hok, I.len⟩
section
variable {K : PySem.W.Frag} {ts : TA} {as : AA}
end
end L2
set_option Elab.async false
set_option linter.all false
set_option maxRecDepth 100000
namespace L2
open PySem PySem.Spec PyProof.Rows
section
variable {X : Cx} {K : PySem.W.Frag} {S : ASp}
end
section
variable {K : PySem.W.Frag} {pr : Nat → Bool} {th : TS} {ah : AS} {S : ASp} {ts : TA} {as : AA}
end
end L2
set_option Elab.async false
set_option linter.all false
set_option maxRecDepth 100000
namespace L2
open PySem PySem.Spec PyProof.Rows PySem.W
section
variable {prog : Program} {w : World} {A : Around} {E : Value → Shared → Prop} {s : Shared} {env : Env}
variable {nm q : Str} {C N : Addr} {bs bm bmB : List Value} {hdct : Bool} {sn : List Str} {sub : List Value} {ab : Bool} {col : Option Bool} {dd : Option Addr} {k0 k1 k2 k3 k5 : Option Value} {B newId initId : String}
end
section
variable {X : Cx} {C fI : Addr} {f x : Str}
end
end L2
set_option Elab.async false
set_option linter.all false
set_option maxRecDepth 100000
namespace L2
open PySem PySem.Spec PyProof.Rows PySem.W
section
variable {K : PySem.W.Frag} {C : Addr} {f : Str} {pr : Nat → Bool} {t0 : TE} {a0 : AE}
end
end L2
set_option Elab.async false
set_option linter.all false
set_option maxRecDepth 100000
namespace L2
open PySem PySem.Spec PyProof.Rows
mutual
def noL : D → Bool
  | .lst _ => false
  | .tup ds => noLs ds
  | _ => true
def noLs : List D → Bool
  | [] => true
  | d :: ds => noL d && noLs ds
end
section
variable {K : PySem.W.Frag} {H H' : Hp}
mutual
theorem RepD.tups (ht : ∀ a vs, StT H a vs → StT H' a vs) : ∀ {v : V} {d : D}, noL d = true → RepD K H v d → RepD K H' v d
  | v, .non, _, h => by unfold RepD at h ⊢; exact h
  | v, .bl b, _, h => by unfold RepD at h ⊢; exact h
  | v, .int i, _, h => by unfold RepD at h ⊢; exact h
  | v, .str x, _, h => by unfold RepD at h ⊢; exact h
  | v, .tup ds, z, h => by
    unfold RepD at h ⊢
    obtain ⟨a, vs, e, h1, h2⟩ := h
    exact ⟨a, vs, e, ht _ _ h1, RepDs.tups ht (by unfold noL at z; exact z) h2⟩
  | v, .lst ds, z, h => by unfold noL at z; cases z
theorem RepDs.tups (ht : ∀ a vs, StT H a vs → StT H' a vs) : ∀ {vs : List V} {ds : List D}, noLs ds = true → RepDs K H vs ds → RepDs K H' vs ds
  | [], [], _, _ => RepDs.nil
  | v :: vs, d :: ds, z, h => by
    unfold RepDs at h ⊢
    unfold noLs at z
    rw [Bool.and_eq_true] at z
    exact ⟨RepD.tups ht z.1 h.1, RepDs.tups ht z.2 h.2⟩
  | [], d :: ds, _, h => by unfold RepDs at h; exact h.elim
  | v :: vs, [], _, h => by unfold RepDs at h; exact h.elim
end
end
def svN : Sv → Bool
  | .un => true
  | .vl d => noL d
  | .ow ds => noLs ds
  | _ => false
def svNs : En → Bool
  | [] => true
  | s :: ss => svN s && svNs ss
theorem svNs_gt : ∀ {ss : En} (i : Nat), svNs ss = true → svN (gt ss i) = true
  | [], i, _ => rfl
  | s :: ss, 0, h => by unfold svNs at h; rw [Bool.and_eq_true] at h; exact h.1
  | s :: ss, i + 1, h => by unfold svNs at h; rw [Bool.and_eq_true] at h; exact svNs_gt i h.2
def keepO : En → En → Bool
  | [], _ => true
  | s :: ss, [] => !s.own && keepO ss []
  | s :: ss, s' :: ss' => (!s.own || s'.own) && keepO ss ss'
theorem keepO_gt : ∀ {ss ss' : En} (i : Nat), keepO ss ss' = true → (gt ss i).own = true → (gt ss' i).own = true
  | [], _, i, _, h => by cases h
  | s :: ss, [], 0, k, h => by
    unfold keepO at k; rw [Bool.and_eq_true] at k
    have : s.own = true := h
    rw [this] at k; cases k.1
  | s :: ss, [], i + 1, k, h => by
    unfold keepO at k; rw [Bool.and_eq_true] at k
    exact absurd (keepO_gt i k.2 h) (by simp [gt, Sv.own])
  | s :: ss, s' :: ss', 0, k, h => by
    unfold keepO at k; rw [Bool.and_eq_true] at k
    have : s.own = true := h
    rw [this] at k; exact k.1
  | s :: ss, s' :: ss', i + 1, k, h => by
    unfold keepO at k; rw [Bool.and_eq_true] at k
    exact keepO_gt (ss := ss) (ss' := ss') i k.2 h
section
variable {K : PySem.W.Frag} {F : Fr} {σ : St} {ρ ρ' : En} {H H' : Hp} {vs : List V} {ss ss' : En} {Z Z' : Addr → Prop}
theorem SvOk.tups {Hh Hh' : Hp} {v : Option (Option V)} {s : Sv} (h : SvOk K Hh H v s) (z : svN s = true) (ht : ∀ a vs, StT Hh a vs → StT Hh' a vs) (k : ∀ l o, s.own = true → v = some (some (.ref l)) → H l = some o → H' l = some o) : SvOk K Hh' H' v s := by
  cases s with
  | un => trivial
  | vl d => obtain ⟨x, e, r⟩ := h; exact ⟨x, e, r.tups ht z⟩
  | ow ds => obtain ⟨l, vs, e, a, r⟩ := h; exact ⟨l, vs, e, k _ _ rfl e a, r.tups ht z⟩
  | tp n => cases z
  | dk kvs => cases z
  | dt kvs => cases z
  | ex C fs => cases z
  | sc ns => cases z
def Zall (H : Hp) (ovs : St) (ss : En) : Addr → Prop := fun a => Nt H a ∧ ¬ owned ovs ss a
theorem Rel.hide (r : Rel K (F0 vs ss H Z) (vs.map some) ss H) (hn : svNs ss = true) : Rel K (F0 vs ss H (Zall H (vs.map some) ss)) (vs.map some) ss H := by
  refine ⟨r.len, r.fr, fun a z => z.1, fun a h z => z.2 h, r.ow, r.mi, r.ml, r.ma, r.nd, fun i => (r.sl i).tups (svNs_gt i hn) (fun a xs h => ?_) fun l o _ _ e => e⟩
  obtain ⟨n, e⟩ := hid_some.mp h
  refine hid_of (fun z => ?_) e
  rcases z with z | z
  · exact z.1.2 _ e
  · exact (owned_nt r z).2 _ e
theorem Rel.lessZ (r : Rel K (F0 vs ss H Z) σ ρ H') (hz : ∀ a, Z' a → Z a) : Rel K (F0 vs ss H Z') σ ρ H' ∧ Same (hid H' (hs (F0 vs ss H Z) σ ρ)) (hid H' (hs (F0 vs ss H Z') σ ρ)) := by
  have vis : Same (hid H' (hs (F0 vs ss H Z) σ ρ)) (hid H' (hs (F0 vs ss H Z') σ ρ)) := hid_same fun a o e n => ⟨e, fun z => n (z.imp (hz a) id)⟩
  exact ⟨⟨r.len, r.fr, fun a z => r.zl a (hz a z), fun a h z => r.zo a h (hz a z), r.ow, r.mi, r.ml, r.ma, r.nd, fun i => (r.sl i).keep vis fun _ _ _ _ e => e⟩, vis⟩
theorem new_of (r0 : Rel K (F0 vs ss H (Zall H (vs.map some) ss)) (vs.map some) ss H) (r : Rel K (F0 vs ss H (Zall H (vs.map some) ss)) (vs.map some) ss' H') (hk : keepO ss ss' = true) {l : Addr} {us : List V} (hl : StL (hid H' (hs (F0 vs ss H (Zall H (vs.map some) ss)) (vs.map some) ss')) l us) : H l = none ∧ H' l = some (.lst us) ∧ ¬ owned (vs.map some) ss' l := by
  obtain ⟨n, e⟩ := hid_some.mp hl
  refine ⟨?_, e, fun z => n (.inr z)⟩
  cases h : H l with
  | none => rfl
  | some o =>
    exfalso
    have nt : Nt H l := by
      refine ⟨(by rw [h]; exact (fun z => nomatch z)), fun xs hx => ?_⟩
      have : ¬ owned (vs.map some) ss l := fun z => (owned_nt r0 z).2 _ hx
      have q := r.fr l _ hx this
      rw [e] at q; cases q
    by_cases q : owned (vs.map some) ss l
    · obtain ⟨i, hi, ei⟩ := q
      exact n (.inr ⟨i, keepO_gt i hk hi, ei⟩)
    · exact n (.inl ⟨nt, q⟩)
theorem Rel.without (r0 : Rel K (F0 vs ss H Z) (vs.map some) ss H) (r : Rel K (F0 vs ss H Z) (vs.map some) ss' H') (hn : svNs ss' = true) {l : Addr} {us : List V} (h0 : H l = none) (hl : H' l = some (.lst us)) (no : ¬ owned (vs.map some) ss' l) (hz : ∀ a, Z a → Nt H a) : Rel K (F0 vs ss H Z) (vs.map some) ss' (del H' l) := by
  refine ⟨r.len, fun a o e n => ?_, fun a z => ?_, r.zo, r.ow, r.mi, r.ml, fun a z => ?_, r.nd, fun i => (r.sl i).tups (svNs_gt i hn) (fun a xs h => ?_) fun b o ho e h => ?_⟩
  · rw [del_ne (ne_of_none (show H a = some o from e) h0)]; exact r.fr a o e n
  · have al : a ≠ l := fun q => (hz a z).1 (q ▸ h0)
    unfold Nt; rw [del_ne al]; exact r.zl a z
  · have al : a ≠ l := fun q => r0.ma a z (q ▸ h0)
    rw [del_ne al]; exact r.ma a z
  · obtain ⟨n, e⟩ := hid_some.mp h
    have al : a ≠ l := fun q => by rw [q, hl] at e; cases e
    exact hid_of n (by rw [del_ne al]; exact e)
  · have al : b ≠ l := fun q => no ⟨i, ho, q ▸ e⟩
    rw [del_ne al]; exact h
end
def aCallF (S : ASp) (as : AA) : AE := fun ρ q => as ρ fun rs ρ1 => dis rs = true ∧ svNs (rs.map (slotR ρ1)) = true ∧ S (rs.map (slotR ρ1)) fun r ss' => ∃ ds, r = .d (.lst ds) ∧ noLs ds = true ∧ svNs ss' = true ∧ keepO (rs.map (slotR ρ1)) ss' = true ∧ q (.f ds) (back ρ1 rs ss')
section
variable {K : PySem.W.Frag} {F : Fr} {σ : St} {ρ ρ' : En} {H H' : Hp} {rs : List R}
theorem sub_Z (r1 : Rel K F σ ρ H) {vs : List V} (s : Srcs K F σ ρ H (vs.map some) rs) : ∀ a, (subFr F σ ρ H (vs.map some) (rs.map (slotR ρ))).Z a → Zall H (vs.map some) (rs.map (slotR ρ)) a := fun a z => by
  rcases z with z | z
  · exact ⟨r1.zl a z, fun o => by
      obtain ⟨k, j, e1, e2, e3, _⟩ := sub_owned s o
      exact r1.zo a ⟨j, e2, e3⟩ z⟩
  · exact ⟨owned_nt r1 z.1, z.2⟩
theorem tok_callF {S : ASp} {E : XK} {ts : TA} {as : AA} (hs' : TAok K ts as) : TEok K (tCall (spA K S) [] E ts) (aCallF S as) := by
  intro F σ ρ H q Q r h k
  refine hs' F σ ρ H _ _ r h fun rs ρ1 vs H1 h1 r1 i1 k1 => ?_
  obtain ⟨hd, hn, hS⟩ := h1
  have s := i1.srcs
  rw [List.append_nil]
  have r0 := (r1.sub s hd).hide hn
  refine ⟨rs.map (slotR ρ1), _, _, r0, hS, fun rr ss' v H' hq sb no out => ?_⟩
  obtain ⟨ds, rfl, nd, hn', hk, hq⟩ := hq
  obtain ⟨rc, rd⟩ := out
  unfold RepD at rd
  obtain ⟨l, us, rfl, hl, rd⟩ := rd
  obtain ⟨l0, hl', nol⟩ := new_of r0 rc hk hl
  have rw' := r0.without rc hn' l0 hl' nol (fun a z => z.1)
  obtain ⟨rs', vz⟩ := rw'.lessZ (sub_Z r1 s)
  obtain ⟨x, y, z⟩ := r1.back s hd rs' sb
  refine (k.after k1) (.f ds) (back ρ1 rs ss') (.ref l) H' hq ?_
  refine ⟨del H' l, l, .lst us, x, y, rfl, ⟨l, us, rfl, upd_same, ?_⟩, del_same, (del_upd hl').symm, rfl⟩
  refine rd.tups (fun a xs h => z _ _ (vz _ _ ?_)) nd
  obtain ⟨n, e⟩ := hid_some.mp h
  exact hid_of n (by rw [del_ne (fun q => by rw [q, hl'] at e; cases e)]; exact e)
end
end L2
set_option Elab.async false
set_option linter.all false
set_option maxRecDepth 100000
namespace L2
open PySem PySem.Spec PyProof.Rows
def dv : Sv → Sv
  | .vl d => .vl d
  | .ow ds => .vl (.lst ds)
  | _ => .un
def kept (pr : Nat → Bool) : Nat → En → En → Prop
  | k, s :: r, s' :: r' => (pr k = true → s' = s) ∧ kept pr (k + 1) r r'
  | _, [], [] => True
  | _, _, _ => False
section
variable {K : PySem.W.Frag} {pr prB : Nat → Bool}
end
end L2
set_option Elab.async false
set_option linter.all false
set_option maxRecDepth 100000
namespace L2
open PySem PySem.Spec PyProof.Rows
section
variable {K : PySem.W.Frag} {pr prB : Nat → Bool}
end
end L2
set_option Elab.async false
set_option linter.all false
set_option maxRecDepth 100000
namespace L2
open PySem PySem.Spec PyProof.Rows
section
variable {K : PySem.W.Frag} {pr : Nat → Bool}
end
end L2
set_option Elab.async false
set_option linter.all false
set_option maxRecDepth 100000
namespace L2
open PySem PySem.Spec PyProof.Rows
theorem pt_last : ∀ (ρ : En) (s z : Sv), pt (ρ ++ [z]) ρ.length s = ρ ++ [s]
  | [], s, z => rfl
  | x :: ρ, s, z => by
    show x :: pt (ρ ++ [z]) ρ.length s = x :: (ρ ++ [s])
    rw [pt_last ρ s z]
section
variable {K : PySem.W.Frag} {F : Fr} {σ : St} {ρ ρ' : En} {H H' : Hp}
theorem Rel.more (r : Rel K F σ ρ H) {l : Addr} {o : HO} {s : Sv} (hs' : s.own = true) (hd : SvOk K (hid H (hs F σ ρ)) (upd H l o) (some (some (.ref l))) s) (hn : H l = none) : Rel K F (σ ++ [some (.ref l)]) (ρ ++ [s]) (upd H l o) := by
  have x := r.ext 1
  have ng : ∀ a, ¬ F.pin σ.length a := fun a z => by
    have := r.mi _ _ z
    rw [List.getElem?_eq_none (Nat.le_refl _)] at this; cases this
  have sub : ∀ a, owned (σ ++ List.replicate 1 none) (ρ ++ List.replicate 1 .un) a → owned σ ρ a := fun a ⟨i, hi, e⟩ => by
    rw [gt_app] at hi
    rw [List.getElem?_append_left (by rw [r.len]; exact own_lt hi)] at e
    exact ⟨i, hi, e⟩
  have y := x.setF (i := σ.length) (l := l) (o := o) (s := s) hs' (hd.keep (hid_same fun a u e n => ⟨e, fun z => n (z.imp id (sub a))⟩) fun _ _ _ _ e => e) hn ng
  have e1 : (σ ++ List.replicate 1 none).set σ.length (some (.ref l)) = σ ++ [some (.ref l)] := by
    rw [List.set_append_right _ _ (Nat.le_refl _), Nat.sub_self]; rfl
  have e2 : pt (ρ ++ List.replicate 1 .un) σ.length s = ρ ++ [s] := by rw [r.len]; exact pt_last ρ s .un
  rwa [e1, e2] at y
end
end L2
set_option Elab.async false
set_option linter.all false
set_option maxRecDepth 100000
namespace L2
open PySem PySem.Spec PyProof.Rows
section
variable {X : Cx} {K : PySem.W.Frag}
end
section
variable {K : PySem.W.Frag}
end
end L2
set_option Elab.async false
set_option linter.all false
set_option maxRecDepth 100000
namespace L2
open PySem PySem.Spec PyProof.Rows
abbrev KIt (h : Heap) (it d : Addr) (i n ep : Nat) : Prop := h.get? it = some { cls := .type "dict_keyiterator", data := .fields #[.ref d, .int (i : Nat) 0, .int (n : Nat) 0, .int (ep : Nat) 0] }
theorem KIt.ki {h : Heap} {it d : Addr} {i n ep : Nat} (q : KIt h it d i n ep) : h.IsKeyIter it d i n ep := ⟨_, q, rfl, rfl⟩
theorem next_keys {prog : Program} {w : World} {A : Around} {E : Value → Shared → Prop} {s : Shared} {it d : Addr} {i ep : Nat} {od : Obj} {es : Array DictEntry} {e : DictEntry} {Q : Option Value → Shared → Prop}
    (hit : KIt s.heap it d i es.size ep) (hod : s.heap.get? d = some od) (hdd : od.data = .dict es ep) (he : es[i]? = some e)
    (hQ : ∀ h' : Heap, KIt h' it d (i + 1) es.size ep → Heap.SameBut it s.heap h' → Q (some e.key) { s with heap := h' }) :
    wpAny (model prog w) A (pyNext (.ref it)) Q E s := by
  have hT : s.TypeIs (.ref it) "dict_keyiterator" := hit.ki.typeIs
  refine wpAny_bind (wpAny_attempt (wpAny_callSpecial?_slot hT F.slot_dict_keyiterator_next (wpAny_call_entry F.slot_dict_keyiterator_next hT F.entry_dict_keyiterator_next (wpAny_bind (wpAny_pure (wpAny_bind (wpAny_bind (wpAny_bind (wpAny_typeNameOfWhole_keyiter hT (wpAny_pure (wpAny_bind (wpAny_fieldsOf hit rfl ?_)))))))) ) (F.args_dict_keyiterator_next_1 _))))
  have nown : Builtin.Dict_items.ownsTuple "dict_keyiterator" = false := by decide
  rw [nown]
  show wpAny _ _ (ite ((Value.ref d == Value.none) = true) _ _) _ _ _
  rw [if_neg (by first | (intro z; cases z) | simp)]
  refine wpAny_bind (wpAny_pure (wpAny_bind (wpAny_dictEntries hod hdd ?_)))
  show wpAny _ _ (ite (((es.size : Int) != (es.size : Int)) = true) _ _) _ _ _
  rw [if_neg (by simp)]
  refine wpAny_bind (wpAny_pure (wpAny_bind (wpAny_dictEpoch hod hdd ?_)))
  show wpAny _ _ (ite (((ep : Int) != (ep : Int)) = true) _ _) _ _ _
  rw [if_neg (by simp)]
  refine wpAny_pure ?_
  show wpAny _ _ (match (if (i : Int) < 0 then none else es[(i : Int).toNat]?) with | some e => _ | none => _) _ _ _
  rw [if_neg (by omega), Int.toNat_natCast, he]
  refine wpAny_bind (wpAny_bind (wpAny_typeNameOfWhole_keyiter hT (wpAny_pure (wpAny_bind (wpAny_isOneOf_keyiter hT ?_)))))
  refine wpAny_bind (wpAny_setField_rec hit (by show 1 < 4; decide) fun h1 g1 sb1 => ?_)
  have g1' : KIt h1 it d (i + 1) es.size ep := g1
  refine wpAny_bind (wpAny_holding (wpAny_bind (wpAny_isOneOf_keyiter (s := { s with heap := h1 }) g1'.ki.typeIs ?_)))
  exact wpAny_pure (wpAny_pure ⟨_, rfl, wpAny_pure (hQ h1 g1' sb1)⟩)
theorem next_keys_end {prog : Program} {w : World} {A : Around} {E : Value → Shared → Prop} {s : Shared} {it d : Addr} {i ep : Nat} {od : Obj} {es : Array DictEntry} {Q : Option Value → Shared → Prop}
    (hh : A.handled = none) (hit : KIt s.heap it d i es.size ep) (hod : s.heap.get? d = some od) (hdd : od.data = .dict es ep) (he : es[i]? = none)
    (hQ : ∀ h' : Heap, (∀ b o, b ≠ it → s.heap.get? b = some o → h'.get? b = some o) → Q none { s with heap := h' }) :
    wpAny (model prog w) A (pyNext (.ref it)) Q E s := by
  have hT : s.TypeIs (.ref it) "dict_keyiterator" := hit.ki.typeIs
  refine wpAny_bind (wpAny_attempt (wpAny_callSpecial?_slot hT F.slot_dict_keyiterator_next (wpAny_call_entry F.slot_dict_keyiterator_next hT F.entry_dict_keyiterator_next (wpAny_bind (wpAny_pure (wpAny_bind (wpAny_bind (wpAny_bind (wpAny_typeNameOfWhole_keyiter hT (wpAny_pure (wpAny_bind (wpAny_fieldsOf hit rfl ?_)))))))) ) (F.args_dict_keyiterator_next_1 _))))
  have nown : Builtin.Dict_items.ownsTuple "dict_keyiterator" = false := by decide
  rw [nown]
  show wpAny _ _ (ite ((Value.ref d == Value.none) = true) _ _) _ _ _
  rw [if_neg (by first | (intro z; cases z) | simp)]
  refine wpAny_bind (wpAny_pure (wpAny_bind (wpAny_dictEntries hod hdd ?_)))
  show wpAny _ _ (ite (((es.size : Int) != (es.size : Int)) = true) _ _) _ _ _
  rw [if_neg (by simp)]
  refine wpAny_bind (wpAny_pure (wpAny_bind (wpAny_dictEpoch hod hdd ?_)))
  show wpAny _ _ (ite (((ep : Int) != (ep : Int)) = true) _ _) _ _ _
  rw [if_neg (by simp)]
  refine wpAny_pure ?_
  show wpAny _ _ (match (if (i : Int) < 0 then none else es[(i : Int).toNat]?) with | some e => _ | none => _) _ _ _
  rw [if_neg (by omega), Int.toNat_natCast, he]
  refine wpAny_bind (wpAny_bind (wpAny_typeNameOfWhole_keyiter hT (wpAny_pure ?_)))
  refine wpAny_bind (wpAny_setField_rec hit (by show 0 < 4; decide) fun h1 g1 sb1 => ?_)
  have ho : ∃ n, n ≤ 10 ∧ (ownMembersOf (Value.type "StopIteration") []).size = n := by
    first
    | exact ⟨_, by decide, rfl⟩
    | exact ⟨(ownMembersOf (Value.type "StopIteration") []).size, by decide +kernel, rfl⟩
  obtain ⟨no, hno, eno⟩ := ho
  refine wpAny_bind (wpAny_bind (wpAny_newObj_type (wpAny_bind (wpAny_of_eq rfl (wpAny_newObj_type ?_ (by first | trivial | (unfold sizeOk; trivial) | (simp [sizeOk, sizeLine_eq, eno]; omega) | (simp only [sizeOk, Array.size_append, eno, sizeLine_eq]; simp; omega))))) (by show 0 ≤ sizeLine; decide)))
  refine wpAny_bind (wpAny_handled ?_)
  rw [show A.in1.handled = none from hh]
  refine wpAny_bind (wpAny_pure (wpAny_throw ?_))
  refine wpAny_bind (wpAny_isInstance (T := "StopIteration") (v := .ref _) ?_ isSubtype_stop (wpAny_pure (hQ _ fun b o hb q => Heap.get?_push_of_some _ (Heap.get?_push_of_some _ ((sb1.2 b hb).trans q)))))
  exact ⟨_, Heap.get?_push_size _ rfl, rfl⟩
theorem iter_keys {prog : Program} {w : World} {A : Around} {E : Value → Shared → Prop} {s : Shared} {d : Addr} {ep : Nat} {o : Obj} {es : Array DictEntry} {Q : Value → Shared → Prop} (hd : (d == sysModules) = false) (hT : s.TypeIs (.ref d) "dict") (ho : s.heap.get? d = some o) (hdat : o.data = .dict es ep)
    (hQ : Q (.ref s.heap.objs.size) { s with heap := s.heap.push { cls := .type "dict_keyiterator", data := .fields #[.ref d, .int (0 : Nat) 0, .int (es.size : Nat) 0, .int (ep : Nat) 0] } }) :
    wpAny (model prog w) A (pyIter (.ref d)) Q E s := by
  refine wpAny_pyIter_slot hT F.slot_dict_iter (wpAny_call_entry F.slot_dict_iter hT F.entry_dict_iter (wpAny_bind (wpAny_bind (wpAny_notOrdered_dict hT (wpAny_pure ?_)))) (F.args_dict_iter_1 _))
  show wpAny _ _ (Builtin.Dict.showsAll d >>= _) _ _ _
  unfold Builtin.Dict.showsAll
  rw [if_neg (by rw [hd]; decide)]
  refine wpAny_bind (wpAny_pure (wpAny_bind (wpAny_dictEntries ho hdat (wpAny_bind (wpAny_dictEpoch ho hdat (wpAny_bind (wpAny_newObj_type (wpAny_pure ⟨_, rfl, "dict_keyiterator", _, ⟨_, Heap.get?_push_size _ rfl, rfl⟩, F.slot_dict_keyiterator_next.lookup, hQ⟩) (by show 4 ≤ sizeLine + 2; decide))))))))
def Itj (a : Addr) (ob : Obj) (kvs : List (List Key × V)) : It :=
  ⟨fun i H => H a = some (.frz ob (.dT kvs)) ∧ i < kvs.length,
   fun i H v H' => H' = H ∧ ∃ b ks y, v = .ref b ∧ kvs[i]? = some (ks, y) ∧ H b = some (.tup (ks.map kV)),
   fun i H => H a = some (.frz ob (.dT kvs)) ∧ kvs.length ≤ i⟩
theorem turn_keysT {P : Program} {w : World} {K : PySem.W.Frag} {tg : Expr} {it a : Addr} {ob : Obj} {es : Array DictEntry} {ep : Nat} {kvs : List (List Key × V)} (ne : a ≠ it) (hobd : ob.data = .dict es ep) (hlen : es.size = kvs.length) :
    Turn P w K tg (Itj a ob kvs) [it] it (fun i h => KIt h it a i es.size ep) where
  mem := by simp
  obj := fun i h st b hb => by
    rw [List.mem_singleton.mp hb]
    exact ⟨_, st, fun v q => by cases q⟩
  keep := fun i h h' st k => k it (by simp) _ st
  item := by
    intro X hP hw hK hc i pins s σ H E I hf st hg
    subst hP hw hK
    obtain ⟨hu, hi⟩ := hg
    obtain ⟨ha, _, _, xs, kt, o, es', ep', ho, _, hdat, hes, _⟩ := (show ObjOk X.prog X.w H s.heap a (.frz ob (.dT kvs)) from I.hok a _ hu)
    rw [ha] at ho; cases ho
    rw [hobd] at hdat; cases hdat
    obtain ⟨⟨ks, y⟩, hky⟩ : ∃ p, kvs[i] = p := ⟨_, rfl⟩
    have hx : kvs[i]? = some (ks, y) := by rw [List.getElem?_eq_getElem hi, hky]
    obtain ⟨b, u, h1, h2, ru⟩ := kt_get kt hx
    have he : es[i]? = some { hash := (tupleKind (mixKind X.prog X.w)).hash ks, key := .ref b, val := u } := by
      rw [← Array.getElem?_toList, hes, List.getElem?_map, h1]; rfl
    refine next_keys st ha hobd he fun h' hit' hs' => ?_
    refine ⟨_, rfl, go_of hit' rfl rfl (by decide) ?_⟩
    exact ⟨.ref b, H, I.turns (ch := [it]) (t' := s.toks) (fun b o hb q => hs'.extBut b o (fun z => hb (by simp [z])) q) hf, rfl, ⟨rfl, b, ks, y, rfl, hx, h2⟩, hit', fun b hb => (hf b hb).1⟩
  done := by
    intro X hP hw hK hc i pins s σ H E I hf st hg
    subst hP hw hK
    obtain ⟨hu, hi⟩ := hg
    have ha : s.heap.get? a = some ob := (show ObjOk X.prog X.w H s.heap a (.frz ob (.dT kvs)) from I.hok a _ hu).1
    refine next_keys_end (I.ok.hd hc) st ha hobd (Array.getElem?_eq_none (by omega)) fun h' hk => ⟨rfl, I.turns (ch := [it]) (t' := s.toks) (fun b o hb q => hk b o (fun z => hb (by simp [z])) q) hf⟩
  self := fun _ _ _ _ _ st h => wpAny_pyIter_keyiter st.ki h
def iKeysT (td : TE) : TI := fun σ H R => td σ H fun x H1 => ∃ a kvs, x = .ref a ∧ H1 a = some (.dT kvs) ∧ ∀ ob, R (Itj a ob kvs) (upd H1 a (.frz ob (.dT kvs)))
theorem pi_keysT {X : Cx} {tg o : Expr} {td : TE} (ho : PE X o td) : PI X tg o (iKeysT td) := by
  intro pins s σ H R I h
  refine thn (ho pins s σ H _ I h) fun v s1 ⟨x, H1, I1, r1, a, kvs, ex, ha, q1⟩ => ?_
  subst ex
  obtain rfl : v = Value.ref a := r1
  obtain ⟨z, hd, xs, kt, ob, es, ep, eo, hx, hdat, hes, hnd⟩ := (show ObjOk X.prog X.w H1 s1.heap a (.dT kvs) from I1.hok a _ ha)
  obtain ⟨t1, t2, _⟩ := isD_at I1 (.inr ⟨kvs, .inl ha⟩)
  have hT : s1.TypeIs (.ref a) "dict" := t1
  have hsz : es.size = kvs.length := by rw [← Array.length_toList, hes, List.length_map]; exact (kt_len kt).symm
  refine iter_keys (es := es) (ep := ep) hd hT eo hdat ?_
  have I2 : Inv X pins σ H1 { s1 with heap := s1.heap.push { cls := .type "dict_keyiterator", data := .fields #[.ref a, .int (0 : Nat) 0, .int (es.size : Nat) 0, .int (ep : Nat) 0] } } := I1.kept (t' := s1.toks) fun b o e => Heap.get?_push_of_some _ e
  have ha2 : (s1.heap.push { cls := .type "dict_keyiterator", data := .fields #[.ref a, .int (0 : Nat) 0, .int (es.size : Nat) 0, .int (ep : Nat) 0] }).get? a = some ob := Heap.get?_push_of_some _ eo
  have kt2 : KT (upd H1 a (.frz ob (.dT kvs))) kvs xs := by
    refine kt_map (fun b ys e => ?_) kt
    have nb : b ≠ a := fun q => by rw [q, ha] at e; cases e
    rw [upd_ne nb]; exact e
  have I3 := I2.write (x := a) (e := a) (o := .frz ob (.dT kvs)) (t' := s1.toks) (h' := s1.heap.push { cls := .type "dict_keyiterator", data := .fields #[.ref a, .int (0 : Nat) 0, .int (es.size : Nat) 0, .int (ep : Nat) 0] }) (by rw [ha]; exact True.intro) (.inl rfl) (fun b q _ e => e) ⟨ob, ha2⟩ ⟨ha2, z, hd, xs, kt2, ob, es, ep, ha2, hx, hdat, hes, hnd⟩
  have lt : a < s1.heap.objs.size := Heap.lt_size eo
  have ne : a ≠ s1.heap.objs.size := Nat.ne_of_lt lt
  have T : Turn X.prog X.w X.K tg (Itj a ob kvs) [s1.heap.objs.size] s1.heap.objs.size (fun i h => KIt h s1.heap.objs.size a i es.size ep) := turn_keysT ne hdat hsz
  refine ⟨_, _, _, _, _, rfl, I3, T, Heap.get?_push_size _ rfl, fun b hb => ?_, q1 ob⟩
  rw [List.mem_singleton.mp hb]
  refine I1.fpOk (Nat.le_refl _) ?_
  rw [upd_ne ne.symm]
  exact I1.hok.fresh (Nat.le_refl _)
end L2
set_option Elab.async false
set_option linter.all false
set_option maxRecDepth 100000
namespace L2
open PySem PySem.Spec PyProof.Rows
section
variable {K : PySem.W.Frag} {td : TE} {ad : AE}
def keyTD (p : List Key × D) : D := .tup (p.1.map kD)
def aKeysT (a : AE) : AI := fun ρ q => a ρ fun r ρ1 => match r with
  | .o i => (match gt ρ1 i with | .dt kvs => q (kvs.map keyTD) (fun _ => True) (pt ρ1 i .un) | _ => False)
  | .n (.dt kvs) => q (kvs.map keyTD) (fun _ => True) ρ1
  | _ => False
theorem wk_keysT {F : Fr} {σ2 : St} {ρ2 : En} {H2 : Hp} {t : Addr} {ob : Obj} {ks : List (List Key × V)} {kvs : List (List Key × D)} (h2 : H2 t = some (.frz ob (.dT ks))) (e1 : ks.map Prod.fst = kvs.map Prod.fst) (al : ∀ a, hs F σ2 ρ2 a → Nt H2 a) : WkAt K (hs F σ2 ρ2) H2 (Itj t ob ks) (kvs.map keyTD) := by
  have hlen : ks.length = kvs.length := by have := congrArg List.length e1; simpa using this
  intro i
  refine ⟨fun d hd => ?_, fun hi => ⟨h2, by simpa [hlen] using hi⟩⟩
  rw [List.getElem?_map] at hd
  obtain ⟨⟨kk, dv⟩, hk, rfl⟩ := Option.map_eq_some_iff.mp hd
  have hi : i < kvs.length := (List.getElem?_eq_some_iff.mp hk).1
  refine ⟨⟨h2, by omega⟩, fun y H' hy => ?_⟩
  obtain ⟨rfl, b, kk', yv, rfl, hx, hb⟩ := hy
  have ek : kk' = kk := by
    have := congrArg (fun l => l[i]?) e1
    simp only [List.getElem?_map, hx, hk, Option.map_some] at this
    exact Option.some.inj this
  subst ek
  have nb : ¬ hs F σ2 ρ2 b := fun z => (al b z).2 _ hb
  refine ⟨Same.refl _, ?_⟩
  unfold keyTD RepD
  exact ⟨b, _, rfl, hid_of nb hb, kDs_rep _⟩
theorem tiok_keysT {pin : Nat → Bool} (h : TEok K td ad) : TIok K pin (iKeysT td) (aKeysT ad) := by
  intro F σ ρ H q Rk r ha k
  refine h F σ ρ H _ _ r ha fun r1 ρ1 x H1 h1 o1 => ?_
  unfold aKeysT at *
  split at h1
  · rename_i j
    obtain ⟨r1', k1, i1⟩ := o1.inF
    have ej : σ[j]? = some (some x) := i1
    split at h1
    · rename_i kvs hg
      obtain ⟨t, ks, rfl, ht, e1, e2⟩ := dt_at r1' ej hg
      refine ⟨t, ks, rfl, ht, fun ob => ?_⟩
      obtain ⟨rg, kg, vg⟩ := r1'.giveUp (i := j) (a := t) (o := .frz ob (.dT ks)) (by rw [hg]; rfl) ej
      refine k _ _ _ _ _ h1 rg (k1.trans kg) fun σ2 ρ2 H2 sm _ _ al _ => ?_
      exact wk_keysT (hid_some.mp (sm _ _ (hid_of vg upd_same))).2 e1 al
    · exact h1.elim
  · rename_i kvs
    obtain ⟨Hb, l, o, rb, kb, _, sv, hl, rfl, rfl⟩ := o1
    obtain ⟨t, ks, e0, ht, e1, e2⟩ := sv
    injection e0 with e0; injection e0 with e0; injection e0 with e0; subst e0
    refine ⟨l, ks, rfl, ht, fun ob => ?_⟩
    have eu : upd (upd Hb l o) l (.frz ob (.dT ks)) = upd Hb l (.frz ob (.dT ks)) := by
      funext a
      by_cases e : a = l
      · subst e; rw [upd_same, upd_same]
      · rw [upd_ne e, upd_ne e, upd_ne e]
    rw [eu]
    have rf := rb.fresh (o := .frz ob (.dT ks)) hl
    refine k _ _ _ _ _ h1 rf (kb.trans (Kp.fresh hl)) fun σ2 ρ2 H2 sm _ _ al _ => ?_
    exact wk_keysT (hid_some.mp (sm _ _ (hid_of (fresh_vis rb hl) upd_same))).2 e1 al
  · exact h1.elim
def iOr (a b : TI) : TI := fun σ H R => a σ H R ∨ b σ H R
theorem pi_or {X : Cx} {tg o : Expr} {a b : TI} (ha : PI X tg o a) (hb : PI X tg o b) : PI X tg o (iOr a b) := fun pins s σ H R I h => by
  rcases h with h | h
  · exact ha pins s σ H R I h
  · exact hb pins s σ H R I h
def aOrI (a b : AI) : AI := fun ρ q => a ρ q ∨ b ρ q
theorem tiok_or {pin : Nat → Bool} {wa wb : TI} {aa ab : AI} (ha : TIok K pin wa aa) (hb : TIok K pin wb ab) : TIok K pin (iOr wa wb) (aOrI aa ab) := fun F σ ρ H q Rk r h k => by
  rcases h with h | h
  · exact .inl (ha F σ ρ H q Rk r h k)
  · exact .inr (hb F σ ρ H q Rk r h k)
end
end L2
set_option Elab.async false
set_option linter.all false
set_option maxRecDepth 100000
namespace L2
open PySem PySem.Spec PyProof.Rows
theorem one_tuple_eq {prog : Program} {w : World} {A : Around} {E : Value → Shared → Prop} {s : Shared} {b : Addr} {Q : Bool → Shared → Prop} (hT : s.TypeIs (.ref b) "tuple") (h : Q false s) : wpAny (model prog w) A (Builtin.Dict.quietEq (.ref b)) Q E s := by
  unfold Builtin.Dict.quietEq
  refine wpAny_bind (wpAny_specialOf hT F.slot_tuple_eq.lookup (wpAny_pure ?_))
  exact h
theorem merge_one {prog : Program} {w : World} {A : Around} {E : Value → Shared → Prop} {s : Shared} {nm : String} {d o b : Addr} {od oo : Obj} {e : DictEntry} {ep epd : Nat} {Q : Unit → Shared → Prop} (hdo : d ≠ o) (hoS : (o == sysModules) = false)
    (hod : s.heap.get? d = some od) (hdd : od.data = .dict #[] epd) (hoo : s.heap.get? o = some oo) (hdo' : oo.data = .dict #[e] ep) (hk : e.key = .ref b) (hT : s.TypeIs (.ref b) "tuple")
    (hQ : Q () { s with heap := s.heap.update d (Obj.mapDictKeys fun _ => #[e]) }) : wpAny (model prog w) A (Builtin.Dict.mergeDict nm d o) Q E s := by
  unfold Builtin.Dict.mergeDict
  rw [if_neg (by simpa using hdo)]
  unfold Builtin.Dict.showsAll
  rw [if_neg (by rw [hoS]; decide)]
  refine wpAny_bind (wpAny_pure (wpAny_bind (wpAny_dictEntries hoo hdo' ?_)))
  have few : (decide ((#[e] : Array DictEntry).size ≤ 8) && (#[e] : Array DictEntry).all fun e => (keyPart e.key).isSome) = false := by
    simp [hk, keyPart]
  simp only [few]
  rw [if_pos (by rfl)]
  refine wpAny_bind (wpAny_dictEntries hod hdd ?_)
  rw [if_pos (by rfl)]
  refine wpAny_bind ?_
  · unfold Builtin.Dict.entriesForEmpty
    refine wpAny_bind (wpAny_dictEntries hoo hdo' ?_)
    rw [← Array.forIn_toList]
    show wpAny _ _ (forIn [e] PUnit.unit _ >>= _) _ _ _
    rw [List.forIn_cons]
    refine wpAny_bind (wpAny_bind (wpAny_bind ?_))
    rw [hk]
    refine one_tuple_eq hT ?_
    rw [if_pos (by rfl)]
    rw [if_neg (by have : ((#[e] : Array DictEntry).filter (·.hash == e.hash)).size ≤ 1 := (Array.size_filter_le); simpa using this)]
    refine wpAny_pure ?_
    show wpAny _ _ (forIn ([] : List DictEntry) PUnit.unit _) _ _ _
    rw [List.forIn_nil]
    refine wpAny_pure (wpAny_pure ?_)
    rw [if_pos (by rfl)]
    exact wpAny_bind (wpAny_updateDictKeysTo hod hdd (wpAny_pure hQ) (by show 1 ≤ sizeLine + 1; omega))
theorem call_dictT {X : Cx} : CallR X (.type "dict") (fun xs H Q => ∃ a k y, xs = [.ref a] ∧ H a = some (.dT [(k, y)]) ∧ ∀ l, H l = none → Q (.ref l) (upd H l (.dT [(k, y)]))) := by
  intro pins s σ H vs us Q I rv h
  obtain ⟨a, k, y, rfl, ha, q⟩ := h
  cases rv with
  | cons r0 r1 =>
    cases r1
    cases r0
    obtain ⟨z, hd, xs, kt, ob, es, ep, eo, hx, hdat, hes, hnd⟩ := (show ObjOk X.prog X.w H s.heap a (.dT [(k, y)]) from I.hok a _ ha)
    obtain ⟨b, u, e0, hb, ru⟩ := kt_get kt (i := 0) rfl
    have hl := kt_len kt
    have exs : xs = [(k, b, u)] := by
      cases xs with
      | nil => cases e0
      | cons p xs =>
        cases xs with
        | nil => cases e0; rfl
        | cons _ _ => simp at hl
    subst exs
    have ees : es = #[entryOfKey (tupleKind (mixKind X.prog X.w)) (k, b, u)] := by
      apply Array.ext'
      rw [hes]; rfl
    subst ees
    have hbT : s.TypeIs (.ref b) "tuple" := by
      obtain ⟨its, _, ⟨o, h1, h2, _⟩, _⟩ := I.tuple (SqT.of hb)
      exact ⟨o, h1, h2⟩
    have f0 : FpOk X pins H s.heap.objs.size := I.fpOk (Nat.le_refl _) (I.hok.fresh (Nat.le_refl _))
    have hbig := I.big
    refine callType_codes (Q₁ := fun obj s₁ => obj = .ref s.heap.objs.size ∧ s₁ = { s with heap := s.heap.push { cls := .type "dict", data := .dict #[] } }) F.kt_called_dict (F.kt_typeCall_dict_1 _) F.entry_dict_init (kt_code_dict_new _ ⟨rfl, rfl⟩) ?_
    rintro obj s₁ ⟨rfl, rfl⟩
    have g1 : (s.heap.push { cls := .type "dict", data := .dict #[] }).get? s.heap.objs.size = some { cls := .type "dict", data := .dict #[] } := Heap.get?_push_size _ rfl
    have gT : ({ s with heap := s.heap.push { cls := .type "dict", data := .dict #[] } } : Shared).TypeIs (.ref s.heap.objs.size) "dict" := ⟨_, g1, rfl⟩
    have ne : s.heap.objs.size ≠ a := fun e => absurd (Heap.lt_size eo) (by rw [e]; exact Nat.lt_irrefl _)
    have eo' : (s.heap.push { cls := .type "dict", data := .dict #[] }).get? a = some ob := Heap.get?_push_of_some _ eo
    have aT : ({ s with heap := s.heap.push { cls := .type "dict", data := .dict #[] } } : Shared).TypeIs (.ref a) "dict" := ⟨_, eo', hx.1⟩
    have bT : ({ s with heap := s.heap.push { cls := .type "dict", data := .dict #[] } } : Shared).TypeIs (.ref b) "tuple" := by
      obtain ⟨o, h1, h2⟩ := hbT
      exact ⟨o, Heap.get?_push_of_some _ h1, h2⟩
    refine ⟨gT, F.args_dict_init_2 _ _, wpAny_bind (wpAny_bind (wpAny_notOrdered_dict gT (wpAny_pure ?_)))⟩
    show wpAny _ _ (Builtin.Dict.updateFrom "dict.__init__" s.heap.objs.size (Value.ref a) [] Value.none) _ _ _
    refine wpAny_bind (wpAny_typeOf aT ?_)
    rw [if_neg (by decide)]
    refine wpAny_bind (wpAny_bind (wpAny_bind (wpAny_isInstance aT isSubtype_dict_dict ?_)))
    simp only [Bool.not_true, Bool.false_eq_true, if_false]
    refine wpAny_bind (wpAny_specialOf aT F.slot_dict_iter.lookup (wpAny_pure ?_))
    simp only [beq_self_eq_true, if_true]
    refine wpAny_bind (wpAny_pure (merge_one (b := b) (e := entryOfKey (tupleKind (mixKind X.prog X.w)) (k, b, u)) ne hd g1 rfl eo' hdat rfl bT ?_))
    refine wpAny_bind (wpAny_pure (wpAny_pure ⟨rfl, ?_⟩))
    have g2 : ((s.heap.push { cls := .type "dict", data := .dict #[] }).update s.heap.objs.size (Obj.mapDictKeys fun _ => #[entryOfKey (tupleKind (mixKind X.prog X.w)) (k, b, u)])).get? s.heap.objs.size = some (Obj.mapDictKeys (fun _ => #[entryOfKey (tupleKind (mixKind X.prog X.w)) (k, b, u)]) { cls := .type "dict", data := .dict #[] }) := Heap.get?_update_self _ g1 rfl
    have I1 : Inv X pins σ H { s with heap := s.heap.push { cls := .type "dict", data := .dict #[] } } := I.kept (t' := s.toks) fun b o e => Heap.get?_push_of_some _ e
    have sb := Heap.SameBut.update (s.heap.push { cls := .type "dict", data := .dict #[] }) s.heap.objs.size (Obj.mapDictKeys fun _ => #[entryOfKey (tupleKind (mixKind X.prog X.w)) (k, b, u)])
    have I2 : Inv X pins σ H { s with heap := (s.heap.push { cls := .type "dict", data := .dict #[] }).update s.heap.objs.size (Obj.mapDictKeys fun _ => #[entryOfKey (tupleKind (mixKind X.prog X.w)) (k, b, u)]) } := Inv.turns (ch := [s.heap.objs.size]) (t' := s.toks) I (fun b o hb e => sb.extBut b o (fun z => hb (by simp [z])) (Heap.get?_push_of_some _ e)) (fun b hb => by rw [List.mem_singleton.mp hb]; exact f0)
    have nb : b ≠ s.heap.objs.size := ne_of_none hb f0.1
    have I3 := I2.trackO (p := s.heap.objs.size) (o := .dT [(k, y)]) f0 ⟨z, beq_eq_false_iff_ne.mpr (Ne.symm (Nat.ne_of_lt hbig)), [(k, b, u)], .cons ⟨rfl, by show upd H _ _ b = _; rw [upd_ne nb]; exact hb, ru⟩ .nil, _, _, _, g2, ⟨rfl, rfl, rfl⟩, rfl, rfl, hnd⟩
    exact ⟨.ref s.heap.objs.size, _, I3, rfl, q _ f0.1⟩
section
variable {K : PySem.W.Frag}
def gDictC : List R → AE := fun rs ρ q => match rs with
  | [.o i] => (match gt ρ i with
    | .dt [(k, d)] => noL d = true ∧ q (.n (.dt [(k, d)])) ρ
    | _ => False)
  | _ => False
theorem cbok_dictT : CbOk K (fun xs H Q => ∃ a k y, xs = [.ref a] ∧ H a = some (.dT [(k, y)]) ∧ ∀ l, H l = none → Q (.ref l) (upd H l (.dT [(k, y)]))) gDictC := by
  intro F σ ρ H vs rs q Q a i h b
  unfold gDictC at h
  split at h
  · rename_i j
    obtain ⟨x, rfl, i1⟩ := i.one
    have ej : σ[j]? = some (some x) := i1
    split at h
    · rename_i k d hg
      obtain ⟨t, ks, rfl, ht, e1, e2⟩ := dt_at a ej hg
      cases ks with
      | nil => cases e1
      | cons p ks =>
        cases ks with
        | cons _ _ => simp at e1
        | nil =>
          obtain ⟨k', y⟩ := p
          have : k' = k := by simpa using e1
          subst this
          refine ⟨t, k', y, rfl, ht, fun l hl => ?_⟩
          exact b _ _ _ _ h.2 ⟨H, l, .dT [(k', y)], a, .refl, rfl, ⟨l, [(k', y)], rfl, upd_same, rfl, e2⟩, hl, rfl, rfl⟩
    · exact h.elim
  · exact h.elim
end
end L2
set_option Elab.async false
set_option linter.all false
set_option maxRecDepth 100000
namespace K64
open PySem PySem.Spec PyProof.Rows L2
def top (i : Nat) : Stmt := PySem.Challenge.pw_fewjoins_k64_fewest_steps.main.body.getD i (.Pass ⟨0, 0, 0, 0⟩)
abbrev s_joined : Stmt := top 6
abbrev nm_joined : List Str := ["one", "other"]
theorem sc_joined : FnScope nm_joined ["one", "other"] (defScope s_joined) := ⟨rfl, rfl, rfl, by decide +kernel, rfl, by decide +kernel, by decide +kernel⟩
abbrev s_own_rows : Stmt := top 8
abbrev nm_own_rows : List Str := ["many"]
theorem sc_own_rows : FnScope nm_own_rows ["many"] (defScope s_own_rows) := ⟨rfl, rfl, rfl, by decide +kernel, rfl, by decide +kernel, by decide +kernel⟩
abbrev s_basis : Stmt := top 10
abbrev nm_basis : List Str := ["rows"]
theorem sc_basis : FnScope nm_basis ["rows"] (defScope s_basis) := ⟨rfl, rfl, rfl, by decide +kernel, rfl, by decide +kernel, by decide +kernel⟩
abbrev s_leads_of : Stmt := top 11
abbrev nm_leads_of : List Str := ["rows", "leads", "place", "row", "rest", "parts"]
theorem sc_leads_of : FnScope nm_leads_of ["rows"] (defScope s_leads_of) := ⟨rfl, rfl, rfl, by decide +kernel, rfl, by decide +kernel, by decide +kernel⟩
abbrev s_reduced : Stmt := top 12
abbrev nm_reduced : List Str := ["leads", "row", "parts", "place", "rest", "summed"]
theorem sc_reduced : FnScope nm_reduced ["leads", "row"] (defScope s_reduced) := ⟨rfl, rfl, rfl, by decide +kernel, rfl, by decide +kernel, by decide +kernel⟩
abbrev s_refuse_unplaced : Stmt := top 14
abbrev nm_refuse_unplaced : List Str := ["wish", "many", "rows", "kept", "place"]
theorem sc_refuse_unplaced : FnScope nm_refuse_unplaced ["wish"] (defScope s_refuse_unplaced) := ⟨rfl, rfl, rfl, by decide +kernel, rfl, by decide +kernel, by decide +kernel⟩
abbrev s_fewest_steps : Stmt := top 17
abbrev nm_fewest_steps : List Str := ["wish", "many", "rows", "reached", "ways"]
theorem sc_fewest_steps : FnScope nm_fewest_steps ["wish"] (defScope s_fewest_steps) := ⟨rfl, rfl, rfl, by decide +kernel, rfl, by decide +kernel, by decide +kernel⟩
abbrev s_reached_next : Stmt := top 18
abbrev nm_reached_next : List Str := ["many", "reached", "ways", "newly", "cells", "a", "b", "changed"]
theorem sc_reached_next : FnScope nm_reached_next ["many", "reached", "ways"] (defScope s_reached_next) := ⟨rfl, rfl, rfl, by decide +kernel, rfl, by decide +kernel, by decide +kernel⟩
abbrev s_all_steps : Stmt := top 19
abbrev nm_all_steps : List Str := ["many"]
theorem sc_all_steps : FnScope nm_all_steps ["many"] (defScope s_all_steps) := ⟨rfl, rfl, rfl, by decide +kernel, rfl, by decide +kernel, by decide +kernel⟩
abbrev s_with_step : Stmt := top 20
abbrev nm_with_step : List Str := ["cells", "a", "b", "changed"]
theorem sc_with_step : FnScope nm_with_step ["cells", "a", "b"] (defScope s_with_step) := ⟨rfl, rfl, rfl, by decide +kernel, rfl, by decide +kernel, by decide +kernel⟩
abbrev s_law_tape : Stmt := top 22
abbrev nm_law_tape : List Str := ["_law_script"]
theorem sc_law_tape : FnScope nm_law_tape ["_law_script"] (defScope s_law_tape) := ⟨rfl, rfl, rfl, by decide +kernel, rfl, by decide +kernel, by decide +kernel⟩
abbrev s_law_draw : Stmt := top 23
abbrev nm_law_draw : List Str := ["_law_tape_here", "_law_many", "_law_found", "_law_spot", "_law_cells", "_law_cell", "_law_seed"]
theorem sc_law_draw : FnScope nm_law_draw ["_law_tape_here", "_law_many"] (defScope s_law_draw) := ⟨rfl, rfl, rfl, by decide +kernel, rfl, by decide +kernel, by decide +kernel⟩
abbrev s_law_whole : Stmt := top 24
abbrev nm_law_whole : List Str := ["_law_found"]
theorem sc_law_whole : FnScope nm_law_whole ["_law_found"] (defScope s_law_whole) := ⟨rfl, rfl, rfl, by decide +kernel, rfl, by decide +kernel, by decide +kernel⟩
abbrev s_law_free_rows : Stmt := top 25
abbrev nm_law_free_rows : List Str := ["_law_tape_here", "_law_many", "_law_held", "_law_turn", "_law_a", "_law_b", "_law_found", "_law_row"]
theorem sc_law_free_rows : FnScope nm_law_free_rows ["_law_tape_here", "_law_many"] (defScope s_law_free_rows) := ⟨rfl, rfl, rfl, by decide +kernel, rfl, by decide +kernel, by decide +kernel⟩
abbrev s_law_behind_one : Stmt := top 26
abbrev nm_law_behind_one : List Str := ["_law_many", "_law_found", "_law_more", "_law_held", "_law_a", "_law_b"]
theorem sc_law_behind_one : FnScope nm_law_behind_one ["_law_many", "_law_found"] (defScope s_law_behind_one) := ⟨rfl, rfl, rfl, by decide +kernel, rfl, by decide +kernel, by decide +kernel⟩
abbrev s_law_least : Stmt := top 27
abbrev nm_law_least : List Str := ["_law_many", "_law_rows", "_law_found", "_law_known", "_law_steps", "_law_held"]
theorem sc_law_least : FnScope nm_law_least ["_law_many", "_law_rows"] (defScope s_law_least) := ⟨rfl, rfl, rfl, by decide +kernel, rfl, by decide +kernel, by decide +kernel⟩
abbrev s_law : Stmt := top 28
abbrev nm_law : List Str := ["_law_script", "_law_tape_here", "_law_many", "_law_rows", "_law_due", "_law_kept", "_law_turn", "_law_steps", "_law_held", "_law_step", "_law_a", "_law_b"]
theorem sc_law : FnScope nm_law ["_law_script"] (defScope s_law) := ⟨rfl, rfl, rfl, by decide +kernel, rfl, by decide +kernel, by decide +kernel⟩
section
variable {P : Program} {w : World} {K : PySem.W.Frag} {mg : Str → Option Value} {base : Heap}
theorem ok_law_tape (D : DefN K mg "_law_tape" s_law_tape ["_law_script"]) (B : BI mg) : OkN P w K mg base 1 "_law_tape" ["_law_script"] (spA K STape) := by
  refine OkN.imp (sp := spTapeX K) ?_ tape_of
  refine D.ok sc_law_tape (fun vs H Q E h => ?_) (fun f cdv A outer s H vs Q E hr h => ?_)
  · obtain ⟨a, ns, rfl, _⟩ := h
    rfl
  · obtain ⟨a, ns, rfl, hS, k⟩ := h
    refine ⟨_, (pss_one (ps_ret (pe_disp (pps_cons pe_str (pe_slice (sl_listK K) (pv 0) po_none (po_some pe_int)) (pps_cons pe_str pe_int (pps_cons pe_str pe_int pps_nil))) rfl rfl (by simp) (by decide)))), ?_⟩
    intro t ht
    have s0 : Same H (upd H t (.dK [])) := (Same.refl H).new ht
    refine ⟨_, rfl, 63, rfl, a, _, rfl, s0.seq hS, fun l hl => ?_⟩
    have ntl : t ≠ l := ne_of_none upd_same hl
    refine ⟨by rw [upd_ne ntl, upd_same], [(Sum.inr ("cells" : Str), V.ref l), (Sum.inr ("spot" : Str), V.int 0), (Sum.inr ("left" : Str), V.int 0)], rfl, (by show 3 ≤ 15; decide), ?_⟩
    rw [tape_made]
    have fin := k t l ht (s0.free hl) ntl
    have eq : upd (upd (upd H t (.dK [])) l (.lst (cutV (ns.map V.int) none (some 63)))) t (.dK (tapeK l 0 0)) = upd (upd H l (.lst ((ns.take 63).map V.int))) t (.dK (tapeK l 0 0)) := by
      rw [cut63]
      funext b
      unfold upd
      by_cases h1 : b = t
      · rw [if_pos h1, if_pos h1]
      · rw [if_neg h1, if_neg h1, if_neg h1]
    rw [eq]
    exact fin
theorem ok_law_draw (D : DefN K mg "_law_draw" s_law_draw ["_law_tape_here", "_law_many"]) (B : BI mg) : OkN P w K mg base 1 "_law_draw" ["_law_tape_here", "_law_many"] (spA K SDraw) := by
  refine OkN.imp (sp := spDrawX K) ?_ draw_of
  refine D.ok sc_law_draw (fun vs H Q E h => ?_) (fun f cdv A outer s H vs Q E hr h => ?_)
  · obtain ⟨t, c, m, sp, lf, ns, n, rfl, _⟩ := h
    rfl
  · obtain ⟨t, c, m, sp, lf, ns, n, rfl, hT, hC, h1, h2, h3, hn, hm, k⟩ := h
    have hu := hu_of hr
    have hm0 := hm.1
    have gl : DGet H t (kV (Sum.inr "left")) (some (.int lf)) := by rw [← tape_left (c := c) (sp := sp)]; exact DGet.k hT
    have gs : DGet H t (kV (Sum.inr "spot")) (some (.int sp)) := by rw [← tape_spot (c := c) (lf := lf)]; exact DGet.k hT
    have gc : DGet H t (kV (Sum.inr "cells")) (some (.ref c)) := by rw [← tape_cells (sp := sp) (lf := lf)]; exact DGet.k hT
    refine ⟨_, (pss_cons (ps_if (pt_cmpR op_gt (pe_dget hu (pv 0) pe_str (fun _ _ => rfl)) pe_int (nomark _))
      (pss_cons (ps_set (i := 2) sc_law_draw.nd rfl (by first | exact Or.inl rfl | exact Or.inr rfl) (pe_op op_mod (pe_dget hu (pv 0) pe_str (fun _ _ => rfl)) (pv 1)))
      (pss_cons (ps_dput hu (pv 0) pe_str (pe_op op_fdivL (pe_dget hu (pv 0) pe_str (fun _ _ => rfl)) (pv 1)) rfl)
      (pss_one (ps_ret (pv 2)))))
      pss_nil)
      (pss_cons (ps_set (i := 3) sc_law_draw.nd rfl (by first | exact Or.inl rfl | exact Or.inr rfl) (pe_dget hu (pv 0) pe_str (fun _ _ => rfl)))
      (pss_cons (ps_dput hu (pv 0) pe_str (pe_op op_add (pv 3) pe_int) rfl)
      (pss_cons (ps_set (i := 4) sc_law_draw.nd rfl (by first | exact Or.inl rfl | exact Or.inr rfl) (pe_dget hu (pv 0) pe_str (fun _ _ => rfl)))
      (pss_cons (ps_set (i := 5) sc_law_draw.nd rfl (by first | exact Or.inl rfl | exact Or.inr rfl) pe_int)
      (pss_cons (ps_if (pt_cmpR op_gt (pe_callB (call_lenK K) rfl B.len_ bt_len (pa_cons (pv 4) pa_nil)) pe_int (nomark _))
      (pss_one (ps_set (i := 5) sc_law_draw.nd rfl (by first | exact Or.inl rfl | exact Or.inr rfl) (pe_ix (ix_seqK K) (pv 4) (pe_op op_mod (pv 3) (pe_callB (call_lenK K) rfl B.len_ bt_len (pa_cons (pv 4) pa_nil))) (fun _ _ => rfl))))
      pss_nil)
      (pss_cons (ps_if (PW.pt (pw_and (pt_cmpR op_ge (pv 5) (pe_op op_pow pe_int pe_int) (nomark _)) (pw_and1 (pt_cmpR op_lt (pv 3) (pe_callB (call_lenK K) rfl B.len_ bt_len (pa_cons (pv 4) pa_nil)) (nomark _)))))
      (pss_cons (ps_dput hu (pv 0) pe_str (pe_op op_fdivL (pe_op op_sub (pv 5) (pe_op op_pow pe_int pe_int)) (pv 1)) rfl)
      (pss_one (ps_ret (pe_op op_mod (pe_op op_sub (pv 5) (pe_op op_pow pe_int pe_int)) (pv 1)))))
      pss_nil)
      (pss_cons (ps_set (i := 6) sc_law_draw.nd rfl (by first | exact Or.inl rfl | exact Or.inr rfl) (pe_op op_mod (pe_op op_mul (pe_op op_add (pe_op op_add (pe_op op_add (pe_op op_mod (pv 5) pe_int) (pe_op op_mul (pe_op op_mul pe_int (pv 3)) (pv 3))) (pe_op op_mul pe_int (pv 3))) pe_int) pe_int) pe_int))
      (pss_one (ps_ret (pe_op op_mod (pe_op op_fdivL (pe_op op_mod (pe_op op_mul (pv 6) (pe_op op_add (pv 6) pe_int)) pe_int) pe_int) (pv 1)))))))))))), ?_⟩
    refine ⟨_, rfl, t, _, rfl, gl, _, _, rfl, rfl, _, rfl, ite2 (fun hl => ?_) fun hl => ?_⟩
    · refine ⟨_, rfl, t, _, rfl, gl, _, rfl, _, _, rfl, rfl, hm0, ?_⟩
      refine ⟨_, rfl, t, _, rfl, gl, _, rfl, _, _, rfl, rfl, hm, _, rfl, t, _, rfl, DPut.k (k := Sum.inr "left") hT (small1000 (by show 3 ≤ 1000; decide)), _, rfl, ?_⟩
      rw [put_left]
      exact drawn (Q := fun z H => Q (.int z) H) hm0 fun r hr => k r _ _ hr h1 (by omega) (Int.ediv_nonneg h3 (Int.le_of_lt hm0))
    · refine ⟨_, rfl, t, _, rfl, gs, ?_⟩
      refine ⟨_, rfl, _, _, rfl, rfl, _, rfl, t, _, rfl, DPut.k (k := Sum.inr "spot") hT (small1000 (by show 3 ≤ 1000; decide)), ?_⟩
      rw [put_spot]
      have hT1 : (upd H t (.dK (tapeK c (sp + 1) lf))) t = some (.dK (tapeK c (sp + 1) lf)) := upd_same
      have hC1 : SqL K (upd H t (.dK (tapeK c (sp + 1) lf))) c (ns.map V.int) := Grow.seq (Grow.refl.upd _) hT hC
      have gr1 : Grow t H (upd H t (.dK (tapeK c (sp + 1) lf))) := Grow.refl.upd _
      have gc1 : DGet (upd H t (.dK (tapeK c (sp + 1) lf))) t (kV (Sum.inr "cells")) (some (.ref c)) := by rw [← tape_cells (sp := sp + 1) (lf := lf)]; exact DGet.k hT1
      have kk : ∀ (r : Nat) (lf' : Int), (r : Int) < m → 0 ≤ lf' → Q (.int (r : Nat)) (upd (upd H t (.dK (tapeK c (sp + 1) lf))) t (.dK (tapeK c (sp + 1) lf'))) := fun r lf' hr hl => by rw [upd_upd]; exact k r _ _ hr (by omega) (by omega) hl
      have kl : ∀ (r : Nat), (r : Int) < m → Q (.int (r : Nat)) (upd H t (.dK (tapeK c (sp + 1) lf))) := fun r hr => k r _ _ hr (by omega) (by omega) h3
      generalize upd H t (.dK (tapeK c (sp + 1) lf)) = H1 at hT1 hC1 gr1 gc1 kk kl ⊢
      refine ⟨_, rfl, t, _, rfl, gc1, ?_⟩
      have p18 : (10 : Int) ^ (18 : Int).toNat = 1000000000000000000 := by decide
      have fits : CPow 10 18 := ⟨by decide, by decide, by decide⟩
      have pos1 : (0 : Int) < 2147483629 := by decide
      have pos2 : (0 : Int) < 2147483647 := by decide
      have spOk : -(2 ^ 64) < sp ∧ sp < 2 ^ 64 := by omega
      refine ⟨_, rfl, c, _, rfl, .inl hC1, _, _, rfl, rfl, _, rfl, ite2 (fun hl => ?_) fun hl => ?_⟩
      · have hl' : 0 < ns.length := by
          have := of_decide_eq_true hl
          rw [List.length_map] at this
          omega
        have el : ((ns.map V.int).length : Int) = ns.length := by rw [List.length_map]
        have hb0 : 0 ≤ sp % ((ns.map V.int).length : Int) := Int.emod_nonneg _ (by omega)
        have hb1 : sp % ((ns.map V.int).length : Int) < ((ns.map V.int).length : Int) := Int.emod_lt_of_pos _ (by omega)
        obtain ⟨j, hj⟩ := Int.eq_ofNat_of_zero_le hb0
        have hj' : j < ns.length := by rw [hj] at hb1; omega
        refine ⟨_, rfl, _, rfl, _, rfl, c, _, rfl, .inl hC1, _, _, rfl, rfl, (by show (0 : Int) < ((ns.map V.int).length : Int); omega), .inl ⟨c, _, _, V.int ns[j], rfl, rfl, hC1, ?_, ?_⟩⟩
        · rw [hj]
          exact atI_nat (by simp [hj'])
        · generalize ns[j] = z
          refine ⟨_, rfl, _, _, rfl, rfl, fits, _, _, rfl, rfl, _, rfl, ite2 (fun hz => ?_) fun hz => ?_⟩
          · refine ⟨_, rfl, _, rfl, c, _, rfl, .inl hC1, _, _, rfl, rfl, _, rfl, ite2 (fun hs => ?_) fun hs => ?_⟩
            · refine ⟨_, rfl, _, _, rfl, rfl, fits, _, _, rfl, rfl, _, rfl, _, _, rfl, rfl, hm, _, rfl, t, _, rfl, DPut.k (k := Sum.inr "left") hT1 (small1000 (by show 3 ≤ 1000; decide)), ?_⟩
              rw [put_left]
              refine ⟨_, rfl, _, _, rfl, rfl, fits, _, _, rfl, rfl, _, rfl, _, _, rfl, rfl, hm0, ?_⟩
              refine drawn (Q := fun z H => Q (.int z) H) hm0 fun r hr => kk r _ hr (Int.ediv_nonneg ?_ (Int.le_of_lt hm0))
              have hz' := of_decide_eq_true hz
              rw [p18] at hz' ⊢
              omega
            · refine ⟨_, rfl, _, _, rfl, rfl, pos1, _, rfl, _, _, rfl, rfl, .inl ⟨by decide, by decide⟩, _, rfl, _, _, rfl, rfl, .inr spOk, _, _, rfl, rfl, _, rfl, _, _, rfl, rfl, .inl ⟨by decide, by decide⟩, _, _, rfl, rfl, _, _, rfl, rfl, _, _, rfl, rfl, .inr ⟨by decide, by decide⟩, _, _, rfl, rfl, pos2, ?_⟩
              refine ⟨_, rfl, _, rfl, _, _, rfl, rfl, _, _, rfl, rfl, .inl seedOk, _, _, rfl, rfl, pos1, _, _, rfl, rfl, dv64, _, rfl, _, _, rfl, rfl, hm0, ?_⟩
              exact drawn (Q := fun z H => Q (.int z) H) hm0 fun r hr => kl r hr
          · refine ⟨_, rfl, _, _, rfl, rfl, pos1, _, rfl, _, _, rfl, rfl, .inl ⟨by decide, by decide⟩, _, rfl, _, _, rfl, rfl, .inr spOk, _, _, rfl, rfl, _, rfl, _, _, rfl, rfl, .inl ⟨by decide, by decide⟩, _, _, rfl, rfl, _, _, rfl, rfl, _, _, rfl, rfl, .inr ⟨by decide, by decide⟩, _, _, rfl, rfl, pos2, ?_⟩
            refine ⟨_, rfl, _, rfl, _, _, rfl, rfl, _, _, rfl, rfl, .inl seedOk, _, _, rfl, rfl, pos1, _, _, rfl, rfl, dv64, _, rfl, _, _, rfl, rfl, hm0, ?_⟩
            exact drawn (Q := fun z H => Q (.int z) H) hm0 fun r hr => kl r hr
      · refine ⟨_, rfl, _, _, rfl, rfl, fits, _, _, rfl, rfl, _, rfl, ite2 (fun hz => ?_) fun hz => ?_⟩
        · refine ⟨_, rfl, _, rfl, c, _, rfl, .inl hC1, _, _, rfl, rfl, _, rfl, ite2 (fun hs => ?_) fun hs => ?_⟩
          · refine ⟨_, rfl, _, _, rfl, rfl, fits, _, _, rfl, rfl, _, rfl, _, _, rfl, rfl, hm, _, rfl, t, _, rfl, DPut.k (k := Sum.inr "left") hT1 (small1000 (by show 3 ≤ 1000; decide)), ?_⟩
            rw [put_left]
            refine ⟨_, rfl, _, _, rfl, rfl, fits, _, _, rfl, rfl, _, rfl, _, _, rfl, rfl, hm0, ?_⟩
            refine drawn (Q := fun z H => Q (.int z) H) hm0 fun r hr => kk r _ hr (Int.ediv_nonneg ?_ (Int.le_of_lt hm0))
            have hz' := of_decide_eq_true hz
            rw [p18] at hz' ⊢
            omega
          · refine ⟨_, rfl, _, _, rfl, rfl, pos1, _, rfl, _, _, rfl, rfl, .inl ⟨by decide, by decide⟩, _, rfl, _, _, rfl, rfl, .inr spOk, _, _, rfl, rfl, _, rfl, _, _, rfl, rfl, .inl ⟨by decide, by decide⟩, _, _, rfl, rfl, _, _, rfl, rfl, _, _, rfl, rfl, .inr ⟨by decide, by decide⟩, _, _, rfl, rfl, pos2, ?_⟩
            refine ⟨_, rfl, _, rfl, _, _, rfl, rfl, _, _, rfl, rfl, .inl seedOk, _, _, rfl, rfl, pos1, _, _, rfl, rfl, dv64, _, rfl, _, _, rfl, rfl, hm0, ?_⟩
            exact drawn (Q := fun z H => Q (.int z) H) hm0 fun r hr => kl r hr
        · refine ⟨_, rfl, _, _, rfl, rfl, pos1, _, rfl, _, _, rfl, rfl, .inl ⟨by decide, by decide⟩, _, rfl, _, _, rfl, rfl, .inr spOk, _, _, rfl, rfl, _, rfl, _, _, rfl, rfl, .inl ⟨by decide, by decide⟩, _, _, rfl, rfl, _, _, rfl, rfl, _, _, rfl, rfl, .inr ⟨by decide, by decide⟩, _, _, rfl, rfl, pos2, ?_⟩
          refine ⟨_, rfl, _, rfl, _, _, rfl, rfl, _, _, rfl, rfl, .inl seedOk, _, _, rfl, rfl, pos1, _, _, rfl, rfl, dv64, _, rfl, _, _, rfl, rfl, hm0, ?_⟩
          exact drawn (Q := fun z H => Q (.int z) H) hm0 fun r hr => kl r hr
end
end K64
set_option Elab.async false
set_option linter.all false
set_option maxRecDepth 100000
set_option maxHeartbeats 1000000
namespace K64
open PySem PySem.Spec PyProof.Rows L2
theorem snoc_last {α : Type} : ∀ (xs : List α), xs ≠ [] → ∃ ys y, xs = ys ++ [y]
  | [], h => (h rfl).elim
  | [x], _ => ⟨[], x, rfl⟩
  | x :: y :: r, _ => by obtain ⟨ys, z, e⟩ := snoc_last (y :: r) (by simp); exact ⟨x :: ys, z, by rw [e]; rfl⟩
theorem take_snoc {α : Type} {xs : List α} {k : Nat} {x : α} (h : xs[k]? = some x) : xs.take (k + 1) = xs.take k ++ [x] := by rw [List.take_succ, h]; rfl
theorem top_bit {n : Nat} (h : n ≠ 0) : n.testBit (bitsN n - 1) = true ∧ 0 < bitsN n := by
  have h0 : 0 < bitsN n := by unfold bitsN; rw [if_neg h]; omega
  refine ⟨?_, h0⟩
  cases e : n.testBit (bitsN n - 1) with
  | true => rfl
  | false =>
    have : n < 2 ^ (bitsN n - 1) := Nat.lt_pow_two_of_testBit n fun i hi => by
      cases q : n.testBit i with
      | false => rfl
      | true =>
        have := lt_bits q
        have : i = bitsN n - 1 := by omega
        subst this
        rw [e] at q; cases q
    have := bits_le this
    omega
theorem bit_above {n j : Nat} (h : bitsN n ≤ j) : n.testBit j = false := by
  cases q : n.testBit j with
  | false => rfl
  | true => have := lt_bits q; omega
theorem bits_zero {n : Nat} (h : bitsN n = 0) : n = 0 := by
  by_cases e : n = 0
  · exact e
  · have := (top_bit e).2; omega
theorem bits_xor_eq {a b : Nat} (h : bitsN a = bitsN b) (hb : b ≠ 0) : bitsN (a ^^^ b) < bitsN a := by
  have hb1 := top_bit hb
  have ha : a ≠ 0 := fun e => by rw [e] at h; have : bitsN 0 = 0 := rfl; omega
  have ha1 := top_bit ha
  have : a ^^^ b < 2 ^ (bitsN a - 1) := Nat.lt_pow_two_of_testBit _ fun i hi => by
    rw [Nat.testBit_xor]
    by_cases e : i = bitsN a - 1
    · subst e; rw [ha1.1, h, hb1.1]; rfl
    · rw [bit_above (n := a) (by omega), bit_above (n := b) (by omega)]; rfl
  have := bits_le this
  omega
theorem bits_xor_lt {a b : Nat} (h : bitsN a < bitsN b) : bitsN (a ^^^ b) = bitsN b := by
  have hb : b ≠ 0 := fun e => by rw [e] at h; have : bitsN 0 = 0 := rfl; omega
  have hb1 := top_bit hb
  have l1 : (a ^^^ b).testBit (bitsN b - 1) = true := by rw [Nat.testBit_xor, hb1.1, bit_above (n := a) (by omega)]; rfl
  have := lt_bits l1
  have l2 : a ^^^ b < 2 ^ bitsN b := Nat.xor_lt_two_pow (Nat.lt_of_lt_of_le lt_of_bits (Nat.pow_le_pow_right (by decide) (by omega))) lt_of_bits
  have := bits_le l2
  omega
theorem xor_can (a b : Nat) : (a ^^^ b) ^^^ b = a := by rw [Nat.xor_assoc, Nat.xor_self, Nat.xor_zero]
inductive Spn (gs : List Nat) : Nat → Prop
  | zero : Spn gs 0
  | step {g r : Nat} : g ∈ gs → Spn gs r → Spn gs (r ^^^ g)
theorem Spn.mem {gs : List Nat} {g : Nat} (h : g ∈ gs) : Spn gs g := by have := Spn.step h Spn.zero; rwa [Nat.zero_xor] at this
theorem Spn.xor {gs : List Nat} {a b : Nat} (ha : Spn gs a) (hb : Spn gs b) : Spn gs (a ^^^ b) := by
  induction hb with
  | zero => rwa [Nat.xor_zero]
  | step hg _ ih => rw [← Nat.xor_assoc]; exact .step hg ih
theorem Spn.mono {gs hs : List Nat} {a : Nat} (h : ∀ g ∈ gs, Spn hs g) (ha : Spn gs a) : Spn hs a := by
  induction ha with
  | zero => exact .zero
  | step hg _ ih => exact ih.xor (h _ hg)
theorem Spn.sub {gs hs : List Nat} {a : Nat} (h : ∀ g ∈ gs, g ∈ hs) (ha : Spn gs a) : Spn hs a := ha.mono fun g hg => .mem (h g hg)
theorem Spn.cons {gs : List Nat} {k a : Nat} (h : Spn (k :: gs) a) : Spn gs a ∨ Spn gs (a ^^^ k) := by
  induction h with
  | zero => exact .inl .zero
  | @step g r hg _ ih =>
    rcases List.mem_cons.mp hg with e | e
    · subst e
      rcases ih with ih | ih
      · right; rwa [xor_can]
      · left; exact ih
    · rcases ih with ih | ih
      · exact .inl (ih.xor (.mem e))
      · right
        have := ih.xor (.mem e)
        rwa [Nat.xor_assoc, Nat.xor_comm k g, ← Nat.xor_assoc] at this
theorem ech_len : ∀ {gs : List Nat}, (gs.map bitsN).Nodup → ∀ {r : Nat}, Spn gs r → r ≠ 0 → ∃ g ∈ gs, bitsN g = bitsN r
  | [], _, r, h, h0 => by
    cases h with
    | zero => exact (h0 rfl).elim
    | step hg _ => cases hg
  | g :: gs, hn, r, h, h0 => by
    rw [List.map_cons, List.nodup_cons] at hn
    rcases h.cons with h | h
    · obtain ⟨g', m, e⟩ := ech_len hn.2 h h0
      exact ⟨g', .tail _ m, e⟩
    · by_cases z : r ^^^ g = 0
      · have : r = g := by have := xor_can r g; rw [z, Nat.zero_xor] at this; exact this.symm
        exact ⟨g, .head _, by rw [this]⟩
      · obtain ⟨g', m, e⟩ := ech_len hn.2 h z
        have ne : bitsN (r ^^^ g) ≠ bitsN g := fun q => hn.1 (List.mem_map.mpr ⟨g', m, e.trans q⟩)
        have er : r = (r ^^^ g) ^^^ g := (xor_can r g).symm
        rcases Nat.lt_or_ge (bitsN (r ^^^ g)) (bitsN g) with q | q
        · exact ⟨g, .head _, by conv => rhs; rw [er]
                                rw [bits_xor_lt q]⟩
        · refine ⟨g', .tail _ m, ?_⟩
          conv => rhs; rw [er]
          rw [Nat.xor_comm (r ^^^ g) g, bits_xor_lt (by omega), e]
def xF (p : Nat → Bool) (c : Nat → Nat) (m : Nat) : Nat := (List.range m).foldl (fun a k => if p k then a ^^^ c k else a) 0
theorem xF_succ (p : Nat → Bool) (c : Nat → Nat) (m : Nat) : xF p c (m + 1) = if p m then xF p c m ^^^ c m else xF p c m := by unfold xF; rw [List.range_succ, List.foldl_append]; rfl
theorem xor_four (a b c : Nat) : (a ^^^ c) ^^^ (b ^^^ c) = a ^^^ b := by
  rw [Nat.xor_comm b c, ← Nat.xor_assoc, Nat.xor_assoc a c c, Nat.xor_self, Nat.xor_zero]
theorem xF_xor (p q : Nat → Bool) (c : Nat → Nat) : ∀ m, xF (fun k => p k ^^ q k) c m = xF p c m ^^^ xF q c m
  | 0 => (Nat.xor_self 0).symm
  | m + 1 => by
    rw [xF_succ, xF_succ, xF_succ, xF_xor p q c m]
    cases p m <;> cases q m
    · rfl
    · show (xF p c m ^^^ xF q c m) ^^^ c m = xF p c m ^^^ (xF q c m ^^^ c m); rw [Nat.xor_assoc]
    · show (xF p c m ^^^ xF q c m) ^^^ c m = (xF p c m ^^^ c m) ^^^ xF q c m; rw [Nat.xor_assoc, Nat.xor_comm (xF q c m), ← Nat.xor_assoc]
    · show xF p c m ^^^ xF q c m = (xF p c m ^^^ c m) ^^^ (xF q c m ^^^ c m); rw [xor_four]
theorem xF_one (c : Nat → Nat) (i : Nat) : ∀ m, xF (fun k => decide (i = k)) c m = if i < m then c i else 0
  | 0 => rfl
  | m + 1 => by
    rw [xF_succ, xF_one c i m]
    by_cases e : i = m
    · subst e; simp
    · simp only [decide_eq_true_eq, e, if_false]
      by_cases q : i < m
      · rw [if_pos q, if_pos (by omega)]
      · rw [if_neg q, if_neg (by omega)]
theorem xF_zero (c : Nat → Nat) : ∀ m, xF (fun _ => false) c m = 0
  | 0 => rfl
  | m + 1 => by rw [xF_succ, xF_zero c m]; rfl
def xw (ws : List Nat) (r : Nat) : Nat := xF r.testBit (fun k => ws.getD k 0) ws.length
theorem xw_xor (ws : List Nat) (r s : Nat) : xw ws (r ^^^ s) = xw ws r ^^^ xw ws s := by
  unfold xw
  rw [← xF_xor]
  congr 1
  funext k
  rw [Nat.testBit_xor]
theorem xw_zero (ws : List Nat) : xw ws 0 = 0 := by
  unfold xw
  have : Nat.testBit 0 = fun _ => false := by funext k; exact Nat.zero_testBit k
  rw [this, xF_zero]
theorem xw_one (ws : List Nat) {i : Nat} (h : i < ws.length) : xw ws (1 <<< i) = ws.getD i 0 := by
  unfold xw
  have : Nat.testBit (1 <<< i) = fun k => decide (i = k) := by
    funext k
    rw [Nat.one_shiftLeft, Nat.testBit_two_pow]
  rw [this, xF_one, if_pos h]
def sumX (xs : List Nat) : Nat := xs.foldl (fun a x => a ^^^ x) 0
theorem sum_ix (ws : List Nat) (ix : List Nat) (h : ∀ i ∈ ix, i < ws.length) : sumX (ix.map fun i => ws.getD i 0) = xw ws (rowOfN ix) := by
  have gen : ∀ (n : Nat) (ix : List Nat), ix.length = n → (∀ i ∈ ix, i < ws.length) → sumX (ix.map fun i => ws.getD i 0) = xw ws (rowOfN ix) := by
    intro n
    induction n with
    | zero => intro ix e _; rw [List.length_eq_zero_iff.mp e]; exact (xw_zero ws).symm
    | succ n ih =>
      intro ix e h
      obtain ⟨ys, y, rfl⟩ := snoc_last ix (by intro z; rw [z] at e; cases e)
      rw [List.length_append] at e
      rw [rowOf_snoc, xw_xor, xw_one ws (h y (by simp)), ← ih ys (by simpa using e) fun i hi => h i (by simp [hi])]
      unfold sumX
      rw [List.map_append, List.foldl_append]; rfl
  exact gen _ ix rfl h
abbrev Ld := Nat × Nat × Nat
def ldD (e : Ld) : D := .tup [nD e.1, nD e.2.1, nD e.2.2]
def dl (ls : List Ld) : List (Key × D) := ls.map fun e => (.inl ((bitsN e.2.1 : Nat) : Int), ldD e)
def lk (ls : List Ld) (L : Nat) : Option Ld := ls.find? fun e => decide (bitsN e.2.1 = L)
def rst (ls : List Ld) : List Nat := ls.map fun e => e.2.1
theorem dl_val (L : Nat) : ∀ ls : List Ld, valD (dl ls) (.inl ((L : Nat) : Int)) = (lk ls L).map ldD
  | [] => rfl
  | e :: ls => by
    have ih := dl_val L ls
    unfold valD lk dl at *
    rw [List.map_cons, List.find?_cons, List.find?_cons]
    by_cases h : bitsN e.2.1 = L
    · have h1 : decide ((Sum.inl ((bitsN e.2.1 : Nat) : Int) : Key) = .inl ((L : Nat) : Int)) = true := decide_eq_true (by rw [h])
      have h2 : decide (bitsN e.2.1 = L) = true := decide_eq_true h
      rw [h2]; simp only [h1]; rfl
    · have h1 : decide ((Sum.inl ((bitsN e.2.1 : Nat) : Int) : Key) = .inl ((L : Nat) : Int)) = false := decide_eq_false fun q => by
        injection q with q
        exact h (by omega)
      have h2 : decide (bitsN e.2.1 = L) = false := decide_eq_false h
      rw [h2]; simp only [h1]; exact ih
theorem lk_none {ls : List Ld} {L : Nat} : lk ls L = none ↔ ∀ e ∈ ls, bitsN e.2.1 ≠ L := by
  unfold lk
  rw [List.find?_eq_none]
  constructor
  · intro h e he q; exact h e he (decide_eq_true q)
  · intro h e he q; exact h e he (of_decide_eq_true q)
theorem lk_some {ls : List Ld} {L : Nat} {e : Ld} (h : lk ls L = some e) : e ∈ ls ∧ bitsN e.2.1 = L := by
  unfold lk at h
  exact ⟨List.mem_of_find?_eq_some h, by have := List.find?_some h; exact of_decide_eq_true this⟩
theorem dl_put {ls : List Ld} {e : Ld} (h : lk ls (bitsN e.2.1) = none) : putD (dl ls) (.inl ((bitsN e.2.1 : Nat) : Int)) (ldD e) = dl (ls ++ [e]) := by
  unfold putD
  rw [if_neg]
  · unfold dl; rw [List.map_append]; rfl
  · intro q
    rw [List.any_eq_true] at q
    obtain ⟨p, hp, hq⟩ := q
    unfold dl at hp
    obtain ⟨e', he', rfl⟩ := List.mem_map.mp hp
    have hk := of_decide_eq_true hq
    injection hk with hk
    exact lk_none.mp h e' he' (by omega)
theorem dl_len (ls : List Ld) : (dl ls).length = ls.length := by unfold dl; rw [List.length_map]
theorem xw_spn {rows : List Nat} {k m : Nat} (hk : k ≤ rows.length) (hm : m < 2 ^ k) : Spn (rows.take k) (xw rows m) := by
  have hg : ∀ i ∈ givens m, i < k := fun i hi => by
    rw [← givens_range hm] at hi
    exact List.mem_range.mp (List.mem_filter.mp hi).1
  have e := sum_ix rows (givens m) fun i hi => by have := hg i hi; omega
  rw [rowOf_givens] at e
  rw [← e]
  have gen : ∀ (ix : List Nat) (a : Nat), (∀ i ∈ ix, i < k) → Spn (rows.take k) a → Spn (rows.take k) ((ix.map fun i => rows.getD i 0).foldl (fun a x => a ^^^ x) a) := by
    intro ix
    induction ix with
    | nil => intro a _ h; exact h
    | cons i ix ih =>
      intro a h1 h2
      rw [List.map_cons, List.foldl_cons]
      refine ih _ (fun j hj => h1 j (.tail _ hj)) (h2.xor (.mem ?_))
      have lt := h1 i (.head _)
      rw [List.getD_eq_getElem?_getD, List.getElem?_eq_getElem (by omega)]
      show rows[i] ∈ _
      rw [List.mem_take_iff_getElem]
      exact ⟨i, by omega, rfl⟩
  exact gen _ _ hg .zero
structure LOk (rows : List Nat) (k : Nat) (ls : List Ld) : Prop where
  kl : k ≤ rows.length
  ll : ls.length ≤ k
  nd : ((rst ls).map bitsN).Nodup
  ne : ∀ e ∈ ls, e.2.1 ≠ 0
  eq : ∀ e ∈ ls, e.2.1 = xw rows e.2.2
  lt : ∀ e ∈ ls, e.2.2 < 2 ^ k
  bt : ∀ e ∈ ls, ∀ i, e.2.2.testBit i = true → ∃ e' ∈ ls, e'.1 = i
  sp : ∀ i, i < k → Spn (rst ls) (rows.getD i 0)
  pl : ∀ i, (∃ e ∈ ls, e.1 = i) ↔ (i < k ∧ ¬ Spn (rows.take i) (rows.getD i 0))
  up : (ls.map fun e => e.1).Pairwise (· < ·)
theorem LOk.rs {rows : List Nat} {k : Nat} {ls : List Ld} (h : LOk rows k ls) {a : Nat} (ha : Spn (rst ls) a) : Spn (rows.take k) a := ha.mono fun g hg => by
  obtain ⟨e, he, rfl⟩ := List.mem_map.mp hg
  rw [h.eq e he]
  exact xw_spn h.kl (h.lt e he)
theorem LOk.sr {rows : List Nat} {k : Nat} {ls : List Ld} (h : LOk rows k ls) {a : Nat} (ha : Spn (rows.take k) a) : Spn (rst ls) a := ha.mono fun g hg => by
  obtain ⟨i, hi, rfl⟩ := List.mem_take_iff_getElem.mp hg
  have := h.sp i (by omega)
  rwa [List.getD_eq_getElem?_getD, List.getElem?_eq_getElem (by omega)] at this
structure Red (rows : List Nat) (k : Nat) (ls : List Ld) (row r p : Nat) : Prop where
  eq : r = row ^^^ xw rows p
  lt : p < 2 ^ k
  bt : ∀ i, p.testBit i = true → ∃ e ∈ ls, e.1 = i
  no : lk ls (bitsN r) = none
  sp : Spn (rst ls) (row ^^^ r)
theorem red_zero {rows : List Nat} {k : Nat} {ls : List Ld} {row r p : Nat} (h : LOk rows k ls) (R : Red rows k ls row r p) : r = 0 ↔ Spn (rows.take k) row := by
  constructor
  · intro e
    have := R.sp
    rw [e, Nat.xor_zero] at this
    exact h.rs this
  · intro hs
    have h1 := (h.sr hs).xor R.sp
    rw [← Nat.xor_assoc, Nat.xor_self, Nat.zero_xor] at h1
    by_cases e : r = 0
    · exact e
    · obtain ⟨g, hg, eb⟩ := ech_len h.nd h1 e
      obtain ⟨e', he', rfl⟩ := List.mem_map.mp hg
      exact (lk_none.mp R.no e' he' eb).elim
theorem lok_nil (rows : List Nat) : LOk rows 0 [] where
  kl := Nat.zero_le _
  ll := Nat.le_refl _
  nd := .nil
  ne := fun _ h => (nomatch h)
  eq := fun _ h => (nomatch h)
  lt := fun _ h => (nomatch h)
  bt := fun _ h => (nomatch h)
  sp := fun _ h => absurd h (Nat.not_lt_zero _)
  pl := fun i => by
    constructor
    · rintro ⟨_, h, _⟩; cases h
    · rintro ⟨h, _⟩; exact absurd h (Nat.not_lt_zero _)
  up := .nil
theorem lok_same {rows : List Nat} {k : Nat} {ls : List Ld} {p : Nat} (h : LOk rows k ls) (hk : k < rows.length) (R : Red rows k ls (rows.getD k 0) 0 p) : LOk rows (k + 1) ls where
  kl := hk
  ll := Nat.le_succ_of_le h.ll
  nd := h.nd
  ne := h.ne
  eq := h.eq
  lt := fun e he => Nat.lt_of_lt_of_le (h.lt e he) (Nat.pow_le_pow_right (by decide) (Nat.le_succ _))
  bt := h.bt
  sp := fun i hi => by
    by_cases e : i = k
    · subst e
      have := R.sp
      rwa [Nat.xor_zero] at this
    · exact h.sp i (by omega)
  pl := fun i => by
    rw [h.pl i]
    constructor
    · rintro ⟨a, b⟩; exact ⟨by omega, b⟩
    · rintro ⟨a, b⟩
      refine ⟨?_, b⟩
      by_cases e : i = k
      · subst e; exact (b ((red_zero h R).mp rfl)).elim
      · omega
  up := h.up
theorem lok_new {rows : List Nat} {k : Nat} {ls : List Ld} {r p : Nat} (h : LOk rows k ls) (hk : k < rows.length) (R : Red rows k ls (rows.getD k 0) r p) (hr : r ≠ 0) : LOk rows (k + 1) (ls ++ [(k, r, p ^^^ (1 <<< k))]) where
  kl := hk
  ll := by rw [List.length_append]; exact Nat.succ_le_succ h.ll
  nd := by
    unfold rst
    rw [List.map_append, List.map_append]
    refine List.nodup_append.mpr ⟨h.nd, by simp, fun a ha b hb => ?_⟩
    obtain ⟨g, hg, rfl⟩ := List.mem_map.mp ha
    obtain ⟨e, he, rfl⟩ := List.mem_map.mp hg
    have : b = bitsN r := by simpa using hb
    rw [this]
    exact lk_none.mp R.no e he
  ne := fun e he => by
    rcases List.mem_append.mp he with q | q
    · exact h.ne e q
    · rw [List.mem_singleton.mp q]; exact hr
  eq := fun e he => by
    rcases List.mem_append.mp he with q | q
    · exact h.eq e q
    · rw [List.mem_singleton.mp q]
      show r = xw rows (p ^^^ (1 <<< k))
      rw [R.eq, xw_xor, xw_one rows hk, Nat.xor_comm]
  lt := fun e he => by
    rcases List.mem_append.mp he with q | q
    · exact Nat.lt_of_lt_of_le (h.lt e q) (Nat.pow_le_pow_right (by decide) (Nat.le_succ _))
    · rw [List.mem_singleton.mp q]
      show p ^^^ (1 <<< k) < 2 ^ (k + 1)
      refine Nat.xor_lt_two_pow (Nat.lt_of_lt_of_le R.lt (Nat.pow_le_pow_right (by decide) (Nat.le_succ _))) ?_
      rw [Nat.shiftLeft_eq, Nat.one_mul]; exact (Nat.pow_lt_pow_iff_right (by decide)).mpr (Nat.lt_succ_self _)
  bt := fun e he i hi => by
    rcases List.mem_append.mp he with q | q
    · obtain ⟨e', m, z⟩ := h.bt e q i hi
      exact ⟨e', List.mem_append.mpr (.inl m), z⟩
    · rw [List.mem_singleton.mp q] at hi
      have hi' : (p ^^^ (1 <<< k)).testBit i = true := hi
      rw [Nat.testBit_xor, Nat.one_shiftLeft, Nat.testBit_two_pow] at hi'
      by_cases e : k = i
      · exact ⟨(k, r, p ^^^ (1 <<< k)), List.mem_append.mpr (.inr (.head _)), e⟩
      · rw [decide_eq_false e, Bool.xor_false] at hi'
        obtain ⟨e', m, z⟩ := R.bt i hi'
        exact ⟨e', List.mem_append.mpr (.inl m), z⟩
  sp := fun i hi => by
    have up : ∀ {a : Nat}, Spn (rst ls) a → Spn (rst (ls ++ [(k, r, p ^^^ (1 <<< k))])) a := fun ha => ha.sub fun g hg => by unfold rst at hg ⊢; rw [List.map_append]; exact List.mem_append.mpr (.inl hg)
    by_cases e : i = k
    · subst e
      have h1 := (up R.sp).xor (.mem (show r ∈ rst (ls ++ [(i, r, p ^^^ (1 <<< i))]) by unfold rst; rw [List.map_append]; exact List.mem_append.mpr (.inr (.head _))))
      rwa [xor_can] at h1
    · exact up (h.sp i (by omega))
  pl := fun i => by
    constructor
    · rintro ⟨e, he, rfl⟩
      rcases List.mem_append.mp he with q | q
      · obtain ⟨a, b⟩ := (h.pl e.1).mp ⟨e, q, rfl⟩
        exact ⟨by omega, b⟩
      · rw [List.mem_singleton.mp q]
        exact ⟨Nat.lt_succ_self _, fun z => hr ((red_zero h R).mpr z)⟩
    · rintro ⟨a, b⟩
      by_cases e : i = k
      · exact ⟨(k, r, p ^^^ (1 <<< k)), List.mem_append.mpr (.inr (.head _)), e.symm⟩
      · obtain ⟨e', m, z⟩ := (h.pl i).mpr ⟨by omega, b⟩
        exact ⟨e', List.mem_append.mpr (.inl m), z⟩
  up := by
    rw [List.map_append]
    refine List.pairwise_append.mpr ⟨h.up, by simp, fun a ha b hb => ?_⟩
    obtain ⟨e, he, rfl⟩ := List.mem_map.mp ha
    have : b = k := by simpa using hb
    rw [this]
    exact ((h.pl e.1).mp ⟨e, he, rfl⟩).1
def plc (ls : List Ld) : List Nat := ls.map fun e => e.1
def SRed : ASp := fun ss q => ∃ (rows : List Nat) (k : Nat) (ls : List Ld) (row : Nat), ss = [.dk (dl ls), nv row] ∧ LOk rows k ls ∧ ∀ r p, Red rows k ls row r p → q (.d (.tup [nD r, nD p])) [.dk (dl ls), nv row]
theorem two_d {i j : Nat} {d1 d2 : D} {ρ : En} {k : En → Prop} (h : k (pt (pt ρ i (.vl d1)) j (.vl d2))) : gaTup 2 (gaCons (gaName i) (gaCons (gaName j) gaNil)) (.tup [d1, d2]) ρ k := h
structure Dst (ks : List Nat) : Prop where
  nd : (ks.map bitsN).Nodup
  ne : ∀ k ∈ ks, k ≠ 0
theorem Dst.perm {ks ls : List Nat} (p : ks.Perm ls) (h : Dst ks) : Dst ls := ⟨(p.map bitsN).nodup_iff.mp h.nd, fun k hk => h.ne k (p.mem_iff.mpr hk)⟩
theorem Dst.tail {k : Nat} {ks : List Nat} (h : Dst (k :: ks)) : Dst ks := ⟨(List.nodup_cons.mp h.nd).2, fun x hx => h.ne x (.tail _ hx)⟩
open Classical in
theorem least_front {P : Nat → Prop} : ∀ {ks : List Nat}, (∃ k ∈ ks, P k) → ∃ k0 rest, ks.Perm (k0 :: rest) ∧ P k0 ∧ ∀ k ∈ rest, P k → bitsN k0 ≤ bitsN k
  | [], h => by obtain ⟨_, h, _⟩ := h; cases h
  | k :: ks, h => by
    by_cases hr : ∃ x ∈ ks, P x
    · obtain ⟨k0, rest, p, h0, hl⟩ := least_front hr
      by_cases hk : P k ∧ bitsN k < bitsN k0
      · refine ⟨k, ks, .refl _, hk.1, fun x hx px => ?_⟩
        rcases List.mem_cons.mp (p.mem_iff.mp hx) with rfl | z
        · exact Nat.le_of_lt hk.2
        · exact Nat.le_trans (Nat.le_of_lt hk.2) (hl x z px)
      · refine ⟨k0, k :: rest, (p.cons k).trans (.swap ..), h0, fun x hx px => ?_⟩
        rcases List.mem_cons.mp hx with rfl | z
        · exact Nat.le_of_not_lt fun q => hk ⟨px, q⟩
        · exact hl x z px
    · obtain ⟨x, hx, px⟩ := h
      rcases List.mem_cons.mp hx with rfl | z
      · exact ⟨x, ks, .refl _, px, fun y hy py => (hr ⟨y, hy, py⟩).elim⟩
      · exact (hr ⟨x, z, px⟩).elim
open Classical in
theorem stein : ∀ {gs ks : List Nat}, Dst ks → (∀ k ∈ ks, Spn gs k) → ks.length ≤ gs.length
  | [], ks, d, h => by
    cases ks with
    | nil => exact Nat.le_refl _
    | cons k r =>
      exfalso
      have hk := h k (.head _)
      have : k = 0 := by
        cases hk with
        | zero => rfl
        | step hg _ => cases hg
      exact d.ne k (.head _) this
  | g :: gs, ks, d, h => by
    by_cases all : ∀ k ∈ ks, Spn gs k
    · exact Nat.le_succ_of_le (stein d all)
    · have ex : ∃ k ∈ ks, ¬ Spn gs k := by
        refine Classical.byContradiction fun no => all fun k hk => Classical.byContradiction fun z => no ⟨k, hk, z⟩
      obtain ⟨k0, rest, p, h0, hl⟩ := least_front ex
      rw [p.length_eq]
      have d' := d.perm p
      have h' : ∀ k ∈ k0 :: rest, Spn (g :: gs) k := fun k hk => h k (p.mem_iff.mpr hk)
      have g0 : Spn gs (k0 ^^^ g) := (h' k0 (.head _)).cons.resolve_left h0
      have bits : ∀ k ∈ rest, bitsN (if Spn gs k then k else k ^^^ k0) = bitsN k := fun k hk => by
        split
        · rfl
        · rename_i ns
          have le := hl k hk ns
          have ne : bitsN k0 ≠ bitsN k := fun q => (List.nodup_cons.mp d'.nd).1 (q ▸ List.mem_map.mpr ⟨k, hk, rfl⟩)
          rw [Nat.xor_comm]
          exact bits_xor_lt (by omega)
      have key := stein (gs := gs) (ks := rest.map fun k => if Spn gs k then k else k ^^^ k0) ⟨by
          rw [List.map_map]
          have : rest.map (bitsN ∘ fun k => if Spn gs k then k else k ^^^ k0) = rest.map bitsN := List.map_congr_left fun k hk => bits k hk
          rw [this]
          exact d'.tail.nd, fun x hx => by
          obtain ⟨k, hk, rfl⟩ := List.mem_map.mp hx
          intro z
          have b := bits k hk
          rw [z] at b
          have : bitsN 0 = 0 := by decide
          exact d'.tail.ne k hk (bits_zero (by omega))⟩ fun x hx => by
        obtain ⟨k, hk, rfl⟩ := List.mem_map.mp hx
        split
        · assumption
        · rename_i ns
          have gk : Spn gs (k ^^^ g) := (h' k (.tail _ hk)).cons.resolve_left ns
          have := gk.xor g0
          rwa [xor_four] at this
      rw [List.length_map] at key
      exact Nat.succ_le_succ key
def kvs (f : Nat → Int) (g : Nat → Nat) (c : Nat) : List (Key × D) := (List.range c).map fun j => (.inl (f j), nD (g j))
theorem inD_nats (n : Nat) (xs : List Nat) : inD (nD n) (natsD xs) = xs.contains n := by
  unfold inD natsD
  rw [List.any_map]
  induction xs with
  | nil => rfl
  | cons x xs ih =>
    rw [List.any_cons, List.contains_cons, ih]
    congr 1
    show eqD (nD x) (nD n) = (n == x)
    unfold eqD
    show decide ((x : Int) = (n : Int)) = (n == x)
    by_cases h : n = x
    · subst h; simp
    · have : ¬ ((x : Int) = (n : Int)) := by omega
      simp [h, this]
theorem gIn_nl {neg : Bool} {r2 : R} {ρ : En} {q : Ko} {xs : List Nat} {n : Nat} (hv : view ρ r2 = some (.lst (natsD xs))) (hq : q (.d (.bl (if neg then !xs.contains n else xs.contains n))) ρ) : gIn neg (.d (nD n)) r2 ρ q := by
  unfold gIn
  have e1 : view ρ (.d (nD n)) = some (nD n) := rfl
  rw [e1, hv]
  refine ⟨⟨rfl, List.all_eq_true.mpr fun d hd => ?_⟩, ?_⟩
  · obtain ⟨x, _, rfl⟩ := List.mem_map.mp hd; rfl
  · rw [inD_nats]; exact hq
theorem bits_pow2 (k : Nat) : bitsN (2 ^ k) = k + 1 := by
  unfold bitsN
  rw [if_neg (by have := Nat.two_pow_pos k; omega), Nat.log2_two_pow]
theorem Spn.map {f : Nat → Nat} (h0 : f 0 = 0) (hf : ∀ a b, f (a ^^^ b) = f a ^^^ f b) {gs : List Nat} {a : Nat} (h : Spn gs a) : Spn (gs.map f) (f a) := by
  induction h with
  | zero => rw [h0]; exact .zero
  | step hg _ ih => rw [hf]; exact .step (List.mem_map.mpr ⟨_, hg, rfl⟩) ih
theorem mod_xor (n a b : Nat) : (a ^^^ b) % 2 ^ n = (a % 2 ^ n) ^^^ (b % 2 ^ n) := by
  apply Nat.eq_of_testBit_eq
  intro i
  rw [Nat.testBit_mod_two_pow, Nat.testBit_xor, Nat.testBit_xor, Nat.testBit_mod_two_pow, Nat.testBit_mod_two_pow]
  cases decide (i < n) <;> simp
def units (n : Nat) : List Nat := (List.range n).map fun k => 2 ^ k
theorem units_dst (n : Nat) : Dst (units n) where
  nd := by
    unfold units
    rw [List.map_map]
    refine List.Pairwise.map _ (R := (· < ·)) (S := (· ≠ ·)) (fun a b h => ?_) List.pairwise_lt_range
    show bitsN (2 ^ a) ≠ bitsN (2 ^ b)
    rw [bits_pow2, bits_pow2]; omega
  ne := fun k hk => by
    obtain ⟨j, _, rfl⟩ := List.mem_map.mp hk
    have := Nat.two_pow_pos j
    omega
theorem units_le {n : Nat} {gs : List Nat} (h : ∀ k, k < n → Spn gs (2 ^ k)) : n ≤ gs.length := by
  have := stein (units_dst n) (gs := gs) fun k hk => by
    obtain ⟨j, hj, rfl⟩ := List.mem_map.mp hk
    exact h j (List.mem_range.mp hj)
  unfold units at this
  rwa [List.length_map, List.length_range] at this
structure Full (m : Nat) (rows : List Nat) : Prop where
  len : rows.length = m
  sp : ∀ k, k < m → Spn rows (2 ^ k)
theorem full_free {m : Nat} {rows : List Nat} (h : Full m rows) {i : Nat} (hi : i < m) : ¬ Spn (rows.eraseIdx i) (rows.getD i 0) := fun z => by
  have := units_le (n := m) (gs := rows.eraseIdx i) fun k hk => (h.sp k hk).mono fun g hg => by
    obtain ⟨j, hj, rfl⟩ := List.getElem_of_mem hg
    by_cases e : j = i
    · subst e
      have : rows.getD j 0 = rows[j] := by rw [List.getD_eq_getElem?_getD, List.getElem?_eq_getElem hj]; rfl
      rw [← this]; exact z
    · exact .mem (List.mem_eraseIdx_iff_getElem.mpr ⟨j, hj, e, rfl⟩)
  rw [List.length_eraseIdx, h.len, if_pos hi] at this
  omega
theorem full_row {m : Nat} {rows : List Nat} (h : Full m rows) {i : Nat} (hi : i < m) : ¬ Spn (rows.take i) (rows.getD i 0) := fun z => full_free h hi (z.sub fun g hg => by
  obtain ⟨j, hj, rfl⟩ := List.mem_take_iff_getElem.mp hg
  have hl := h.len
  exact List.mem_eraseIdx_iff_getElem.mpr ⟨j, by omega, by omega, rfl⟩)
theorem full_plc {m : Nat} {rows : List Nat} (h : Full m rows) {ls : List Ld} (L : LOk rows rows.length ls) {i : Nat} (hi : i < m) : i ∈ plc ls := by
  obtain ⟨e, he, rfl⟩ := (L.pl i).mpr ⟨by rw [h.len]; exact hi, full_row h hi⟩
  exact List.mem_map.mpr ⟨e, he, rfl⟩
theorem full_own (m : Nat) : Full m (ownRows m) where
  len := own_len m
  sp := fun k hk => .mem (by unfold ownRows; exact List.mem_map.mpr ⟨k, List.mem_range.mpr hk, by rw [Nat.shiftLeft_eq, Nat.one_mul]⟩)
theorem full_of {m : Nat} {rows rows' : List Nat} (h : Full m rows) (hl : rows'.length = m) (hs : ∀ g ∈ rows, Spn rows' g) : Full m rows' := ⟨hl, fun k hk => (h.sp k hk).mono hs⟩
theorem getD_el {xs : List Nat} {i : Nat} (h : i < xs.length) : xs.getD i 0 = xs[i] := by rw [List.getD_eq_getElem?_getD, List.getElem?_eq_getElem h]; rfl
theorem getD_in {xs : List Nat} {i : Nat} (h : i < xs.length) : xs.getD i 0 ∈ xs := by rw [getD_el h]; exact List.getElem_mem h
theorem full_step {m : Nat} {cells : List Nat} {p : Nat × Nat} (h : Full m cells) (hp : StepOk m p) : Full m (stepC cells p) := by
  obtain ⟨h1, h2, h3⟩ := hp
  have hl := h.len
  refine full_of h (by rw [stepC_len]; exact hl) fun g hg => ?_
  obtain ⟨j, hj, rfl⟩ := List.getElem_of_mem hg
  have hl' : (stepC cells p).length = m := by rw [stepC_len]; exact hl
  have ne : ∀ i, i ≠ p.2 → (stepC cells p).getD i 0 = cells.getD i 0 := fun i hi => by unfold stepC; rw [getD_set_ne (Ne.symm hi)]
  have sm : (stepC cells p).getD p.2 0 = cells.getD p.1 0 ^^^ cells.getD p.2 0 := by unfold stepC; rw [getD_set_same (by omega)]
  rw [← getD_el hj]
  by_cases e : j = p.2
  · subst e
    have a := Spn.mem (getD_in (xs := stepC cells p) (i := p.2) (by omega))
    have b := Spn.mem (getD_in (xs := stepC cells p) (i := p.1) (by omega))
    rw [sm] at a
    rw [ne p.1 h3] at b
    have := a.xor b
    rwa [Nat.xor_comm (cells.getD p.1 0), Nat.xor_assoc, Nat.xor_self, Nat.xor_zero] at this
  · rw [← ne j e]
    exact .mem (getD_in (by omega))
theorem full_steps {m : Nat} : ∀ {st : List (Nat × Nat)} {cells : List Nat}, Full m cells → (∀ p ∈ st, StepOk m p) → Full m (st.foldl stepC cells)
  | [], _, h, _ => h
  | p :: st, cells, h, hk => full_steps (st := st) (full_step h (hk p (.head _))) fun q hq => hk q (.tail _ hq)
theorem full_ins {m : Nat} {xs ys : List Nat} (h : Full m xs) (hl : ys.length = m) (hm : ∀ x ∈ xs, x ∈ ys) : Full m ys := full_of h hl fun g hg => .mem (hm g hg)
structure GJ (m g : Nat) (rows held ps : List Nat) (und : List (Nat × Nat)) : Prop where
  full : Full m held
  lt : ∀ p, held.getD p 0 < 2 ^ m
  gm : g ≤ m
  pl : ps.length = g
  pm : ∀ p ∈ ps, p < m
  nd : ps.Nodup
  col : ∀ i, i < g → ∀ p, p < m → (held.getD p 0).testBit i = decide (ps.getD i 0 = p)
  un : held = und.foldl stepC rows
  ok : ∀ s ∈ und, StepOk m s
  ul : und.length ≤ g * (m - 1)
section
variable {m g : Nat} {rows held ps : List Nat} {und : List (Nat × Nat)}
def hav (m g : Nat) (held : List Nat) : List Nat := (List.range m).filter fun p => (held.getD p 0).testBit g
theorem mem_hav {p : Nat} : p ∈ hav m g held ↔ p < m ∧ (held.getD p 0).testBit g = true := by unfold hav; rw [List.mem_filter, List.mem_range]
theorem GJ.col0 (G : GJ m g rows held ps und) {i p : Nat} (hi : i < g) (hp : p < m) (h : p ∉ ps) : (held.getD p 0).testBit i = false := by
  rw [G.col i hi p hp]
  exact decide_eq_false fun z => h (by rw [← z]; exact getD_in (by rw [G.pl]; exact hi))
theorem GJ.first (G : GJ m g rows held ps und) (hg : g < m) : ∃ p ∈ hav m g held, p ∉ ps := by
  apply Classical.byContradiction
  intro no
  have al : ∀ p ∈ hav m g held, p ∈ ps := fun p hp => Classical.byContradiction fun z => no ⟨p, hp, z⟩
  have := units_le (n := g + 1) (gs := ps.map fun p => held.getD p 0 % 2 ^ (g + 1)) fun k hk => by
    have h1 := (G.full.sp k (by omega)).map (f := fun a => a % 2 ^ (g + 1)) (Nat.zero_mod _) (mod_xor (g + 1))
    have e : 2 ^ k % 2 ^ (g + 1) = 2 ^ k := Nat.mod_eq_of_lt (Nat.pow_lt_pow_right (by decide) hk)
    simp only [e] at h1
    refine h1.mono fun x hx => ?_
    obtain ⟨y, hy, rfl⟩ := List.mem_map.mp hx
    obtain ⟨p, hp, rfl⟩ := List.getElem_of_mem hy
    rw [← getD_el hp]
    have hpm : p < m := by have := G.full.len; omega
    by_cases q : p ∈ ps
    · exact .mem (List.mem_map.mpr ⟨p, q, rfl⟩)
    · have : held.getD p 0 % 2 ^ (g + 1) = 0 := by
        apply Nat.eq_of_testBit_eq
        intro i
        rw [Nat.testBit_mod_two_pow, Nat.zero_testBit]
        by_cases hi : i < g + 1
        · rw [decide_eq_true hi, Bool.true_and]
          by_cases e : i = g
          · subst e
            exact Bool.eq_false_iff.mpr fun z => q (al p (mem_hav.mpr ⟨hpm, z⟩))
          · exact G.col0 (by omega) hpm q
        · rw [decide_eq_false hi, Bool.false_and]
      rw [this]; exact .zero
  rw [List.length_map, G.pl] at this
  omega
theorem steps_get {f : Nat} : ∀ (qs : List Nat) (held : List Nat), f ∉ qs → qs.Nodup → (∀ q ∈ qs, q < held.length) → ∀ p, ((qs.map fun q => (f, q)).foldl stepC held).getD p 0 = if p ∈ qs then held.getD f 0 ^^^ held.getD p 0 else held.getD p 0
  | [], held, _, _, _, p => by simp
  | q :: qs, held, h1, h2, h3, p => by
    obtain ⟨n1, n2⟩ := List.nodup_cons.mp h2
    have hf : f ≠ q := fun z => h1 (z ▸ .head _)
    rw [List.map_cons, List.foldl_cons, steps_get qs (stepC held (f, q)) (fun z => h1 (.tail _ z)) n2 (fun x hx => by rw [stepC_len]; exact h3 x (.tail _ hx))]
    have ne : ∀ i, i ≠ q → (stepC held (f, q)).getD i 0 = held.getD i 0 := fun i hi => by unfold stepC; rw [getD_set_ne (Ne.symm hi)]
    have sm : (stepC held (f, q)).getD q 0 = held.getD f 0 ^^^ held.getD q 0 := by unfold stepC; rw [getD_set_same (h3 q (.head _))]
    rw [ne f hf]
    by_cases e : p = q
    · subst e
      rw [if_neg n1, if_pos (.head _), sm]
    · rw [ne p e]
      by_cases e2 : p ∈ qs
      · rw [if_pos e2, if_pos (.tail _ e2)]
      · rw [if_neg e2, if_neg fun z => by rcases List.mem_cons.mp z with z | z; exact e z; exact e2 z]
def oth (m g f : Nat) (held : List Nat) : List Nat := (hav m g held).filter fun p => decide (p ≠ f)
theorem hav_nd : (hav m g held).Nodup := (List.nodup_range).filter _
theorem oth_nd {f : Nat} : (oth m g f held).Nodup := hav_nd.filter _
theorem mem_oth {f p : Nat} : p ∈ oth m g f held ↔ (p < m ∧ (held.getD p 0).testBit g = true) ∧ p ≠ f := by unfold oth; rw [List.mem_filter, mem_hav, decide_eq_true_eq]
theorem oth_len {f : Nat} (hf : f ∈ hav m g held) : (oth m g f held).length ≤ m - 1 := by
  have h1 : (oth m g f held).length < (hav m g held).length := by
    unfold oth
    exact List.length_filter_lt_length_iff_exists.mpr ⟨f, hf, by simp⟩
  have h2 : (hav m g held).length ≤ m := by
    unfold hav
    have := List.length_filter_le (fun p => (held.getD p 0).testBit g) (List.range m)
    rwa [List.length_range] at this
  omega
theorem GJ.next (G : GJ m g rows held ps und) (hg : g < m) {f : Nat} (hf : f ∈ hav m g held) (hn : f ∉ ps) :
    GJ m (g + 1) rows (((oth m g f held).map fun q => (f, q)).foldl stepC held) (ps ++ [f]) (und ++ (oth m g f held).map fun q => (f, q)) := by
  obtain ⟨hfm, hfb⟩ := mem_hav.mp hf
  have ok : ∀ s ∈ (oth m g f held).map (fun q => (f, q)), StepOk m s := fun s hs => by
    obtain ⟨q, hq, rfl⟩ := List.mem_map.mp hs
    obtain ⟨⟨a, _⟩, b⟩ := mem_oth.mp hq
    exact ⟨hfm, a, Ne.symm b⟩
  have hl := G.full.len
  have get := steps_get (f := f) (oth m g f held) held (fun z => (mem_oth.mp z).2 rfl) oth_nd fun q hq => by rw [hl]; exact (mem_oth.mp hq).1.1
  refine ⟨full_steps G.full ok, fun p => ?_, hg, by rw [List.length_append, G.pl]; rfl, fun p hp => ?_, ?_, fun i hi p hp => ?_, by rw [List.foldl_append, ← G.un], fun s hs => ?_, ?_⟩
  · rw [get]; split
    · exact Nat.xor_lt_two_pow (G.lt f) (G.lt p)
    · exact G.lt p
  · rcases List.mem_append.mp hp with hp | hp
    · exact G.pm p hp
    · rw [List.mem_singleton.mp hp]; exact hfm
  · rw [List.nodup_append]
    exact ⟨G.nd, by simp, fun a ha b hb => by rw [List.mem_singleton.mp hb]; exact fun z => hn (z ▸ ha)⟩
  · rw [get]
    have gl := G.pl
    by_cases e : i = g
    · subst e
      have e1 : (ps ++ [f]).getD i 0 = f := by rw [List.getD_eq_getElem?_getD, List.getElem?_append_right (by omega), gl]; simp
      rw [e1]
      by_cases q : p ∈ oth m i f held
      · obtain ⟨⟨_, b⟩, c⟩ := mem_oth.mp q
        rw [if_pos q, Nat.testBit_xor, hfb, b, decide_eq_false (Ne.symm c)]; rfl
      · rw [if_neg q]
        by_cases c : p = f
        · subst c; rw [hfb, decide_eq_true rfl]
        · rw [decide_eq_false (Ne.symm c)]
          exact Bool.eq_false_iff.mpr fun z => q (mem_oth.mpr ⟨⟨hp, z⟩, c⟩)
    · have e1 : (ps ++ [f]).getD i 0 = ps.getD i 0 := by rw [List.getD_eq_getElem?_getD, List.getElem?_append_left (by omega), ← List.getD_eq_getElem?_getD]
      rw [e1]
      have c0 := G.col0 (i := i) (by omega) hfm hn
      split
      · rw [Nat.testBit_xor, c0, Bool.false_xor]; exact G.col i (by omega) p hp
      · exact G.col i (by omega) p hp
  · rcases List.mem_append.mp hs with hs | hs
    · exact G.ok s hs
    · exact ok s hs
  · have h1 := G.ul
    have h2 := oth_len hf
    rw [List.length_append, List.length_map, Nat.succ_mul]; omega
def chn (ps : List Nat) (p : Nat) : Nat := ps.idxOf p
theorem GJ.all (G : GJ m m rows held ps und) {p : Nat} (hp : p < m) : p ∈ ps := by
  apply Classical.byContradiction
  intro z
  have h0 : held.getD p 0 = 0 := by
    apply Nat.eq_of_testBit_eq
    intro i
    rw [Nat.zero_testBit]
    by_cases hi : i < m
    · exact G.col0 hi hp z
    · exact Nat.testBit_lt_two_pow (Nat.lt_of_lt_of_le (G.lt p) (Nat.pow_le_pow_right (by decide) (by omega)))
  exact full_free G.full hp (by rw [h0]; exact .zero)
theorem GJ.chn_lt (G : GJ m m rows held ps und) {p : Nat} (hp : p < m) : chn ps p < m := by
  have := List.idxOf_lt_length_iff.mpr (G.all hp)
  rw [G.pl] at this; exact this
theorem GJ.at_chn (G : GJ m m rows held ps und) {p : Nat} (hp : p < m) : ps.getD (chn ps p) 0 = p := by
  have := List.idxOf_lt_length_iff.mpr (G.all hp)
  unfold chn
  rw [getD_el this]
  exact List.getElem_idxOf this
theorem GJ.chn_inj (G : GJ m m rows held ps und) {p q : Nat} (hp : p < m) (hq : q < m) (h : chn ps p = chn ps q) : p = q := by rw [← G.at_chn hp, ← G.at_chn hq, h]
theorem GJ.last (G : GJ m m rows held ps und) {p : Nat} (hp : p < m) : held.getD p 0 = 2 ^ chn ps p := by
  apply Nat.eq_of_testBit_eq
  intro i
  rw [Nat.testBit_two_pow]
  by_cases hi : i < m
  · rw [G.col i hi p hp]
    rw [decide_eq_decide]
    constructor
    · intro e
      have hi' : i < ps.length := by rw [G.pl]; exact hi
      rw [getD_el hi'] at e
      unfold chn
      rw [← e, List.Nodup.idxOf_getElem G.nd]
    · intro e
      rw [← e]; exact G.at_chn hp
  · rw [Nat.testBit_lt_two_pow (Nat.lt_of_lt_of_le (G.lt p) (Nat.pow_le_pow_right (by decide) (by omega)))]
    have := G.chn_lt hp
    exact (decide_eq_false (by omega)).symm
theorem relabel (G : GJ m m rows held ps und) : ∀ (st : List (Nat × Nat)) (X Y : List Nat), X.length = m → Y.length = m → (∀ s ∈ st, StepOk m s) → (∀ p, p < m → Y.getD (chn ps p) 0 = X.getD p 0) →
    ∀ p, p < m → ((st.map fun s => (chn ps s.1, chn ps s.2)).foldl stepC Y).getD (chn ps p) 0 = (st.foldl stepC X).getD p 0
  | [], X, Y, _, _, _, h, p, hp => h p hp
  | s :: st, X, Y, hX, hY, ho, h, p, hp => by
    rw [List.map_cons, List.foldl_cons, List.foldl_cons]
    obtain ⟨o1, o2, o3⟩ := ho s (.head _)
    refine relabel G st (stepC X s) (stepC Y (chn ps s.1, chn ps s.2)) (by rw [stepC_len]; exact hX) (by rw [stepC_len]; exact hY) (fun q hq => ho q (.tail _ hq)) (fun q hq => ?_) p hp
    unfold stepC
    simp only
    by_cases e : q = s.2
    · subst e
      rw [getD_set_same (by rw [hY]; exact G.chn_lt hq), getD_set_same (by rw [hX]; exact hq), h s.1 o1, h s.2 o2]
    · rw [getD_set_ne fun z => e (G.chn_inj hq o2 z.symm), getD_set_ne (Ne.symm e)]
      exact h q hq
def stp (ps : List Nat) (und : List (Nat × Nat)) : List (Nat × Nat) := und.reverse.map fun s => (chn ps s.1, chn ps s.2)
theorem GJ.back (G : GJ m m rows held ps und) (hr : rows.length = m) {p : Nat} (hp : p < m) : (afterN m (stp ps und)).getD (chn ps p) 0 = rows.getD p 0 := by
  unfold afterN stp
  rw [relabel G und.reverse held (ownRows m) G.full.len (own_len m) (fun s hs => G.ok s (List.mem_reverse.mp hs)) (fun q hq => ?_) p hp]
  · have := there_back (m := m) (steps := und) (cells := rows) hr G.ok
    rw [List.foldl_append, ← G.un] at this
    rw [this]
  · rw [G.last hq]
    have := G.chn_lt hq
    unfold ownRows
    rw [List.getD_eq_getElem?_getD, List.getElem?_map, List.getElem?_range this]
    show 1 <<< _ = _
    rw [Nat.shiftLeft_eq, Nat.one_mul]
end
theorem eqD_nn (a b : Nat) : eqD (nD a) (nD b) = decide (a = b) := by
  unfold eqD
  show decide ((a : Int) = (b : Int)) = _
  rw [decide_eq_decide]; omega
def T1 : List (List Nat × List (Nat × Nat)) := [([1], [])]
def C1 : List Nat := [1]
def T2 : List (List Nat × List (Nat × Nat)) := [([1, 2], []),
  ([1, 3], [(0, 1)]),
  ([3, 2], [(1, 0)]),
  ([2, 3], [(0, 1), (1, 0)]),
  ([3, 1], [(1, 0), (0, 1)]),
  ([2, 1], [(0, 1), (1, 0), (0, 1)])]
def C2 : List Nat := [1, 3, 5, 6]
def T3 : List (List Nat × List (Nat × Nat)) := [([1, 2, 4], []),
  ([1, 3, 4], [(0, 1)]),
  ([1, 2, 5], [(0, 2)]),
  ([3, 2, 4], [(1, 0)]),
  ([1, 2, 6], [(1, 2)]),
  ([5, 2, 4], [(2, 0)]),
  ([1, 6, 4], [(2, 1)]),
  ([1, 3, 5], [(0, 1), (0, 2)]),
  ([2, 3, 4], [(0, 1), (1, 0)]),
  ([1, 3, 7], [(0, 1), (1, 2)]),
  ([5, 3, 4], [(0, 1), (2, 0)]),
  ([1, 7, 4], [(0, 1), (2, 1)]),
  ([3, 2, 5], [(0, 2), (1, 0)]),
  ([1, 2, 7], [(0, 2), (1, 2)]),
  ([4, 2, 5], [(0, 2), (2, 0)]),
  ([1, 7, 5], [(0, 2), (2, 1)]),
  ([3, 1, 4], [(1, 0), (0, 1)]),
  ([3, 2, 7], [(1, 0), (0, 2)]),
  ([3, 2, 6], [(1, 0), (1, 2)]),
  ([7, 2, 4], [(1, 0), (2, 0)]),
  ([3, 6, 4], [(1, 0), (2, 1)]),
  ([1, 3, 6], [(1, 2), (0, 1)]),
  ([7, 2, 6], [(1, 2), (2, 0)]),
  ([1, 4, 6], [(1, 2), (2, 1)]),
  ([5, 7, 4], [(2, 0), (0, 1)]),
  ([5, 2, 1], [(2, 0), (0, 2)]),
  ([5, 2, 6], [(2, 0), (1, 2)]),
  ([5, 6, 4], [(2, 0), (2, 1)]),
  ([1, 6, 5], [(2, 1), (0, 2)]),
  ([7, 6, 4], [(2, 1), (1, 0)]),
  ([1, 6, 2], [(2, 1), (1, 2)]),
  ([2, 3, 5], [(0, 1), (0, 2), (1, 0)]),
  ([4, 3, 5], [(0, 1), (0, 2), (2, 0)]),
  ([2, 1, 4], [(0, 1), (1, 0), (0, 1)]),
  ([2, 3, 6], [(0, 1), (1, 0), (0, 2)]),
  ([2, 3, 7], [(0, 1), (1, 0), (1, 2)]),
  ([6, 3, 4], [(0, 1), (1, 0), (2, 0)]),
  ([2, 7, 4], [(0, 1), (1, 0), (2, 1)]),
  ([6, 3, 7], [(0, 1), (1, 2), (2, 0)]),
  ([1, 4, 7], [(0, 1), (1, 2), (2, 1)]),
  ([5, 3, 1], [(0, 1), (2, 0), (0, 2)]),
  ([5, 3, 7], [(0, 1), (2, 0), (1, 2)]),
  ([6, 7, 4], [(0, 1), (2, 1), (1, 0)]),
  ([1, 7, 3], [(0, 1), (2, 1), (1, 2)]),
  ([3, 1, 5], [(0, 2), (1, 0), (0, 1)]),
  ([6, 2, 5], [(0, 2), (1, 0), (2, 0)]),
  ([3, 7, 5], [(0, 2), (1, 0), (2, 1)]),
  ([6, 2, 7], [(0, 2), (1, 2), (2, 0)]),
  ([1, 5, 7], [(0, 2), (1, 2), (2, 1)]),
  ([4, 6, 5], [(0, 2), (2, 0), (0, 1)]),
  ([4, 2, 1], [(0, 2), (2, 0), (0, 2)]),
  ([4, 2, 7], [(0, 2), (2, 0), (1, 2)]),
  ([4, 7, 5], [(0, 2), (2, 0), (2, 1)]),
  ([6, 7, 5], [(0, 2), (2, 1), (1, 0)]),
  ([1, 7, 2], [(0, 2), (2, 1), (1, 2)]),
  ([3, 1, 7], [(1, 0), (0, 1), (0, 2)]),
  ([7, 1, 4], [(1, 0), (0, 1), (2, 0)]),
  ([3, 5, 4], [(1, 0), (0, 1), (2, 1)]),
  ([3, 5, 7], [(1, 0), (0, 2), (2, 1)]),
  ([3, 1, 6], [(1, 0), (1, 2), (0, 1)]),
  ([3, 4, 6], [(1, 0), (1, 2), (2, 1)]),
  ([7, 5, 4], [(1, 0), (2, 0), (0, 1)]),
  ([7, 2, 3], [(1, 0), (2, 0), (0, 2)]),
  ([3, 6, 7], [(1, 0), (2, 1), (0, 2)]),
  ([3, 6, 2], [(1, 0), (2, 1), (1, 2)]),
  ([7, 3, 6], [(1, 2), (0, 1), (2, 0)]),
  ([1, 5, 6], [(1, 2), (0, 1), (2, 1)]),
  ([7, 5, 6], [(1, 2), (2, 0), (0, 1)]),
  ([7, 2, 1], [(1, 2), (2, 0), (0, 2)]),
  ([7, 4, 6], [(1, 2), (2, 0), (2, 1)]),
  ([5, 4, 6], [(1, 2), (2, 1), (1, 0)]),
  ([1, 4, 2], [(1, 2), (2, 1), (1, 2)]),
  ([5, 7, 1], [(2, 0), (0, 1), (0, 2)]),
  ([5, 7, 3], [(2, 0), (0, 1), (1, 2)]),
  ([5, 2, 3], [(2, 0), (0, 2), (1, 2)]),
  ([5, 7, 6], [(2, 0), (1, 2), (0, 1)]),
  ([5, 6, 1], [(2, 0), (2, 1), (0, 2)]),
  ([5, 6, 2], [(2, 0), (2, 1), (1, 2)]),
  ([7, 6, 5], [(2, 1), (0, 2), (1, 0)]),
  ([1, 6, 3], [(2, 1), (0, 2), (1, 2)]),
  ([7, 6, 3], [(2, 1), (1, 0), (0, 2)]),
  ([7, 6, 2], [(2, 1), (1, 0), (1, 2)]),
  ([2, 1, 5], [(0, 1), (0, 2), (1, 0), (0, 1)]),
  ([7, 3, 5], [(0, 1), (0, 2), (1, 0), (2, 0)]),
  ([2, 6, 5], [(0, 1), (0, 2), (1, 0), (2, 1)]),
  ([4, 3, 1], [(0, 1), (0, 2), (2, 0), (0, 2)]),
  ([4, 3, 6], [(0, 1), (0, 2), (2, 0), (1, 2)]),
  ([2, 1, 6], [(0, 1), (1, 0), (0, 1), (0, 2)]),
  ([6, 1, 4], [(0, 1), (1, 0), (0, 1), (2, 0)]),
  ([2, 5, 4], [(0, 1), (1, 0), (0, 1), (2, 1)]),
  ([2, 5, 6], [(0, 1), (1, 0), (0, 2), (2, 1)]),
  ([2, 1, 7], [(0, 1), (1, 0), (1, 2), (0, 1)]),
  ([2, 4, 7], [(0, 1), (1, 0), (1, 2), (2, 1)]),
  ([6, 5, 4], [(0, 1), (1, 0), (2, 0), (0, 1)]),
  ([6, 3, 2], [(0, 1), (1, 0), (2, 0), (0, 2)]),
  ([2, 7, 6], [(0, 1), (1, 0), (2, 1), (0, 2)]),
  ([2, 7, 3], [(0, 1), (1, 0), (2, 1), (1, 2)]),
  ([6, 5, 7], [(0, 1), (1, 2), (2, 0), (0, 1)]),
  ([6, 3, 1], [(0, 1), (1, 2), (2, 0), (0, 2)]),
  ([6, 4, 7], [(0, 1), (1, 2), (2, 0), (2, 1)]),
  ([5, 4, 7], [(0, 1), (1, 2), (2, 1), (1, 0)]),
  ([1, 4, 3], [(0, 1), (1, 2), (2, 1), (1, 2)]),
  ([5, 3, 2], [(0, 1), (2, 0), (0, 2), (1, 2)]),
  ([5, 6, 7], [(0, 1), (2, 0), (1, 2), (0, 1)]),
  ([6, 7, 2], [(0, 1), (2, 1), (1, 0), (0, 2)]),
  ([6, 7, 3], [(0, 1), (2, 1), (1, 0), (1, 2)]),
  ([6, 1, 5], [(0, 2), (1, 0), (0, 1), (2, 0)]),
  ([3, 4, 5], [(0, 2), (1, 0), (0, 1), (2, 1)]),
  ([6, 4, 5], [(0, 2), (1, 0), (2, 0), (0, 1)]),
  ([6, 2, 3], [(0, 2), (1, 0), (2, 0), (0, 2)]),
  ([3, 7, 6], [(0, 2), (1, 0), (2, 1), (0, 2)]),
  ([3, 7, 2], [(0, 2), (1, 0), (2, 1), (1, 2)]),
  ([6, 2, 1], [(0, 2), (1, 2), (2, 0), (0, 2)]),
  ([4, 5, 7], [(0, 2), (1, 2), (2, 1), (1, 0)]),
  ([1, 5, 2], [(0, 2), (1, 2), (2, 1), (1, 2)]),
  ([4, 6, 1], [(0, 2), (2, 0), (0, 1), (0, 2)]),
  ([4, 6, 3], [(0, 2), (2, 0), (0, 1), (1, 2)]),
  ([4, 2, 3], [(0, 2), (2, 0), (0, 2), (1, 2)]),
  ([4, 6, 7], [(0, 2), (2, 0), (1, 2), (0, 1)]),
  ([4, 7, 1], [(0, 2), (2, 0), (2, 1), (0, 2)]),
  ([4, 7, 2], [(0, 2), (2, 0), (2, 1), (1, 2)]),
  ([4, 1, 7], [(1, 0), (0, 1), (0, 2), (2, 0)]),
  ([7, 1, 3], [(1, 0), (0, 1), (2, 0), (0, 2)]),
  ([7, 1, 5], [(1, 0), (0, 1), (2, 0), (1, 2)]),
  ([3, 5, 1], [(1, 0), (0, 1), (2, 1), (1, 2)]),
  ([3, 5, 2], [(1, 0), (0, 2), (2, 1), (1, 2)]),
  ([5, 1, 6], [(1, 0), (1, 2), (0, 1), (2, 0)]),
  ([3, 4, 2], [(1, 0), (1, 2), (2, 1), (1, 2)]),
  ([7, 5, 3], [(1, 0), (2, 0), (0, 1), (0, 2)]),
  ([7, 5, 1], [(1, 0), (2, 0), (0, 1), (1, 2)]),
  ([3, 6, 1], [(1, 0), (2, 1), (0, 2), (1, 2)]),
  ([7, 3, 1], [(1, 2), (0, 1), (2, 0), (0, 2)]),
  ([4, 5, 6], [(1, 2), (0, 1), (2, 1), (1, 0)]),
  ([1, 5, 3], [(1, 2), (0, 1), (2, 1), (1, 2)]),
  ([7, 4, 1], [(1, 2), (2, 0), (2, 1), (0, 2)]),
  ([7, 4, 2], [(1, 2), (2, 0), (2, 1), (1, 2)]),
  ([5, 4, 3], [(1, 2), (2, 1), (1, 0), (0, 2)]),
  ([5, 4, 2], [(1, 2), (2, 1), (1, 0), (1, 2)]),
  ([2, 7, 1], [(2, 0), (0, 1), (0, 2), (1, 0)]),
  ([5, 1, 3], [(2, 0), (0, 2), (1, 2), (2, 1)]),
  ([2, 6, 3], [(2, 1), (0, 2), (1, 2), (2, 0)]),
  ([7, 1, 2], [(2, 1), (1, 0), (1, 2), (0, 1)]),
  ([2, 4, 5], [(0, 1), (0, 2), (1, 0), (0, 1), (2, 1)]),
  ([7, 4, 5], [(0, 1), (0, 2), (1, 0), (2, 0), (0, 1)]),
  ([7, 3, 2], [(0, 1), (0, 2), (1, 0), (2, 0), (0, 2)]),
  ([2, 6, 7], [(0, 1), (0, 2), (1, 0), (2, 1), (0, 2)]),
  ([4, 3, 2], [(0, 1), (0, 2), (2, 0), (0, 2), (1, 2)]),
  ([4, 7, 6], [(0, 1), (0, 2), (2, 0), (1, 2), (0, 1)]),
  ([4, 1, 6], [(0, 1), (1, 0), (0, 1), (0, 2), (2, 0)]),
  ([6, 1, 2], [(0, 1), (1, 0), (0, 1), (2, 0), (0, 2)]),
  ([2, 5, 1], [(0, 1), (1, 0), (0, 1), (2, 1), (1, 2)]),
  ([2, 5, 3], [(0, 1), (1, 0), (0, 2), (2, 1), (1, 2)]),
  ([5, 1, 7], [(0, 1), (1, 0), (1, 2), (0, 1), (2, 0)]),
  ([2, 4, 3], [(0, 1), (1, 0), (1, 2), (2, 1), (1, 2)]),
  ([6, 5, 2], [(0, 1), (1, 0), (2, 0), (0, 1), (0, 2)]),
  ([6, 5, 1], [(0, 1), (1, 0), (2, 0), (0, 1), (1, 2)]),
  ([6, 4, 1], [(0, 1), (1, 2), (2, 0), (2, 1), (0, 2)]),
  ([6, 4, 3], [(0, 1), (1, 2), (2, 0), (2, 1), (1, 2)]),
  ([5, 1, 2], [(0, 1), (2, 0), (0, 2), (1, 2), (2, 1)]),
  ([6, 1, 3], [(0, 1), (2, 1), (1, 0), (1, 2), (0, 1)]),
  ([3, 4, 1], [(0, 2), (1, 0), (0, 1), (2, 1), (1, 2)]),
  ([3, 7, 1], [(0, 2), (1, 0), (2, 1), (0, 2), (1, 2)]),
  ([4, 5, 3], [(0, 2), (1, 2), (2, 1), (1, 0), (0, 2)]),
  ([4, 5, 2], [(0, 2), (1, 2), (2, 1), (1, 0), (1, 2)]),
  ([2, 6, 1], [(0, 2), (2, 0), (0, 1), (0, 2), (1, 0)]),
  ([4, 1, 3], [(0, 2), (2, 0), (0, 2), (1, 2), (2, 1)]),
  ([2, 4, 1], [(0, 1), (0, 2), (1, 0), (0, 1), (2, 1), (1, 2)]),
  ([4, 1, 2], [(0, 1), (0, 2), (2, 0), (0, 2), (1, 2), (2, 1)])]
def C3 : List Nat := [1, 7, 31, 82, 142, 166, 168]
def TB (m : Nat) : List (List Nat × List (Nat × Nat)) := if m = 1 then T1 else if m = 2 then T2 else T3
def CB (m : Nat) : List Nat := if m = 1 then C1 else if m = 2 then C2 else C3
def eqL : List Nat → List Nat → Bool
  | [], [] => true
  | a :: as, b :: bs => Nat.beq a b && eqL as bs
  | _, _ => false
theorem eqL_iff : ∀ {as bs : List Nat}, eqL as bs = true ↔ as = bs
  | [], [] => by simp [eqL]
  | a :: as, b :: bs => by unfold eqL; rw [Bool.and_eq_true, eqL_iff, Nat.beq_eq, List.cons.injEq]
  | [], _ :: _ => by simp [eqL]
  | _ :: _, [] => by simp [eqL]
def ixT : List (List Nat × List (Nat × Nat)) → List Nat → Nat
  | [], _ => 0
  | e :: t, c => match eqL e.1 c with | true => 0 | false => ixT t c + 1
def lkT : List (List Nat × List (Nat × Nat)) → List Nat → Option (List (Nat × Nat))
  | [], _ => none
  | e :: t, c => match eqL e.1 c with | true => some e.2 | false => lkT t c
def allS (m : Nat) : List (Nat × Nat) := (List.range m).flatMap fun a => ((List.range m).filter fun b => !(a == b)).map fun b => (a, b)
theorem lkT_ix : ∀ {t : List (List Nat × List (Nat × Nat))} {c : List Nat}, lkT t c = (t[ixT t c]?).map Prod.snd
  | [], _ => rfl
  | e :: t, c => by
    unfold lkT ixT
    cases h : eqL e.1 c with
    | true => rfl
    | false => exact lkT_ix
theorem lkT_take : ∀ {t : List (List Nat × List (Nat × Nat))} {c : List Nat} {n : Nat}, lkT (t.take n) c = if ixT t c < n then lkT t c else none
  | [], c, n => by simp [lkT]
  | e :: t, c, 0 => by simp [lkT]
  | e :: t, c, n + 1 => by
    rw [List.take_succ_cons]
    unfold lkT ixT
    cases h : eqL e.1 c with
    | true => simp
    | false =>
      show lkT (t.take n) c = if ixT t c + 1 < n + 1 then lkT t c else none
      rw [lkT_take (t := t)]
      by_cases q : ixT t c < n
      · rw [if_pos q, if_pos (by omega)]
      · rw [if_neg q, if_neg (by omega)]
theorem ixT_at : ∀ {t : List (List Nat × List (Nat × Nat))} {c : List Nat} {e : List Nat × List (Nat × Nat)}, t[ixT t c]? = some e → e.1 = c
  | [], _, _, h => by cases h
  | e0 :: t, c, e, h => by
    unfold ixT at h
    cases q : eqL e0.1 c with
    | true => rw [q] at h; cases h; exact eqL_iff.mp q
    | false => rw [q] at h; exact ixT_at h
def adv (t : List (List Nat × List (Nat × Nat))) (cells : List Nat) (o : Option Nat) (p : Nat × Nat) : Option Nat :=
  match o with
  | none => none
  | some n => (match Nat.blt (ixT t (stepC cells p)) n with
    | true => some n
    | false => (match Nat.beq (ixT t (stepC cells p)) n && (decide (lkT t (stepC cells p) = some ((lkT t cells).getD [] ++ [p])) && Nat.blt (ixT t cells) n) with
      | true => some (n + 1)
      | false => none))
def advC (m : Nat) (t : List (List Nat × List (Nat × Nat))) (o : Option Nat) (cells : List Nat) : Option Nat := (allS m).foldl (adv t cells) o
def RB (m k : Nat) : List (List Nat) := (((TB m).take ((CB m).getD k 0)).drop (if k = 0 then 0 else (CB m).getD (k - 1) 0)).map Prod.fst
def okB (m k : Nat) : Bool := decide ((RB m k).foldl (advC m (TB m)) (some ((CB m).getD k 0)) = some ((CB m).getD (k + 1) 0))
theorem ok2 : ∀ k, k < 3 → okB 2 k = true := by decide +kernel
theorem ok3 : ∀ k, k < 6 → okB 3 k = true := by decide +kernel
def fctB (m : Nat) : Bool := (TB m).all fun e => decide (afterN m e.2 = e.1) && ((e.2.all fun p => (allS m).contains p) && (decide (e.1.length = m) && (match lkT (TB m) (afterN m e.2.reverse) with | some w => Nat.beq w.length e.2.length | none => false) && (allS m).all fun p => match lkT (TB m) (stepC e.1 p) with | some w => Nat.ble w.length (e.2.length + 1) && Nat.ble e.2.length (w.length + 1) | none => false))
theorem fct1 : fctB 1 = true := by decide +kernel
theorem fct2 : fctB 2 = true := by decide +kernel
theorem fct3 : fctB 3 = true := by decide +kernel
def al8 (P : Nat → Bool) : Bool := (List.range 8).all P
theorem mem3 : (al8 fun a => al8 fun b => al8 fun c => Nat.beq a 0 || (Nat.beq b 0 || (Nat.beq b a || (Nat.beq c 0 || (Nat.beq c a || (Nat.beq c b || (Nat.beq c (a ^^^ b) || (lkT T3 [a, b, c]).isSome)))))) ) = true := by decide +kernel
theorem mem2 : ((List.range 4).all fun a => (List.range 4).all fun b => Nat.beq a 0 || (Nat.beq b 0 || (Nat.beq b a || (lkT T2 [a, b]).isSome))) = true := by decide +kernel
end K64
set_option Elab.async false
set_option linter.all false
set_option maxRecDepth 100000
set_option maxHeartbeats 1000000
namespace K64
open PySem PySem.Spec PyProof.Rows L2
theorem fold_no {α : Type} (f : Option Nat → α → Option Nat) (hf : ∀ x, f none x = none) : ∀ xs : List α, xs.foldl f none = none
  | [] => rfl
  | x :: xs => by rw [List.foldl_cons, hf]; exact fold_no f hf xs
theorem fold_next {α : Type} {f : Option Nat → α → Option Nat} (hf : ∀ x, f none x = none) : ∀ {xs : List α} {o : Option Nat} {j : Nat} {x : α} {n r : Nat}, xs.foldl f o = some r → xs[j]? = some x → (xs.take j).foldl f o = some n → ∃ n', f (some n) x = some n' ∧ (xs.take (j + 1)).foldl f o = some n'
  | [], _, _, _, _, _, _, hj, _ => by cases hj
  | y :: ys, o, 0, x, n, r, h, hj, hn => by
    have ex : y = x := Option.some.inj hj
    have e : o = some n := hn
    subst e ex
    rw [List.foldl_cons] at h
    cases q : f (some n) y with
    | none => rw [q, fold_no f hf] at h; cases h
    | some n' => exact ⟨n', rfl, by show f (some n) y = _; exact q⟩
  | y :: ys, o, j + 1, x, n, r, h, hj, hn => fold_next hf (xs := ys) (o := f o y) h hj hn
theorem adv_no (t : List (List Nat × List (Nat × Nat))) (cells : List Nat) (p : Nat × Nat) : adv t cells none p = none := rfl
theorem advC_no (m : Nat) (t : List (List Nat × List (Nat × Nat))) (cells : List Nat) : advC m t none cells = none := fold_no _ (adv_no t cells) _
theorem adv_ok {t : List (List Nat × List (Nat × Nat))} {cells : List Nat} {n n' : Nat} {p : Nat × Nat} (h : adv t cells (some n) p = some n') :
    (ixT t (stepC cells p) < n ∧ n' = n) ∨ (ixT t (stepC cells p) = n ∧ lkT t (stepC cells p) = some ((lkT t cells).getD [] ++ [p]) ∧ ixT t cells < n ∧ n' = n + 1) := by
  unfold adv at h
  simp only at h
  split at h
  · rename_i q
    exact .inl ⟨by rw [Nat.blt_eq] at q; exact q, by cases h; rfl⟩
  · split at h
    · rename_i q
      rw [Bool.and_eq_true, Bool.and_eq_true, Nat.beq_eq, decide_eq_true_eq, Nat.blt_eq] at q
      exact .inr ⟨q.1, q.2.1, q.2.2, by cases h; rfl⟩
    · cases h
abbrev TT := List (List Nat × List (Nat × Nat))
def kyN (c : List Nat) : List Key := c.map fun x => .inl ((x : Nat) : Int)
def tupN (c : List Nat) : D := .tup (natsD c)
def wyD (w : List (Nat × Nat)) : D := .lst (w.map L2.pairD)
def dtW (t : TT) : List (List Key × D) := t.map fun e => (kyN e.1, wyD e.2)
theorem kyN_inj : ∀ {a b : List Nat}, kyN a = kyN b → a = b
  | [], [], _ => rfl
  | x :: a, y :: b, h => by
    unfold kyN at h
    rw [List.map_cons, List.map_cons, List.cons.injEq] at h
    obtain ⟨h1, h2⟩ := h
    injection h1 with h1
    rw [kyN_inj h2, Int.ofNat.inj h1]
  | [], _ :: _, h => by cases h
  | _ :: _, [], h => by cases h
theorem keyT_n (c : List Nat) : keyT (tupN c) = some (kyN c) := by
  show keysD' (natsD c) = _
  induction c with
  | nil => rfl
  | cons x c ih =>
    show (match dKey (nD x), keysD' (natsD c) with | some k, some ks => some (k :: ks) | _, _ => none) = _
    rw [ih]; rfl
theorem dtW_val (c : List Nat) : ∀ t : TT, valD (dtW t) (kyN c) = (lkT t c).map wyD
  | [] => rfl
  | e :: t => by
    have ih := dtW_val c t
    unfold valD dtW at *
    unfold lkT
    rw [List.map_cons, List.find?_cons]
    cases h : eqL e.1 c with
    | true =>
      have h1 : decide (kyN e.1 = kyN c) = true := decide_eq_true (by rw [eqL_iff.mp h])
      simp only [h1]; rfl
    | false =>
      have h1 : decide (kyN e.1 = kyN c) = false := decide_eq_false fun q => by rw [eqL_iff.mpr (kyN_inj q)] at h; cases h
      simp only [h1]; exact ih
theorem dtW_len (t : TT) : (dtW t).length = t.length := by unfold dtW; rw [List.length_map]
theorem dtW_put {t : TT} {c : List Nat} {w : List (Nat × Nat)} (h : lkT t c = none) : putD (dtW t) (kyN c) (wyD w) = dtW (t ++ [(c, w)]) := by
  have hv : valD (dtW t) (kyN c) = none := by rw [dtW_val, h]; rfl
  have ha : ((dtW t).any fun kv => decide (kv.1 = kyN c)) = false := by
    unfold valD at hv
    rw [Option.map_eq_none_iff, List.find?_eq_none] at hv
    rw [List.any_eq_false]; exact hv
  unfold putD
  rw [if_neg (by rw [ha]; decide)]
  unfold dtW
  rw [List.map_append]; rfl
def nwl (t : TT) (c n : Nat) : List (List Nat) := ((t.take n).drop c).map Prod.fst
theorem tk_next {t : TT} {c : List Nat} {w : List (Nat × Nat)} {n : Nat} (hi : ixT t c = n) (hl : lkT t c = some w) : t.take (n + 1) = t.take n ++ [(c, w)] := by
  rw [lkT_ix, hi] at hl
  obtain ⟨e, he, rfl⟩ := Option.map_eq_some_iff.mp hl
  have e1 := ixT_at (t := t) (c := c) (by rw [hi]; exact he)
  rw [List.take_add_one, he, Option.toList_some, ← e1]
theorem nwl_next {t : TT} {c : List Nat} {w : List (Nat × Nat)} {n k : Nat} (hi : ixT t c = n) (hl : lkT t c = some w) (hk : k ≤ n) : nwl t k (n + 1) = nwl t k n ++ [c] := by
  have hn : n < t.length := by
    rw [lkT_ix, hi] at hl
    obtain ⟨e, he, _⟩ := Option.map_eq_some_iff.mp hl
    exact (List.getElem?_eq_some_iff.mp he).1
  unfold nwl
  rw [tk_next hi hl, List.drop_append_of_le_length (by rw [List.length_take]; omega), List.map_append]; rfl
theorem lk_tk {t : TT} {c : List Nat} {n : Nat} (h : ixT t c < n) : lkT (t.take n) c = lkT t c := by rw [lkT_take, if_pos h]
theorem lk_tk0 {t : TT} {c : List Nat} {n : Nat} (h : ixT t c = n) : lkT (t.take n) c = none := by rw [lkT_take, if_neg (by omega)]
theorem mem_allS {m : Nat} {p : Nat × Nat} : p ∈ allS m ↔ StepOk m p := by
  unfold allS StepOk
  rw [List.mem_flatMap]
  constructor
  · rintro ⟨a, ha, hb⟩
    obtain ⟨b, hb', rfl⟩ := List.mem_map.mp hb
    obtain ⟨h1, h2⟩ := List.mem_filter.mp hb'
    exact ⟨List.mem_range.mp ha, List.mem_range.mp h1, fun z => by simp at h2; exact h2 z⟩
  · rintro ⟨h1, h2, h3⟩
    exact ⟨p.1, List.mem_range.mpr h1, List.mem_map.mpr ⟨p.2, List.mem_filter.mpr ⟨List.mem_range.mpr h2, by simpa using h3⟩, rfl⟩⟩
structure Fct (m : Nat) : Prop where
  af : ∀ e ∈ TB m, afterN m e.2 = e.1
  st : ∀ e ∈ TB m, ∀ p ∈ e.2, StepOk m p
  ln : ∀ e ∈ TB m, e.1.length = m
  bk : ∀ e ∈ TB m, ∃ w, lkT (TB m) (afterN m e.2.reverse) = some w ∧ w.length = e.2.length
  nx : ∀ e ∈ TB m, ∀ p, StepOk m p → ∃ w, lkT (TB m) (stepC e.1 p) = some w ∧ w.length ≤ e.2.length + 1 ∧ e.2.length ≤ w.length + 1
theorem fct_of {m : Nat} (h : fctB m = true) : Fct m := by
  unfold fctB at h
  rw [List.all_eq_true] at h
  refine ⟨fun e he => ?_, fun e he p hp => ?_, fun e he => ?_, fun e he => ?_, fun e he p hp => ?_⟩
  all_goals
    have := h e he
    rw [Bool.and_eq_true, Bool.and_eq_true, Bool.and_eq_true, Bool.and_eq_true, decide_eq_true_eq, decide_eq_true_eq] at this
    obtain ⟨a, b, ⟨c, d⟩, f⟩ := this
  · exact a
  · rw [List.all_eq_true] at b
    exact mem_allS.mp (List.contains_iff_mem.mp (b p hp))
  · exact c
  · split at d
    · rename_i w hw; exact ⟨w, hw, by rwa [Nat.beq_eq] at d⟩
    · cases d
  · rw [List.all_eq_true] at f
    have := f p (mem_allS.mpr hp)
    split at this
    · rename_i w hw
      rw [Bool.and_eq_true, Nat.ble_eq, Nat.ble_eq] at this
      exact ⟨w, hw, this⟩
    · cases this
theorem fct {m : Nat} (h1 : 1 ≤ m) (h3 : m ≤ 3) : Fct m := by
  match m, h1, h3 with
  | 1, _, _ => exact fct_of fct1
  | 2, _, _ => exact fct_of fct2
  | 3, _, _ => exact fct_of fct3
theorem lk_mem : ∀ {t : TT} {c : List Nat} {w : List (Nat × Nat)}, lkT t c = some w → (c, w) ∈ t
  | [], _, _, h => by cases h
  | e :: t, c, w, h => by
    unfold lkT at h
    cases q : eqL e.1 c with
    | true => rw [q] at h; cases h; rw [← eqL_iff.mp q]; exact .head _
    | false => rw [q] at h; exact .tail _ (lk_mem h)
theorem lk_ix {t : TT} {c : List Nat} {w : List (Nat × Nat)} (h : lkT t c = some w) : ixT t c < t.length := by
  rw [lkT_ix] at h
  obtain ⟨e, he, _⟩ := Option.map_eq_some_iff.mp h
  exact (List.getElem?_eq_some_iff.mp he).1
theorem few_le {m : Nat} (F : Fct m) : ∀ (steps : List (Nat × Nat)) {c : List Nat} {w : List (Nat × Nat)}, lkT (TB m) c = some w → (∀ p ∈ steps, StepOk m p) → ∃ w', lkT (TB m) (steps.foldl stepC c) = some w' ∧ w'.length ≤ w.length + steps.length
  | [], c, w, h, _ => ⟨w, h, Nat.le_refl _⟩
  | p :: steps, c, w, h, ok => by
    obtain ⟨w1, h1, h2, _⟩ := F.nx _ (lk_mem h) p (ok p (.head _))
    obtain ⟨w2, h3, h4⟩ := few_le F steps h1 fun q hq => ok q (.tail _ hq)
    have h2 : w1.length ≤ w.length + 1 := h2
    exact ⟨w2, h3, by rw [List.length_cons]; omega⟩
theorem own_lk {m : Nat} (h1 : 1 ≤ m) (h3 : m ≤ 3) : lkT (TB m) (ownRows m) = some [] := by
  match m, h1, h3 with
  | 1, _, _ => decide
  | 2, _, _ => decide
  | 3, _, _ => decide
theorem full_lk {m : Nat} (h1 : 1 ≤ m) (h3 : m ≤ 3) {rows : List Nat} (F : Full m rows) (lt : ∀ p, rows.getD p 0 < 2 ^ m) : ∃ w, lkT (TB m) rows = some w := by
  have hl := F.len
  match m, h1, h3, rows, hl with
  | 1, _, _, [a], _ => 
    have a0 : a ≠ 0 := fun z => full_row F (i := 0) (by decide) (by subst z; exact .zero)
    have a1 : a < 2 := lt 0
    have : a = 1 := by omega
    subst this
    exact ⟨_, rfl⟩
  | 2, _, _, [a, b], _ =>
    have a0 : a ≠ 0 := fun z => full_row F (i := 0) (by decide) (by subst z; exact .zero)
    have b0 : b ≠ 0 := fun z => full_row F (i := 1) (by decide) (by subst z; exact .zero)
    have b1 : b ≠ a := fun z => full_row F (i := 1) (by decide) (by subst z; exact .mem (.head _))
    have al : a < 4 := lt 0
    have bl : b < 4 := lt 1
    have := mem2
    rw [List.all_eq_true] at this
    have := this a (List.mem_range.mpr al)
    rw [List.all_eq_true] at this
    have := this b (List.mem_range.mpr bl)
    simp only [Bool.or_eq_true, Nat.beq_eq] at this
    rcases this with z | z | z | z
    · exact (a0 z).elim
    · exact (b0 z).elim
    · exact (b1 z).elim
    · exact Option.isSome_iff_exists.mp z
  | 3, _, _, [a, b, c], _ =>
    have a0 : a ≠ 0 := fun z => full_row F (i := 0) (by decide) (by subst z; exact .zero)
    have b0 : b ≠ 0 := fun z => full_row F (i := 1) (by decide) (by subst z; exact .zero)
    have b1 : b ≠ a := fun z => full_row F (i := 1) (by decide) (by subst z; exact .mem (.head _))
    have c0 : c ≠ 0 := fun z => full_row F (i := 2) (by decide) (by subst z; exact .zero)
    have c1 : c ≠ a := fun z => full_row F (i := 2) (by decide) (by subst z; exact .mem (.head _))
    have c2 : c ≠ b := fun z => full_row F (i := 2) (by decide) (by subst z; exact .mem (.tail _ (.head _)))
    have c3 : c ≠ a ^^^ b := fun z => full_row F (i := 2) (by decide) (by subst z; exact Spn.xor (.mem (.head _)) (.mem (.tail _ (.head _))))
    have al : a < 8 := lt 0
    have bl : b < 8 := lt 1
    have cl : c < 8 := lt 2
    have := mem3
    unfold al8 at this
    rw [List.all_eq_true] at this
    have := this a (List.mem_range.mpr al)
    rw [List.all_eq_true] at this
    have := this b (List.mem_range.mpr bl)
    rw [List.all_eq_true] at this
    have := this c (List.mem_range.mpr cl)
    simp only [Bool.or_eq_true, Nat.beq_eq] at this
    rcases this with z | z | z | z | z | z | z | z
    · exact (a0 z).elim
    · exact (b0 z).elim
    · exact (b1 z).elim
    · exact (c0 z).elim
    · exact (c1 z).elim
    · exact (c2 z).elim
    · exact (c3 z).elim
    · exact Option.isSome_iff_exists.mp z
theorem lk_full {m : Nat} (F : Fct m) {c : List Nat} {w : List (Nat × Nat)} (h : lkT (TB m) c = some w) : Full m c := by
  have := full_steps (full_own m) (F.st _ (lk_mem h))
  have e := F.af _ (lk_mem h)
  unfold afterN at e
  rw [e] at this
  exact this
theorem rounds {m k : Nat} (h1 : 1 ≤ m) (h3 : m ≤ 3) (hk : k + 1 < (CB m).length) : okB m k = true := by
  match m, h1, h3 with
  | 1, _, _ => exact absurd hk (by show ¬ (k + 1 < 1); omega)
  | 2, _, _ => exact ok2 k (by have : k + 1 < 4 := hk; omega)
  | 3, _, _ => exact ok3 k (by have : k + 1 < 7 := hk; omega)
end K64
set_option Elab.async false
set_option linter.all false
set_option maxRecDepth 100000
set_option maxHeartbeats 1000000
namespace K64
open PySem PySem.Spec PyProof.Rows L2
def wishD (m : Nat) (rows : List Nat) : D := .tup [nD m, .tup (natsD rows)]
def SLeadsT : ASp := fun ss q => ∃ rows : List Nat, ss = [.vl (.tup (natsD rows))] ∧ rows.length ≤ 30 ∧ ∀ ls, LOk rows rows.length ls → q (.n (.dk (dl ls))) [.vl (.tup (natsD rows))]
def SBasisT : ASp := fun ss q => ∃ rows : List Nat, ss = [.vl (.tup (natsD rows))] ∧ rows.length ≤ 30 ∧ ∀ ls, LOk rows rows.length ls → q (.f (natsD (plc ls))) [.vl (.tup (natsD rows))]
def SUnpl : ASp := fun ss q => ∃ (m : Nat) (rows : List Nat), ss = [.vl (wishD m rows)] ∧ m ≤ 12 ∧ Full m rows ∧ q (.d .non) [.vl (wishD m rows)]
section
variable {P : Program} {w : World} {K : PySem.W.Frag} {mg : Str → Option Value} {base : Heap}
theorem ok_joined (dn : DefN K mg "joined" s_joined ["one", "other"]) (B : BI mg) : OkN P w K mg base 1 "joined" ["one", "other"] (spA K SJoined) := by
  refine dn.aok2 (k := 0) sc_joined (fun j => j == 0 || j == 1) [] SJoined rfl (fun f cdv A outer s H E hr => have hu := hu_of hr; ⟨_, (pss_one (ps_ret (pe_op op_xor (pv 0) (pv 1)))), (sok_ret (tok_op ook_int0 tok_var tok_var))⟩) ?_
  rintro ss q ⟨x, y, rfl, hq⟩
  refine ⟨rfl, rfl, ?_⟩
  show q (.d (.int (Builtin.bitXor x y))) [nv x, nv y]
  rw [xor_nat]; exact hq
theorem ok_own_rows (dn : DefN K mg "own_rows" s_own_rows ["many"]) (B : BI mg) : OkN P w K mg base 1 "own_rows" ["many"] (spA K SOwn) := by
  refine dn.aok2 (k := 0) sc_own_rows (fun j => j == 0) [] SOwn rfl (fun f cdv A outer s H E hr => have hu := hu_of hr; ⟨_, (pss_one (ps_ret (pe_comp ["given"] [] rfl (Blk.of (defScope s_own_rows) nm_own_rows) (pi_range1 rfl B.range_ (pa_cons (pv 0) pa_nil)) (fun _ _ _ _ nd => (pg_name (i := 0) nd rfl (by first | exact Or.inl rfl | exact Or.inr rfl))) (fun _ _ _ _ => pts_nil) (fun _ _ _ _ => (pe_op op_shl pe_int (pv 0)))))), (sok_ret (tok_comp (tiok_rng1 (taok_cons tok_var taok_nil)) (tgok_name rfl) ttok_all (tok_op ook_int tok_int tok_var)))⟩) ?_
  rintro ss q ⟨m, rfl, hm, hq⟩
  refine ⟨rfl, rfl, ⟨by omega, by omega⟩, by rw [rngD_len]; omega, ?_⟩
  refine compA_rng (fun k => .int (1 <<< k : Nat)) trivial (fun k acc N hk hN => ?_) ?_
  · rw [Int.zero_add]
    refine ⟨⟨by omega, by omega, by decide⟩, ?_⟩
    show N (acc ++ [.int ((1 : Int) * 2 ^ ((k : Int).toNat))]) _
    rw [shl_nat]; exact hN
  · rw [Int.toNat_natCast]
    have e : ((List.range m).map fun k => D.int (1 <<< k : Nat)) = natsD (ownRows m) := by unfold ownRows natsD; rw [List.map_map]; rfl
    rw [e]; exact hq
theorem ok_reduced (dn : DefN K mg "reduced" s_reduced ["leads", "row"]) (B : BI mg) : OkN P w K mg base 1 "reduced" ["leads", "row"] (spA K SRed) := by
  refine dn.aok2 (k := 0) sc_reduced (fun j => j == 0) [.un, .un, .un, .un] SRed rfl (fun f cdv A outer s H E hr => have hu := hu_of hr; ⟨_, (pss_cons (ps_set (i := 2) sc_reduced.nd rfl (by first | exact Or.inl rfl | exact Or.inr rfl) pe_int)
    (pss_cons (ps_while PassesOwn.never (pt_cmp (pc_din hu (pe_bm0K K PySem.F.plainAttrs_int PySem.F.slot_int_bit_length PySem.F.type_int_bit_length mt_bits (pv 1)) (pv 0)))
    (pss_cons (ps_asg (pe_dget hu (pv 0) (pe_bm0K K PySem.F.plainAttrs_int PySem.F.slot_int_bit_length PySem.F.type_int_bit_length mt_bits (pv 1)) (fun _ _ => rfl)) (pg_tupK K (n := 3) rfl (pgs_cons (pg_name (i := 3) sc_reduced.nd rfl (by first | exact Or.inl rfl | exact Or.inr rfl)) (pgs_cons (pg_name (i := 4) sc_reduced.nd rfl (by first | exact Or.inl rfl | exact Or.inr rfl)) (pgs_cons (pg_name (i := 5) sc_reduced.nd rfl (by first | exact Or.inl rfl | exact Or.inr rfl)) pgs_nil)))))
    (pss_cons (ps_aug (i := 1) sc_reduced.nd rfl (by first | exact Or.inl rfl | exact Or.inr rfl) (pv 4) iop_xor)
    (pss_one (ps_aug (i := 2) sc_reduced.nd rfl (by first | exact Or.inl rfl | exact Or.inr rfl) (pv 5) iop_xor)))))
    (pss_one (ps_ret (pe_tup (pa_cons (pv 1) (pa_cons (pv 2) pa_nil))))))), (sok_seq (sok_set tok_int rfl)
    (sok_seq (sok_while (ttok_test (tok_din (tok_bits tok_var) tok_var))
    (sok_seq (sok_asg (tok_dget tok_var (tok_bits tok_var)) (tgok_tup (tgsok_cons (tgok_name rfl) (tgsok_cons (tgok_name rfl) (tgsok_cons (tgok_name rfl) tgsok_nil (fun _ _ _ => gl_name)) (fun _ _ _ => gl_name)) (fun _ _ _ => gl_name))))
    (sok_seq (sok_aug tok_var rfl)
    (sok_aug tok_var rfl))))
    (sok_ret (tok_tup (taok_cons tok_var (taok_cons tok_var taok_nil))))))⟩) ?_
  rintro ss q ⟨rows, k, ls, row, rfl, hL, hq⟩
  refine ⟨rfl, rfl, ?_⟩
  refine cutS (fun ρ => ρ = [.dk (dl ls), nv row, nv 0, .un, .un, .un]) (fun M hM => hM _ rfl) ?_
  rintro _ rfl
  refine cutS (fun ρ => ∃ r p s3 s4 s5, Red rows k ls row r p ∧ ρ = [.dk (dl ls), nv r, nv p, s3, s4, s5]) (fun M hM => ?_) ?_
  · refine whA_inv (fun ρ => ∃ r p s3 s4 s5, r = row ^^^ xw rows p ∧ p < 2 ^ k ∧ (∀ i, p.testBit i = true → ∃ e ∈ ls, e.1 = i) ∧ Spn (rst ls) (row ^^^ r) ∧ ρ = [.dk (dl ls), nv r, nv p, s3, s4, s5]) (fun ρ => match gt ρ 1 with | .vl (.int i) => bitsN i.toNat | _ => 0) ?_ _ ⟨row, 0, .un, .un, .un, by rw [xw_zero, Nat.xor_zero], Nat.two_pow_pos _, (fun i h => absurd h (by rw [Nat.zero_testBit]; exact Bool.false_ne_true)), (by rw [Nat.xor_self]; exact .zero), rfl⟩
    rintro _ N ⟨r, p, s3, s4, s5, h1, h2, h3, h4, rfl⟩ hN
    have ev : valD (dl ls) (.inl ((Builtin.Int.intBits (r : Int) : Nat) : Int)) = (lk ls (bitsN r)).map ldD := by rw [bits_nat]; exact dl_val _ ls
    show if (valD (dl ls) (.inl ((Builtin.Int.intBits (r : Int) : Nat) : Int))).isSome = true then _ else _
    cases h : lk ls (bitsN r) with
    | none =>
      rw [ev, h]
      exact hM _ ⟨r, p, s3, s4, s5, ⟨h1, h2, h3, h, h4⟩, rfl⟩
    | some e =>
      obtain ⟨me, be⟩ := lk_some h
      have e0 := hL.ne e me
      rw [h] at ev
      rw [ev]
      show aSeq (aAsg _ _) _ _ [Sv.dk (dl ls), nv r, nv p, s3, s4, s5]
      refine cutS (fun ρ => ρ = [.dk (dl ls), nv r, nv p, nv e.1, nv e.2.1, nv e.2.2]) (fun M hM => gDGet_ok rfl ev (hM _ rfl)) ?_
      rintro _ rfl
      have w1 : Builtin.bitXor (r : Int) (e.2.1 : Int) = ((r ^^^ e.2.1 : Nat) : Int) := xor_nat _ _
      have w2 : Builtin.bitXor (p : Int) (e.2.2 : Int) = ((p ^^^ e.2.2 : Nat) : Int) := xor_nat _ _
      refine hN _ ⟨r ^^^ e.2.1, p ^^^ e.2.2, nv e.1, nv e.2.1, nv e.2.2, ?_, Nat.xor_lt_two_pow h2 (hL.lt e me), fun i hi => ?_, ?_, by rw [← nv_eq w1, ← nv_eq w2]; rfl⟩ ?_
      · rw [xw_xor, ← hL.eq e me, ← Nat.xor_assoc, ← h1]
      · rw [Nat.testBit_xor] at hi
        cases q : p.testBit i with
        | true => exact h3 i q
        | false => rw [q, Bool.false_xor] at hi; exact hL.bt e me i hi
      · rw [← Nat.xor_assoc]; exact h4.xor (.mem (List.mem_map.mpr ⟨e, me, rfl⟩))
      · show bitsN (Builtin.bitXor (r : Int) (e.2.1 : Int)).toNat < bitsN ((r : Int)).toNat
        rw [w1, Int.toNat_natCast, Int.toNat_natCast]
        exact bits_xor_eq be.symm e0
  rintro _ ⟨r, p, s3, s4, s5, R, rfl⟩
  exact ⟨by simp, hq r p R⟩
theorem ok_leads_of (dn : DefN K mg "leads_of" s_leads_of ["rows"]) (B : BI mg) (g_reduced : OkN P w K mg base 1 "reduced" ["leads", "row"] (spA K SRed)) : OkN P w K mg base 2 "leads_of" ["rows"] (spA K SLeadsT) := by
  refine dn.aok2 (k := 1) sc_leads_of (fun j => j == 0) [.un, .un, .un, .un, .un] SLeadsT rfl (fun f cdv A outer s H E hr => have hu := hu_of hr; ⟨_, (pss_cons (ps_set (i := 1) sc_leads_of.nd rfl (by first | exact Or.inl rfl | exact Or.inr rfl) pe_dnewK)
    (pss_cons (ps_for PassesOwn.never rfl (pi_enumT K rfl B.enumerate_ (pa_cons (pv 0) pa_nil)) (pg_tupK K (n := 2) rfl (pgs_cons (pg_name (i := 2) sc_leads_of.nd rfl (by first | exact Or.inl rfl | exact Or.inr rfl)) (pgs_cons (pg_name (i := 3) sc_leads_of.nd rfl (by first | exact Or.inl rfl | exact Or.inr rfl)) pgs_nil)))
    (pss_cons (ps_asg (pe_fn g_reduced (hr.mono (by decide)) (pa_cons (pv 1) (pa_cons (pv 3) pa_nil))) (pg_tupK K (n := 2) rfl (pgs_cons (pg_name (i := 4) sc_leads_of.nd rfl (by first | exact Or.inl rfl | exact Or.inr rfl)) (pgs_cons (pg_name (i := 5) sc_leads_of.nd rfl (by first | exact Or.inl rfl | exact Or.inr rfl)) pgs_nil))))
    (pss_one (ps_if (pt_truthK K (pv 4) (fun _ => rfl))
    (pss_one (ps_dput hu (pv 1) (pe_bm0K K PySem.F.plainAttrs_int PySem.F.slot_int_bit_length PySem.F.type_int_bit_length mt_bits (pv 4)) (pe_tup (pa_cons (pv 2) (pa_cons (pv 4) (pa_cons (pe_op op_xor (pv 5) (pe_op op_shl pe_int (pv 2))) pa_nil)))) rfl))
    pss_nil))))
    (pss_one (ps_ret (pv 1))))), (sok_seq (sok_set tok_dnew rfl)
    (sok_seq (sok_for (pin := (fun j => j == 0)) (tiok_enumT (taok_cons tok_var taok_nil)) (tgok_tup (tgsok_cons (tgok_name rfl) (tgsok_cons (tgok_name rfl) tgsok_nil (fun _ _ _ => gl_name)) (fun _ _ _ => gl_name)))
    (sok_seq (sok_asg (tok_call (taok_cons tok_var (taok_cons tok_var taok_nil))) (tgok_tup (tgsok_cons (tgok_name rfl) (tgsok_cons (tgok_name rfl) tgsok_nil (fun _ _ _ => gl_name)) (fun _ _ _ => gl_name))))
    (sok_if (ttok_tru tok_var)
    (sok_dput (tok_tup (taok_cons tok_var (taok_cons tok_var (taok_cons (tok_op ook_int0 tok_var (tok_op ook_int tok_int tok_var)) taok_nil)))) tok_var (tok_bits tok_var))
    sok_next)))
    (sok_ret tok_var)))⟩) ?_
  rintro ss q ⟨rows, rfl, hl, hq⟩
  refine ⟨rfl, rfl, ?_⟩
  refine cutS (fun ρ => ρ = [.vl (.tup (natsD rows)), .dk (dl []), .un, .un, .un, .un]) (fun M hM => hM _ rfl) ?_
  rintro _ rfl
  refine cutS (fun ρ => ∃ ls s2 s3 s4 s5, LOk rows rows.length ls ∧ ρ = [.vl (.tup (natsD rows)), .dk (dl ls), s2, s3, s4, s5]) (fun M hM => ?_) ?_
  · refine forA_inv (fun k ρ => ∃ ls s2 s3 s4 s5, k ≤ rows.length ∧ LOk rows k ls ∧ ρ = [.vl (.tup (natsD rows)), .dk (dl ls), s2, s3, s4, s5]) (ds := enumD 0 (natsD rows)) ?_ ?_ ?_ _ ⟨[], .un, .un, .un, .un, Nat.zero_le _, lok_nil rows, rfl⟩
    · rintro k ρ _ ⟨ls, s2, s3, s4, s5, _, _, rfl⟩; first | rfl | trivial
    · rintro k d _ M' hk ⟨ls, s2, s3, s4, s5, hkl, hL, rfl⟩ hM'
      obtain ⟨x, ex, rfl⟩ := enumD_get hk
      rw [Nat.zero_add]
      unfold natsD at ex
      rw [List.getElem?_map] at ex
      obtain ⟨row, et, rfl⟩ := Option.map_eq_some_iff.mp ex
      have eg : rows.getD k 0 = row := by rw [List.getD_eq_getElem?_getD, et]; rfl
      have lt := (List.getElem?_eq_some_iff.mp et).1
      have ll := hL.ll
      refine two_d ?_
      dsimp only [pt]
      refine cutS (fun ρ => ∃ r p, Red rows k ls row r p ∧ ρ = [.vl (.tup (natsD rows)), .dk (dl ls), nv k, nv row, nv r, nv p]) (fun M hM => ⟨rfl, rows, k, ls, row, rfl, hL, fun r p R => hM _ ⟨r, p, R, rfl⟩⟩) ?_
      rintro _ ⟨r, p, R, rfl⟩
      rw [← eg] at R
      show if ((r : Int) != 0) = true then _ else _
      by_cases h0 : r = 0
      · subst h0
        exact hM' _ ⟨ls, nv k, nv row, nv 0, nv p, lt, lok_same hL lt R, rfl⟩
      · rw [if_pos (by simp [h0])]
        have ew : Builtin.bitXor (p : Int) ((1 : Int) * 2 ^ ((k : Int).toNat)) = ((p ^^^ (1 <<< k) : Nat) : Int) := by rw [shl_nat, xor_nat]
        refine ⟨⟨by omega, by omega, by decide⟩, by simp, by rw [dl_len]; omega, hM' _ ⟨ls ++ [(k, r, p ^^^ (1 <<< k))], nv k, nv row, nv r, nv p, lt, lok_new hL lt R h0, ?_⟩⟩
        rw [← dl_put (e := (k, r, p ^^^ (1 <<< k))) R.no]
        show [_, Sv.dk (putD (dl ls) (.inl ((Builtin.Int.intBits (r : Int) : Nat) : Int)) (.tup [nD k, nD r, .int (Builtin.bitXor (p : Int) ((1 : Int) * 2 ^ ((k : Int).toNat)))])), _, _, _, _] = _
        rw [ew, bits_nat]; rfl
    · rintro ρ ⟨ls, s2, s3, s4, s5, hkl, hL, rfl⟩
      rw [enumD_len, natsD_len] at hL
      exact hM _ ⟨ls, s2, s3, s4, s5, hL, rfl⟩
  rintro _ ⟨ls, s2, s3, s4, s5, hL, rfl⟩
  exact hq ls hL
theorem ok_basis (dn : DefN K mg "basis" s_basis ["rows"]) (B : BI mg) (g_leads_of : OkN P w K mg base 2 "leads_of" ["rows"] (spA K SLeadsT)) : OkN P w K mg base 3 "basis" ["rows"] (spA K SBasisT) := by
  refine dn.aok2 (k := 2) sc_basis (fun j => j == 0) [] SBasisT rfl (fun f cdv A outer s H E hr => have hu := hu_of hr; ⟨_, (pss_one (ps_ret (pe_comp ["place", "rest", "parts"] [] rfl (Blk.of (defScope s_basis) nm_basis) (pi_vals (pe_fn g_leads_of (hr.mono (by decide)) (pa_cons (pv 0) pa_nil))) (fun _ _ _ _ nd => (pg_tupK K (n := 3) rfl (pgs_cons (pg_name (i := 0) nd rfl (by first | exact Or.inl rfl | exact Or.inr rfl)) (pgs_cons (pg_name (i := 1) nd rfl (by first | exact Or.inl rfl | exact Or.inr rfl)) (pgs_cons (pg_name (i := 2) nd rfl (by first | exact Or.inl rfl | exact Or.inr rfl)) pgs_nil))))) (fun _ _ _ _ => pts_nil) (fun _ _ _ _ => (pv 0))))), (sok_ret (tok_comp (tiok_vals (tok_call (taok_cons tok_var taok_nil))) (tgok_tup (tgsok_cons (tgok_name rfl) (tgsok_cons (tgok_name rfl) (tgsok_cons (tgok_name rfl) tgsok_nil (fun _ _ _ => gl_name)) (fun _ _ _ => gl_name)) (fun _ _ _ => gl_name))) ttok_all tok_var))⟩) ?_
  rintro ss q ⟨rows, rfl, hl, hq⟩
  refine ⟨rfl, rfl, rfl, rows, rfl, hl, fun ls hL => ?_⟩
  have e : (dl ls).map Prod.snd = ls.map ldD := by unfold dl; rw [List.map_map]; rfl
  have ll := hL.ll
  dsimp only
  rw [e]
  refine ⟨by rw [List.length_map]; omega, compA_lst ldD (fun e => nD e.1) trivial (fun x acc N hx hN => hN) ?_⟩
  have := hq ls hL
  unfold natsD plc at this
  rw [List.map_map] at this
  exact this
theorem ok_refuse_unplaced (dn : DefN K mg "refuse_unplaced" s_refuse_unplaced ["wish"]) (B : BI mg) (g_basis : OkN P w K mg base 3 "basis" ["rows"] (spA K SBasisT)) : OkN P w K mg base 4 "refuse_unplaced" ["wish"] (spA K SUnpl) := by
  refine dn.aok2 (k := 3) sc_refuse_unplaced (fun j => j == 0) [.un, .un, .un, .un] SUnpl rfl (fun f cdv A outer s H E hr => have hu := hu_of hr; ⟨_, (pss_cons (ps_asg (pv 0) (pg_tupK K (n := 2) rfl (pgs_cons (pg_name (i := 1) sc_refuse_unplaced.nd rfl (by first | exact Or.inl rfl | exact Or.inr rfl)) (pgs_cons (pg_name (i := 2) sc_refuse_unplaced.nd rfl (by first | exact Or.inl rfl | exact Or.inr rfl)) pgs_nil))))
    (pss_cons (ps_if (pt_cmpR (op_neD K hr.units) (pe_callB (call_lenK K) rfl B.len_ bt_len (pa_cons (pv 2) pa_nil)) (pv 1) (nomark _))
    (pss_one ps_never)
    pss_nil)
    (pss_cons (ps_set (i := 3) sc_refuse_unplaced.nd rfl (by first | exact Or.inl rfl | exact Or.inr rfl) (pe_fn g_basis (hr.mono (by decide)) (pa_cons (pv 2) pa_nil)))
    (pss_one (ps_for PassesOwn.never rfl (pi_range1 rfl B.range_ (pa_cons (pv 1) pa_nil)) (pg_name (i := 4) sc_refuse_unplaced.nd rfl (by first | exact Or.inl rfl | exact Or.inr rfl))
    (pss_one (ps_if (pt_cmpR (op_notIn_seqK K) (pv 4) (pv 3) rfl)
    (pss_one ps_never)
    pss_nil))))))), (sok_seq (sok_asg tok_var (tgok_tup (tgsok_cons (tgok_name rfl) (tgsok_cons (tgok_name rfl) tgsok_nil (fun _ _ _ => gl_name)) (fun _ _ _ => gl_name))))
    (sok_seq (sok_if (ttok_test (tok_op ook_ne (tok_cb cbok_len (taok_cons tok_var taok_nil)) tok_var))
    sok_never
    sok_next)
    (sok_seq (sok_set (tok_call (taok_cons tok_var taok_nil)) rfl)
    (sok_for (pin := (fun _ => false)) (tiok_rng1 (taok_cons tok_var taok_nil)) (tgok_name rfl)
    (sok_if (ttok_test (tok_op (ook_in true) tok_var tok_var))
    sok_never
    sok_next)))))⟩) ?_
  rintro ss q ⟨m, rows, rfl, hm, hF, hq⟩
  have hl := hF.len
  refine ⟨rfl, rfl, ?_⟩
  refine cutS (fun ρ => ρ = [.vl (wishD m rows), nv m, .vl (.tup (natsD rows)), .un, .un]) (fun M hM => hM _ rfl) ?_
  rintro _ rfl
  refine cutS (fun ρ => ρ = [.vl (wishD m rows), nv m, .vl (.tup (natsD rows)), .un, .un]) (fun M hM => gEq_ok rfl rfl (by simp [D.depth]) (b := true) ?_ (hM _ rfl)) ?_
  · show eqD (.int (((natsD rows).length : Nat) : Int)) (.int (m : Int)) = true
    rw [natsD_len, hl]; exact eqD_refl _
  rintro _ rfl
  refine cutS (fun ρ => ∃ ls, LOk rows rows.length ls ∧ ρ = [.vl (wishD m rows), nv m, .vl (.tup (natsD rows)), .ow (natsD (plc ls)), .un]) (fun M hM => ⟨rfl, rows, rfl, by omega, fun ls L => hM _ ⟨ls, L, rfl⟩⟩) ?_
  rintro _ ⟨ls, L, rfl⟩
  refine ⟨⟨by omega, by omega⟩, forA_rng (fun k ρ => ∃ s4, ρ = [.vl (wishD m rows), nv m, .vl (.tup (natsD rows)), .ow (natsD (plc ls)), s4]) (fun _ _ _ => trivial) ?_ (fun ρ ⟨s4, e⟩ => by subst e; exact hq) ⟨.un, rfl⟩⟩
  rintro k _ M hk ⟨s4, rfl⟩ hM
  rw [Int.toNat_natCast] at hk
  rw [Int.zero_add]
  refine gIn_nl (xs := plc ls) rfl ?_
  have : (plc ls).contains k = true := by rw [List.contains_iff_mem]; exact full_plc hF L hk
  rw [this]
  exact hM _ ⟨nv k, rfl⟩
end
end K64
set_option Elab.async false
set_option linter.all false
set_option maxRecDepth 100000
set_option maxHeartbeats 1000000
namespace K64
open PySem PySem.Spec PyProof.Rows L2
def SFree : ASp := fun ss q => ∃ n m : Nat, ss = [.tp n, nv m] ∧ n ≤ 1000000 ∧ 1 ≤ m ∧ m ≤ 12 ∧ ∀ (rows : List Nat) (n' : Nat), Full m rows → (∀ p, rows.getD p 0 < 2 ^ m) → n' ≤ n + 1000 → q (.f (natsD rows)) [.tp n', nv m]
theorem mod_ne {a x m : Nat} (ha : a < m) (hx : x + 1 < m) : (a + 1 + x) % m ≠ a ∧ (a + 1 + x) % m < m := by
  refine ⟨?_, Nat.mod_lt _ (by omega)⟩
  by_cases h : a + 1 + x < m
  · rw [Nat.mod_eq_of_lt h]; omega
  · rw [Nat.mod_eq_sub_mod (by omega), Nat.mod_eq_of_lt (by omega)]; omega
theorem stepC_lt {m : Nat} {cells : List Nat} {p : Nat × Nat} (h : ∀ i, cells.getD i 0 < 2 ^ m) (hp : StepOk m p) (hl : cells.length = m) : ∀ i, (stepC cells p).getD i 0 < 2 ^ m := fun i => by
  unfold stepC
  by_cases e : p.2 = i
  · subst e
    rw [getD_set_same (by rw [hl]; exact hp.2.1)]
    exact Nat.xor_lt_two_pow (h _) (h _)
  · rw [getD_set_ne e]; exact h i
theorem mem_lt {xs : List Nat} {b : Nat} (hb : 0 < b) (h : ∀ x ∈ xs, x < b) (p : Nat) : xs.getD p 0 < b := by
  by_cases hp : p < xs.length
  · exact h _ (getD_in hp)
  · rw [List.getD_eq_getElem?_getD, List.getElem?_eq_none (by omega)]; exact hb
def SAllS : ASp := fun ss q => ∃ m : Nat, ss = [nv m] ∧ m ≤ 3 ∧ q (.f ((allS m).map L2.pairD)) [nv m]
def SWith : ASp := fun ss q => ∃ (c : List Nat) (p : Nat × Nat), ss = [.vl (tupN c), nv p.1, nv p.2] ∧ p.1 < c.length ∧ p.2 < c.length ∧ c.length ≤ 100 ∧ q (.d (tupN (stepC c p))) [.vl (tupN c), nv p.1, nv p.2]
def SNext : ASp := fun ss q => ∃ m k : Nat, 1 ≤ m ∧ m ≤ 3 ∧ k + 1 < (CB m).length ∧ ss = [nv m, .ow ((RB m k).map tupN), .dt (dtW ((TB m).take ((CB m).getD k 0)))] ∧ q (.f ((RB m (k + 1)).map tupN)) [nv m, .ow ((RB m k).map tupN), .dt (dtW ((TB m).take ((CB m).getD (k + 1) 0)))]
def SFew : ASp := fun ss q => ∃ (m : Nat) (rows : List Nat) (wy : List (Nat × Nat)), 1 ≤ m ∧ m ≤ 3 ∧ lkT (TB m) rows = some wy ∧ ss = [.vl (wishD m rows)] ∧ q (.d (wyD wy)) [.vl (wishD m rows)]
theorem tb_len {m : Nat} (h1 : 1 ≤ m) (h3 : m ≤ 3) : (TB m).length ≤ 168 := by
  match m, h1, h3 with
  | 1, _, _ => decide
  | 2, _, _ => decide
  | 3, _, _ => decide
theorem tb_way {m : Nat} (h1 : 1 ≤ m) (h3 : m ≤ 3) : ∀ e ∈ TB m, e.2.length ≤ 10 := by
  match m, h1, h3 with
  | 1, _, _ => decide
  | 2, _, _ => decide
  | 3, _, _ => decide
theorem cb_mem {m : Nat} (h1 : 1 ≤ m) (h3 : m ≤ 3) : ∀ x ∈ CB m, x ≤ (TB m).length := by
  match m, h1, h3 with
  | 1, _, _ => decide
  | 2, _, _ => decide
  | 3, _, _ => decide
theorem cb_le {m : Nat} (h1 : 1 ≤ m) (h3 : m ≤ 3) (k : Nat) : (CB m).getD k 0 ≤ (TB m).length := by
  by_cases h : k < (CB m).length
  · exact cb_mem h1 h3 _ (getD_in h)
  · rw [List.getD_eq_getElem?_getD, List.getElem?_eq_none (by omega)]; exact Nat.zero_le _
theorem ix_lk {t : TT} {c : List Nat} (h : ixT t c < t.length) : ∃ w, lkT t c = some w := ⟨_, by rw [lkT_ix, List.getElem?_eq_getElem h]; rfl⟩
theorem cb_up {m : Nat} (h1 : 1 ≤ m) (h3 : m ≤ 3) : ∀ k, k + 1 < (CB m).length → (CB m).getD k 0 < (CB m).getD (k + 1) 0 := by
  match m, h1, h3 with
  | 1, _, _ => exact fun k hk => absurd hk (by show ¬ (k + 1 < 1); omega)
  | 2, _, _ => exact fun k hk => (by decide : ∀ k, k < 3 → (CB 2).getD k 0 < (CB 2).getD (k + 1) 0) k (by have : k + 1 < 4 := hk; omega)
  | 3, _, _ => exact fun k hk => (by decide : ∀ k, k < 6 → (CB 3).getD k 0 < (CB 3).getD (k + 1) 0) k (by have : k + 1 < 7 := hk; omega)
section
variable {P : Program} {w : World} {K : PySem.W.Frag} {mg : Str → Option Value} {base : Heap}
theorem ok_law_free_rows (dn : DefN K mg "_law_free_rows" s_law_free_rows ["_law_tape_here", "_law_many"]) (B : BI mg) (g_law_draw : OkN P w K mg base 1 "_law_draw" ["_law_tape_here", "_law_many"] (spA K SDraw)) : OkN P w K mg base 2 "_law_free_rows" ["_law_tape_here", "_law_many"] (spA K SFree) := by
  refine dn.aok2 (k := 1) sc_law_free_rows (fun j => j == 0 || j == 1) [.un, .un, .un, .un, .un, .un] SFree rfl (fun f cdv A outer s H E hr => have hu := hu_of hr; ⟨_, (pss_cons (ps_setC (i := 2) ["_law_k"] [] sc_law_free_rows.nd rfl (by first | exact Or.inl rfl | exact Or.inr rfl) rfl (Blk.of (defScope s_law_free_rows) nm_law_free_rows) (pi_range1 rfl B.range_ (pa_cons (pv 1) pa_nil)) (fun _ _ _ _ nd => (pg_name (i := 0) nd rfl (by first | exact Or.inl rfl | exact Or.inr rfl))) (fun _ _ _ _ => pts_nil) (fun _ _ _ _ => (pe_op op_shl pe_int (pv 0))))
    (pss_cons (ps_for PassesOwn.never rfl (pi_range1 rfl B.range_ (pa_cons (pe_op op_mul (pe_fn g_law_draw (hr.mono (by decide)) (pa_cons (pv 0) (pa_cons (pe_op op_mul pe_int (pv 1)) pa_nil))) (pe_callTy call_int1 rfl B.int_ bt_int (pa_cons (pe_cmpR op_gt (pv 1) pe_int (nomark _)) pa_nil))) pa_nil)) (pg_name (i := 3) sc_law_free_rows.nd rfl (by first | exact Or.inl rfl | exact Or.inr rfl))
    (pss_cons (ps_set (i := 4) sc_law_free_rows.nd rfl (by first | exact Or.inl rfl | exact Or.inr rfl) (pe_fn g_law_draw (hr.mono (by decide)) (pa_cons (pv 0) (pa_cons (pv 1) pa_nil))))
    (pss_cons (ps_set (i := 5) sc_law_free_rows.nd rfl (by first | exact Or.inl rfl | exact Or.inr rfl) (pe_op op_mod (pe_op op_add (pe_op op_add (pv 4) pe_int) (pe_fn g_law_draw (hr.mono (by decide)) (pa_cons (pv 0) (pa_cons (pe_op op_sub (pv 1) pe_int) pa_nil)))) (pv 1)))
    (pss_one (ps_asg (pe_op op_xor (pe_ix (ix_seqK K) (pv 2) (pv 5) (fun _ _ => rfl)) (pe_ix (ix_seqK K) (pv 2) (pv 4) (fun _ _ => rfl))) (pg_sub (pv 2) (pv 5) set_list))))))
    (pss_cons (ps_set (i := 6) sc_law_free_rows.nd rfl (by first | exact Or.inl rfl | exact Or.inr rfl) (pe_lst pa_nil))
    (pss_cons (ps_for PassesOwn.never rfl (pi_seqK K (pv 2)) (pg_name (i := 7) sc_law_free_rows.nd rfl (by first | exact Or.inl rfl | exact Or.inr rfl))
    (pss_one (ps_expr (pe_bmK K PySem.F.plainAttrs_list PySem.F.slot_list_insert PySem.F.type_list_insert mt_insert (pv 6) (pa_cons (pe_fn g_law_draw (hr.mono (by decide)) (pa_cons (pv 0) (pa_cons (pe_op op_add (pe_callB (call_lenK K) rfl B.len_ bt_len (pa_cons (pv 6) pa_nil)) pe_int) pa_nil))) (pa_cons (pv 7) pa_nil))))))
    (pss_one (ps_ret (pv 6))))))), (sok_seq (sok_setC (tok_comp (tiok_rng1 (taok_cons tok_var taok_nil)) (tgok_name rfl) ttok_all (tok_op ook_int tok_int tok_var)) rfl)
    (sok_seq (sok_for (pin := (fun _ => false)) (tiok_rng1 (taok_cons (tok_op ook_int (tok_call (taok_cons tok_var (taok_cons (tok_op ook_int tok_int tok_var) taok_nil))) (tok_cb cbok_int (taok_cons (tok_op ook_bl0 tok_var tok_int) taok_nil))) taok_nil)) (tgok_name rfl)
    (sok_seq (sok_set (tok_call (taok_cons tok_var (taok_cons tok_var taok_nil))) rfl)
    (sok_seq (sok_set (tok_op ook_int (tok_op ook_int0 (tok_op ook_int0 tok_var tok_int) (tok_call (taok_cons tok_var (taok_cons (tok_op ook_int0 tok_var tok_int) taok_nil)))) tok_var) rfl)
    (sok_setI (tok_op ook_int0 (tok_op ook_ix tok_var tok_var) (tok_op ook_ix tok_var tok_var)) tok_var tok_var))))
    (sok_seq (sok_set (tok_lst taok_nil) rfl)
    (sok_seq (sok_for (pin := (fun j => j == 2)) (tiok_seq tok_var) (tgok_name rfl)
    (sok_drop (tok_ins tok_var (taok_cons (tok_call (taok_cons tok_var (taok_cons (tok_op ook_int0 (tok_cb cbok_len (taok_cons tok_var taok_nil)) tok_int) taok_nil))) (taok_cons tok_var taok_nil)))))
    (sok_ret tok_var)))))⟩) ?_
  rintro ss q ⟨n, m, rfl, hn, h1, h2, hq⟩
  refine ⟨rfl, rfl, ?_⟩
  refine cutS (fun ρ => ρ = [.tp n, nv m, .ow (natsD (ownRows m)), .un, .un, .un, .un, .un]) (fun M hM => ⟨⟨by omega, by omega⟩, by rw [rngD_len]; omega, ?_⟩) ?_
  · rw [Int.toNat_natCast]
    refine compA_rng (fun k => nD (1 <<< k)) trivial (fun k acc M3 hk hM3 => ?_) (hM _ ?_)
    · rw [Int.zero_add]
      refine ⟨⟨by omega, by omega, by decide⟩, ?_⟩
      exact (congrArg (fun z => M3 (acc ++ [D.int z]) _) (shl_nat k)).mpr hM3
    · unfold ownRows natsD; rw [List.map_map]; rfl
  rintro _ rfl
  have own_lt : ∀ p, (ownRows m).getD p 0 < 2 ^ m := mem_lt (Nat.two_pow_pos m) fun x hx => by
    unfold ownRows at hx
    obtain ⟨k, hk, rfl⟩ := List.mem_map.mp hx
    rw [Nat.shiftLeft_eq, Nat.one_mul]
    exact Nat.pow_lt_pow_right (by decide) (List.mem_range.mp hk)
  refine cutS (fun ρ => ∃ held n' s3 s4 s5, Full m held ∧ (∀ p, held.getD p 0 < 2 ^ m) ∧ n' ≤ n + 400 ∧ ρ = [.tp n', nv m, .ow (natsD held), s3, s4, s5, .un, .un]) (fun M hM => ⟨.inl ⟨by decide, by decide⟩, rfl, n, (12 : Int) * (m : Int), rfl, by omega, Dv.small (by omega) (by omega), fun r hr => ⟨.inl ⟨by omega, by omega⟩, ?_⟩⟩) ?_
  · generalize hT : (r : Int) * (if decide ((1 : Int) < (m : Int)) = true then 1 else 0) = T
    have hT2 : T ≤ 144 ∧ 0 ≤ T ∧ (0 < T → 1 < m) := by
      by_cases z : decide ((1 : Int) < (m : Int)) = true
      · rw [if_pos z] at hT; rw [decide_eq_true_eq] at z; omega
      · rw [if_neg z] at hT; omega
    obtain ⟨hT3, hT4, hT5⟩ := hT2
    refine ⟨⟨by omega, by omega⟩, forA_rng (fun k ρ => ∃ held n' s3 s4 s5, Full m held ∧ (∀ p, held.getD p 0 < 2 ^ m) ∧ n' ≤ n + 1 + 2 * k ∧ ρ = [.tp n', nv m, .ow (natsD held), s3, s4, s5, .un, .un]) (fun _ _ _ => trivial) ?_ ?_ ⟨ownRows m, n + 1, .un, .un, .un, full_own m, own_lt, by omega, rfl⟩⟩
    · rintro k _ M1 hk ⟨held, n0, s3, s4, s5, hF, hlt, hn0, rfl⟩ hM1
      have hm1 : 1 < m := hT5 (by omega)
      have hl := hF.len
      refine cutS (fun ρ => ∃ a : Nat, a < m ∧ ρ = [.tp (n0 + 1), nv m, .ow (natsD held), .vl (.int (0 + (k : Int))), nv a, s5, .un, .un]) (fun M2 hM2 => ⟨rfl, n0, m, rfl, by omega, Dv.small (by omega) (by omega), fun a ha => hM2 _ ⟨a, by omega, rfl⟩⟩) ?_
      rintro _ ⟨a, ha, rfl⟩
      refine cutS (fun ρ => ∃ b : Nat, b < m ∧ b ≠ a ∧ ρ = [.tp (n0 + 2), nv m, .ow (natsD held), .vl (.int (0 + (k : Int))), nv a, nv b, .un, .un]) (fun M2 hM2 => ⟨rfl, n0 + 1, (m : Int) - 1, rfl, by omega, Dv.small (by omega) (by omega), fun x hx => ⟨(by omega : (0 : Int) < (m : Int)), hM2 _ ⟨(a + 1 + x) % m, (mod_ne ha (by omega)).2, (mod_ne ha (by omega)).1, ?_⟩⟩⟩) ?_
      · have e : ((a : Int) + 1 + (x : Int)) % (m : Int) = (((a + 1 + x) % m : Nat) : Int) := by
          rw [Int.natCast_emod]; rfl
        rw [← nv_eq e]; rfl
      rintro _ ⟨b, hb, hba, rfl⟩
      refine gIx_nats rfl (by omega) (gIx_nats rfl (by omega) (setI_nat (by rw [natsD_len]; omega) (hM1 _ ⟨stepC held (a, b), n0 + 2, .vl (.int (0 + (k : Int))), nv a, nv b, full_step hF ⟨ha, hb, Ne.symm hba⟩, stepC_lt hlt ⟨ha, hb, Ne.symm hba⟩ hl, by omega, ?_⟩)))
      unfold stepC
      rw [← natsD_set, Nat.xor_comm]
      show [_, _, Sv.ow ((natsD held).set b (.int (Builtin.bitXor ((held.getD b 0 : Nat) : Int) ((held.getD a 0 : Nat) : Int)))), _, _, _, _, _] = _
      rw [xor_nat]
    · rintro _ ⟨held, n', s3, s4, s5, hF, hlt, hn', rfl⟩
      exact hM _ ⟨held, n', s3, s4, s5, hF, hlt, by omega, rfl⟩
  rintro _ ⟨held, n1, s3, s4, s5, hF, hlt, hn1, rfl⟩
  have hl := hF.len
  refine cutS (fun ρ => ρ = [.tp n1, nv m, .ow (natsD held), s3, s4, s5, .ow [], .un]) (fun M hM => ⟨by simp, hM _ rfl⟩) ?_
  rintro _ rfl
  refine cutS (fun ρ => ∃ found n2 s7, found.length = m ∧ (∀ x ∈ held, x ∈ found) ∧ (∀ x ∈ found, x < 2 ^ m) ∧ n2 ≤ n1 + 100 ∧ ρ = [.tp n2, nv m, .ow (natsD held), s3, s4, s5, .ow (natsD found), s7]) (fun M hM => ⟨rfl, forA_lst nD (fun k ρ => ∃ found n2 s7, found.length = k ∧ (∀ x ∈ held.take k, x ∈ found) ∧ (∀ x ∈ found, x < 2 ^ m) ∧ n2 ≤ n1 + k ∧ ρ = [.tp n2, nv m, .ow (natsD held), s3, s4, s5, .ow (natsD found), s7]) ?_ ?_ ?_ ⟨[], n1, .un, rfl, (fun x hx => nomatch hx), (fun x hx => nomatch hx), by omega, rfl⟩⟩) ?_
  · rintro k ρ ⟨found, n2, s7, _, _, _, _, rfl⟩; rfl
  · rintro k row _ M1 hk ⟨found, n2, s7, hfl, hin, hfl2, hn2, rfl⟩ hM1
    have hk' := (List.getElem?_eq_some_iff.mp hk).1
    have hrow : row < 2 ^ m := by
      have := hlt k
      rwa [List.getD_eq_getElem?_getD, hk] at this
    refine ⟨rfl, n2, (((natsD found).length : Nat) : Int) + 1, rfl, by omega, by rw [natsD_len]; exact Dv.small (by omega) (by omega), fun r hr => ⟨r, rfl, by rw [natsD_len] at hr ⊢; omega, by rw [natsD_len]; omega, hM1 _ ⟨found.take r ++ row :: found.drop r, n2 + 1, nv row, ?_, fun x hx => ?_, fun x hx => ?_, by omega, ?_⟩⟩⟩
    · rw [natsD_len] at hr
      rw [List.length_append, List.length_take, List.length_cons, List.length_drop]; omega
    · rw [take_snoc hk] at hx
      rcases List.mem_append.mp hx with hx | hx
      · have := hin x hx
        rw [← List.take_append_drop r found] at this
        rcases List.mem_append.mp this with z | z
        · exact List.mem_append.mpr (.inl z)
        · exact List.mem_append.mpr (.inr (.tail _ z))
      · rw [List.mem_singleton.mp hx]
        exact List.mem_append.mpr (.inr (.head _))
    · rcases List.mem_append.mp hx with z | z
      · exact hfl2 x (List.mem_of_mem_take z)
      · rcases List.mem_cons.mp z with z | z
        · rw [z]; exact hrow
        · exact hfl2 x (List.mem_of_mem_drop z)
    · unfold natsD; rw [List.map_append, List.map_cons, List.map_take, List.map_drop]; rfl
  · rintro _ ⟨found, n2, s7, hfl, hin, hfl2, hn2, rfl⟩
    rw [List.take_length] at hin
    exact hM _ ⟨found, n2, s7, by omega, hin, hfl2, by omega, rfl⟩
  rintro _ ⟨found, n2, s7, hfl, hin, hfl2, hn2, rfl⟩
  exact hq found n2 (full_ins hF hfl hin) (mem_lt (Nat.two_pow_pos m) hfl2) (by omega)
theorem ok_all_steps (dn : DefN K mg "all_steps" s_all_steps ["many"]) (B : BI mg) : OkN P w K mg base 1 "all_steps" ["many"] (spA K SAllS) := by
  refine dn.aok2 (k := 0) sc_all_steps (fun j => j == 0) [] SAllS rfl (fun f cdv A outer s H E hr => have hu := hu_of hr; ⟨_, (pss_one (ps_ret (pe_comp2 ["b", "a"] [0] rfl (Blk.of (defScope s_all_steps) nm_all_steps) (pi_range1 rfl B.range_ (pa_cons (pv 0) pa_nil)) (fun _ _ _ _ nd => (pg_name (i := 1) nd rfl (by first | exact Or.inl rfl | exact Or.inr rfl))) (fun _ _ _ _ => pts_nil) (fun _ _ _ _ => (pi_range1 rfl B.range_ (pa_cons (pv 2) pa_nil))) (fun _ _ _ _ nd => (pg_name (i := 0) nd rfl (by first | exact Or.inl rfl | exact Or.inr rfl))) (fun _ _ _ _ => (pts_one (pt_cmpR (op_neD K hr.units) (pv 1) (pv 0) (nomark _)))) (fun _ _ _ _ => (pe_tup (pa_cons (pv 1) (pa_cons (pv 0) pa_nil))))))), (sok_ret (tok_comp2 (n2 := 1) (tiok_rng1 (taok_cons tok_var taok_nil)) (tgok_name rfl) ttok_all (tiok_rng1 (taok_cons tok_var taok_nil)) (tgok_name rfl) (ttok_test (tok_op ook_ne tok_var tok_var)) (tok_tup (taok_cons tok_var (taok_cons tok_var taok_nil)))))⟩) ?_
  rintro ss q ⟨m, rfl, hm, hq⟩
  refine ⟨rfl, rfl, ⟨by omega, by omega⟩, ?_⟩
  rw [Int.toNat_natCast]
  refine compB_inv (fun i acc ρ => acc = (((List.range i).flatMap fun a => ((List.range m).filter fun b => !(a == b)).map fun b => (a, b)).map L2.pairD) ∧ acc.length ≤ i * 3 ∧ ρ = [nv m]) ?_ ?_ ?_ _ ⟨rfl, by simp, rfl⟩
  · rintro i acc ρ hi ⟨_, hl, rfl⟩
    rw [rngD_len] at hi
    exact ⟨trivial, by omega⟩
  · rintro i d acc _ N hi ⟨ha, hl, rfl⟩ hN
    obtain ⟨lt, rfl⟩ := rngD_get hi
    rw [Int.zero_add]
    refine ⟨⟨by omega, by omega⟩, ?_⟩
    rw [Int.toNat_natCast]
    refine compI_inv (fun j ac ρ => ac = acc ++ (((List.range j).filter fun b => !(i == b)).map fun b => (i, b)).map L2.pairD ∧ ac.length ≤ i * 3 + j ∧ ρ = [.un, nv i, nv m]) ?_ ?_ ?_ _ _ ⟨by simp, by omega, rfl⟩
    · rintro j ac ρ hj ⟨_, hl2, rfl⟩
      rw [rngD_len] at hj
      exact ⟨trivial, by omega⟩
    · rintro j d ac _ N2 hj ⟨rfl, hl2, rfl⟩ hN2
      obtain ⟨lt2, rfl⟩ := rngD_get hj
      rw [Int.zero_add]
      refine gEq_ok rfl rfl (by simp [D.depth]) (eqD_nn i j) ?_
      rw [List.range_succ, List.filter_append, List.map_append, List.map_append, ← List.append_assoc] at hN2
      by_cases e : i = j
      · rw [decide_eq_true e]
        refine hN2 _ _ ⟨?_, by omega, rfl⟩
        simp [e]
      · rw [decide_eq_false e]
        refine ⟨by simp, hN2 _ _ ⟨?_, ?_, rfl⟩⟩
        · simp [e]
        · rw [List.length_append]; simp at hl2 ⊢; omega
    · rintro ac _ ⟨rfl, hl2, rfl⟩
      rw [rngD_len] at hl2 ⊢
      refine hN _ _ ⟨?_, by omega, rfl⟩
      rw [List.range_succ, List.flatMap_append, List.map_append, ha]
      simp
  · rintro acc _ ⟨rfl, _, rfl⟩
    rw [rngD_len]
    exact hq
theorem ok_with_step (dn : DefN K mg "with_step" s_with_step ["cells", "a", "b"]) (B : BI mg) (g_joined : OkN P w K mg base 1 "joined" ["one", "other"] (spA K SJoined)) : OkN P w K mg base 2 "with_step" ["cells", "a", "b"] (spA K SWith) := by
  refine dn.aok2 (k := 1) sc_with_step (fun j => j == 0 || j == 1 || j == 2) [.un] SWith rfl (fun f cdv A outer s H E hr => have hu := hu_of hr; ⟨_, (pss_cons (ps_set (i := 3) sc_with_step.nd rfl (by first | exact Or.inl rfl | exact Or.inr rfl) (pe_callTy (call_listK K) rfl B.list_ bt_list (pa_cons (pv 0) pa_nil)))
    (pss_cons (ps_asg (pe_fn g_joined (hr.mono (by decide)) (pa_cons (pe_ix (ix_seqK K) (pv 0) (pv 1) (fun _ _ => rfl)) (pa_cons (pe_ix (ix_seqK K) (pv 0) (pv 2) (fun _ _ => rfl)) pa_nil))) (pg_sub (pv 3) (pv 2) set_list))
    (pss_one (ps_ret (pe_callTy (call_tupleK K) rfl B.tuple_ bt_tuple (pa_cons (pv 3) pa_nil)))))), (sok_seq (sok_set (tok_cb cbok_list (taok_cons tok_var taok_nil)) rfl)
    (sok_seq (sok_setI (tok_call (taok_cons (tok_op ook_ix tok_var tok_var) (taok_cons (tok_op ook_ix tok_var tok_var) taok_nil))) tok_var tok_var)
    (sok_ret (tok_cb cbok_tuple (taok_cons tok_var taok_nil)))))⟩) ?_
  rintro ss q ⟨c, p, rfl, h1, h2, h3, hq⟩
  refine ⟨rfl, rfl, ?_⟩
  refine cutS (fun ρ => ρ = [.vl (tupN c), nv p.1, nv p.2, .ow (natsD c)]) (fun M hM => hM _ rfl) ?_
  rintro _ rfl
  refine cutS (fun ρ => ρ = [.vl (tupN c), nv p.1, nv p.2, .ow (natsD (stepC c p))]) (fun M hM => gIx_t rfl (atI_nats h1) (gIx_t rfl (atI_nats h2) ⟨rfl, _, _, rfl, setI_nat (by rw [natsD_len]; omega) (hM _ ?_)⟩)) ?_
  · unfold stepC
    rw [← natsD_set]; rfl
  rintro _ rfl
  exact hq
theorem ok_reached_next (dn : DefN K mg "reached_next" s_reached_next ["many", "reached", "ways"]) (B : BI mg) (g_all_steps : OkN P w K mg base 1 "all_steps" ["many"] (spA K SAllS)) (g_with_step : OkN P w K mg base 2 "with_step" ["cells", "a", "b"] (spA K SWith)) : OkN P w K mg base 3 "reached_next" ["many", "reached", "ways"] (spA K SNext) := by
  refine dn.aok2 (k := 2) sc_reached_next (fun j => j == 0 || j == 1 || j == 2) [.un, .un, .un, .un, .un] SNext rfl (fun f cdv A outer s H E hr => have hu := hu_of hr; ⟨_, (pss_cons (ps_set (i := 3) sc_reached_next.nd rfl (by first | exact Or.inl rfl | exact Or.inr rfl) (pe_lst pa_nil))
    (pss_cons (ps_for PassesOwn.never rfl (pi_seqK K (pv 1)) (pg_name (i := 4) sc_reached_next.nd rfl (by first | exact Or.inl rfl | exact Or.inr rfl))
    (pss_one (ps_for PassesOwn.never rfl (pi_seqK K (pe_fn g_all_steps (hr.mono (by decide)) (pa_cons (pv 0) pa_nil))) (pg_tupK K (n := 2) rfl (pgs_cons (pg_name (i := 5) sc_reached_next.nd rfl (by first | exact Or.inl rfl | exact Or.inr rfl)) (pgs_cons (pg_name (i := 6) sc_reached_next.nd rfl (by first | exact Or.inl rfl | exact Or.inr rfl)) pgs_nil)))
    (pss_cons (ps_set (i := 7) sc_reached_next.nd rfl (by first | exact Or.inl rfl | exact Or.inr rfl) (pe_fn g_with_step (hr.mono (by decide)) (pa_cons (pv 4) (pa_cons (pv 5) (pa_cons (pv 6) pa_nil)))))
    (pss_one (ps_if (pt_cmp (pc_dnotin hu (pv 7) (pv 2)))
    (pss_cons (ps_dput hu (pv 2) (pv 7) (pe_op (op_catL K) (pe_dget hu (pv 2) (pv 4) (fun _ _ => rfl)) (pe_lst (pa_cons (pe_tup (pa_cons (pv 5) (pa_cons (pv 6) pa_nil))) pa_nil))) rfl)
    (pss_one (ps_expr (pe_bmK K PySem.F.plainAttrs_list PySem.F.slot_list_append PySem.F.type_list_append mt_append (pv 3) (pa_cons (pv 7) pa_nil)))))
    pss_nil))))))
    (pss_one (ps_ret (pv 3))))), (sok_seq (sok_set (tok_lst taok_nil) rfl)
    (sok_seq (sok_for (pin := (fun j => j == 1)) (tiok_seq tok_var) (tgok_name rfl)
    (sok_for (pin := (fun _ => false)) (tiok_seq (tok_call (taok_cons tok_var taok_nil))) (tgok_tup (tgsok_cons (tgok_name rfl) (tgsok_cons (tgok_name rfl) tgsok_nil (fun _ _ _ => gl_name)) (fun _ _ _ => gl_name)))
    (sok_seq (sok_set (tok_call (taok_cons tok_var (taok_cons tok_var (taok_cons tok_var taok_nil)))) rfl)
    (sok_if (ttok_test (tok_dnotinT tok_var tok_var))
    (sok_seq (sok_dputT (tok_op ook_cat (tok_dgetT tok_var tok_var) (tok_lst (taok_cons (tok_tup (taok_cons tok_var (taok_cons tok_var taok_nil))) taok_nil))) tok_var tok_var)
    (sok_drop (tok_app tok_var (taok_cons tok_var taok_nil))))
    sok_next))))
    (sok_ret tok_var)))⟩) ?_
  rintro ss q ⟨m, k, h1, h3, hk, rfl, hq⟩
  have R := rounds h1 h3 hk
  unfold okB at R
  rw [decide_eq_true_eq] at R
  have tl := tb_len h1 h3
  have twl := tb_way h1 h3
  have c0l := cb_le h1 h3 k
  have F := fct h1 h3
  have eR : RB m (k + 1) = nwl (TB m) ((CB m).getD k 0) ((CB m).getD (k + 1) 0) := by unfold RB nwl; rw [if_neg (by omega)]; rfl
  have hcl : ∀ c ∈ RB m k, c.length = m := fun c hc => by
    unfold RB at hc
    obtain ⟨e, he, rfl⟩ := List.mem_map.mp hc
    exact F.ln e (List.mem_of_mem_take (List.mem_of_mem_drop he))
  rw [eR] at hq
  clear eR
  generalize (CB m).getD k 0 = c0 at *
  generalize (CB m).getD (k + 1) 0 = c1 at *
  generalize RB m k = rb at *
  generalize TB m = t at *
  have ntl : ∀ n, (nwl t c0 n).length ≤ 168 := fun n => by
    unfold nwl
    rw [List.length_map, List.length_drop, List.length_take]; omega
  have dtl : ∀ n, (dtW (t.take n)).length ≤ 168 := fun n => by rw [dtW_len, List.length_take]; omega
  refine ⟨rfl, rfl, ?_⟩
  refine cutS (fun ρ => ρ = [nv m, .ow (rb.map tupN), .dt (dtW (t.take c0)), .ow [], .un, .un, .un, .un]) (fun M hM => ⟨by simp, hM _ rfl⟩) ?_
  rintro _ rfl
  refine cutS (fun ρ => ∃ s4 s5 s6 s7, ρ = [nv m, .ow (rb.map tupN), .dt (dtW (t.take c1)), .ow ((nwl t c0 c1).map tupN), s4, s5, s6, s7]) (fun M hM => ⟨rfl, forA_lst tupN (fun i ρ => ∃ n s4 s5 s6 s7, (rb.take i).foldl (advC m t) (some c0) = some n ∧ c0 ≤ n ∧ n ≤ t.length ∧ ρ = [nv m, .ow (rb.map tupN), .dt (dtW (t.take n)), .ow ((nwl t c0 n).map tupN), s4, s5, s6, s7]) ?_ ?_ ?_ ⟨c0, .un, .un, .un, .un, rfl, Nat.le_refl _, c0l, by simp [nwl]⟩⟩) ?_
  · rintro i ρ ⟨n, s4, s5, s6, s7, _, _, _, rfl⟩; rfl
  · rintro i cells _ M1 hi ⟨n, s4, s5, s6, s7, hn, hc, hcn, rfl⟩ hM1
    have cl := hcl cells (List.mem_of_getElem? hi)
    obtain ⟨n', hn1, hn2⟩ := fold_next (advC_no m t) R hi hn
    unfold advC at hn1
    refine ⟨rfl, m, rfl, h3, forA_lst L2.pairD (fun j ρ => ∃ n2 s5 s6 s7, ((allS m).take j).foldl (adv t cells) (some n) = some n2 ∧ c0 ≤ n2 ∧ n2 ≤ t.length ∧ ρ = [nv m, .ow (rb.map tupN), .dt (dtW (t.take n2)), .ow ((nwl t c0 n2).map tupN), .vl (tupN cells), s5, s6, s7]) (fun _ _ _ => trivial) ?_ ?_ ⟨n, s5, s6, s7, rfl, hc, hcn, rfl⟩⟩
    · rintro j p _ M2 hj ⟨n2, s5, s6, s7, hm2, hc2, hcn2, rfl⟩ hM2
      have so := mem_allS.mp (List.mem_of_getElem? hj)
      obtain ⟨n3, hm3, hm4⟩ := fold_next (adv_no t cells) hn1 hj hm2
      refine ⟨rfl, cells, p, rfl, by rw [cl]; exact so.1, by rw [cl]; exact so.2.1, by omega, ?_⟩
      refine gTKey_ok (keyT_n _) ?_
      rcases adv_ok hm3 with ⟨a1, e⟩ | ⟨a1, a2, a3, e⟩
      · obtain ⟨wc, hwc⟩ : ∃ w, lkT t (stepC cells p) = some w := ix_lk (by omega)
        have ev : (valD (dtW (t.take n2)) (kyN (stepC cells p))).isSome = true := by rw [dtW_val, lk_tk a1, hwc]; rfl
        show if (!(valD (dtW (t.take n2)) (kyN (stepC cells p))).isSome) = true then _ else _
        rw [ev]
        rw [e] at hm4
        exact hM2 _ ⟨n2, nv p.1, nv p.2, .vl (tupN (stepC cells p)), hm4, hc2, hcn2, rfl⟩
      · obtain ⟨wc, hwc⟩ : ∃ w, lkT t cells = some w := ix_lk (by omega)
        have hwl : wc.length ≤ 10 := twl _ (lk_mem hwc)
        have hix := lk_ix a2
        rw [hwc] at a2
        have ev : (valD (dtW (t.take n2)) (kyN (stepC cells p))).isSome = false := by rw [dtW_val, lk_tk0 a1]; rfl
        show if (!(valD (dtW (t.take n2)) (kyN (stepC cells p))).isSome) = true then _ else _
        rw [ev]
        rw [e] at hm4
        have d1 := dtl n2
        have d2 := ntl n2
        refine gTGet_ok (keyT_n _) (x := wyD wc) (by rw [dtW_val, lk_tk a3, hwc]; rfl) ?_
        refine ⟨by simp, by simp, by show (wc.map L2.pairD).length + 1 ≤ _; rw [List.length_map]; omega, ?_⟩
        refine gTKey_ok (keyT_n _) ⟨by omega, by rw [List.length_map]; omega, hM2 _ ⟨n2 + 1, nv p.1, nv p.2, .vl (tupN (stepC cells p)), hm4, by omega, by omega, ?_⟩⟩
        rw [nwl_next a1 a2 hc2, tk_next a1 a2, ← dtW_put (lk_tk0 a1), List.map_append]
        show [_, _, Sv.dt (putD _ _ (D.lst (wc.map L2.pairD ++ [L2.pairD p]))), _, _, _, _, _] = _
        unfold wyD
        rw [Option.getD_some, List.map_append]; rfl
    · rintro _ ⟨n2, s5, s6, s7, hm2, hc2, hcn2, rfl⟩
      rw [List.take_length, hn1] at hm2
      cases hm2
      exact hM1 _ ⟨_, _, _, _, _, hn2, hc2, hcn2, rfl⟩
  · rintro _ ⟨n, s4, s5, s6, s7, hn, _, _, rfl⟩
    rw [List.take_length, R] at hn
    cases hn
    exact hM _ ⟨_, _, _, _, rfl⟩
  rintro _ ⟨s4, s5, s6, s7, rfl⟩
  exact hq
theorem ok_fewest_steps (dn : DefN K mg "fewest_steps" s_fewest_steps ["wish"]) (B : BI mg) (g_refuse_unplaced : OkN P w K mg base 4 "refuse_unplaced" ["wish"] (spA K SUnpl)) (g_reached_next : OkN P w K mg base 3 "reached_next" ["many", "reached", "ways"] (spA K SNext)) (g_own_rows : OkN P w K mg base 1 "own_rows" ["many"] (spA K SOwn)) (c_MOST_CELLS : ∃ u, mg "MOST_CELLS" = some u ∧ RelV (.int 3) u) : OkN P w K mg base 5 "fewest_steps" ["wish"] (spA K SFew) := by
  refine dn.aok2 (k := 4) sc_fewest_steps (fun j => j == 0) [.un, .un, .un, .un] SFew rfl (fun f cdv A outer s H E hr => have hu := hu_of hr; ⟨_, (pss_cons (ps_expr (pe_fn g_refuse_unplaced (hr.mono (by decide)) (pa_cons (pv 0) pa_nil)))
    (pss_cons (ps_asg (pv 0) (pg_tupK K (n := 2) rfl (pgs_cons (pg_name (i := 1) sc_fewest_steps.nd rfl (by first | exact Or.inl rfl | exact Or.inr rfl)) (pgs_cons (pg_name (i := 2) sc_fewest_steps.nd rfl (by first | exact Or.inl rfl | exact Or.inr rfl)) pgs_nil))))
    (pss_cons (ps_if (pt_cmpR op_gt (pv 1) (pe_gc c_MOST_CELLS rfl) (nomark _))
    (pss_one ps_never)
    pss_nil)
    (pss_cons (ps_set (i := 3) sc_fewest_steps.nd rfl (by first | exact Or.inl rfl | exact Or.inr rfl) (pe_lst (pa_cons (pe_callTy (call_tupleK K) rfl B.tuple_ bt_tuple (pa_cons (pe_fn g_own_rows (hr.mono (by decide)) (pa_cons (pv 1) pa_nil)) pa_nil)) pa_nil)))
    (pss_cons (ps_set (i := 4) sc_fewest_steps.nd rfl (by first | exact Or.inl rfl | exact Or.inr rfl) (pe_dispT hu (pe_ix (ix_seqK K) (pv 3) pe_int (fun _ _ => rfl)) (pe_lst pa_nil)))
    (pss_cons (ps_while PassesOwn.never (pt_cmp (pc_dnotin hu (pv 2) (pv 4)))
    (pss_one (ps_set (i := 3) sc_fewest_steps.nd rfl (by first | exact Or.inl rfl | exact Or.inr rfl) (pe_fn g_reached_next (hr.mono (by decide)) (pa_cons (pv 1) (pa_cons (pv 3) (pa_cons (pv 4) pa_nil)))))))
    (pss_one (ps_ret (pe_dget hu (pv 4) (pv 2) (fun _ _ => rfl)))))))))), (sok_seq (sok_drop (tok_call (taok_cons tok_var taok_nil)))
    (sok_seq (sok_asg tok_var (tgok_tup (tgsok_cons (tgok_name rfl) (tgsok_cons (tgok_name rfl) tgsok_nil (fun _ _ _ => gl_name)) (fun _ _ _ => gl_name))))
    (sok_seq (sok_if (ttok_test (tok_op ook_bl0 tok_var tok_int))
    sok_never
    sok_next)
    (sok_seq (sok_set (tok_lst (taok_cons (tok_cb cbok_tuple (taok_cons (tok_call (taok_cons tok_var taok_nil)) taok_nil)) taok_nil)) rfl)
    (sok_seq (sok_set (tok_dispT (tok_op ook_ix tok_var tok_int) (tok_lst taok_nil)) rfl)
    (sok_seq (sok_while (ttok_test (tok_dnotinT tok_var tok_var))
    (sok_set (tok_call (taok_cons tok_var (taok_cons tok_var (taok_cons tok_var taok_nil)))) rfl))
    (sok_ret (tok_dgetT tok_var tok_var))))))))⟩) ?_
  rintro ss q ⟨m, rows, wy, h1, h3, hw, rfl, hq⟩
  have F := fct h1 h3
  have hF := lk_full F hw
  refine ⟨rfl, rfl, ?_⟩
  refine cutS (fun ρ => ρ = [.vl (wishD m rows), .un, .un, .un, .un]) (fun M hM => ⟨rfl, m, rows, rfl, by omega, hF, hM _ rfl⟩) ?_
  rintro _ rfl
  refine cutS (fun ρ => ρ = [.vl (wishD m rows), nv m, .vl (tupN rows), .un, .un]) (fun M hM => hM _ rfl) ?_
  rintro _ rfl
  refine cutS (fun ρ => ρ = [.vl (wishD m rows), nv m, .vl (tupN rows), .un, .un]) (fun M hM => ite2 (fun z => ?_) fun _ => hM _ rfl) ?_
  · rw [decide_eq_true_eq] at z; omega
  rintro _ rfl
  have c0 : (CB m).getD 0 0 = 1 ∧ RB m 0 = [ownRows m] ∧ (TB m).take 1 = [(ownRows m, [])] ∧ 1 ≤ (CB m).length ∧ (CB m).getD ((CB m).length - 1) 0 = (TB m).length := by
    match m, h1, h3 with
    | 1, _, _ => decide
    | 2, _, _ => decide
    | 3, _, _ => decide
  obtain ⟨c1, c2, c3, c4, c5⟩ := c0
  refine cutS (fun ρ => ρ = [.vl (wishD m rows), nv m, .vl (tupN rows), .ow [tupN (ownRows m)], .un]) (fun M hM => ⟨rfl, m, rfl, by omega, by simp, hM _ rfl⟩) ?_
  rintro _ rfl
  refine cutS (fun ρ => ρ = [.vl (wishD m rows), nv m, .vl (tupN rows), .ow ((RB m 0).map tupN), .dt (dtW ((TB m).take ((CB m).getD 0 0)))]) (fun M hM => gIx_l (i := 0) (ds := [tupN (ownRows m)]) (d := tupN (ownRows m)) rfl rfl ⟨by simp, gTKey_ok (keyT_n _) (hM _ ?_)⟩) ?_
  · rw [c1, c2, c3]; rfl
  rintro _ rfl
  refine cutS (fun ρ => ∃ k, ixT (TB m) rows < (CB m).getD k 0 ∧ ρ = [.vl (wishD m rows), nv m, .vl (tupN rows), .ow ((RB m k).map tupN), .dt (dtW ((TB m).take ((CB m).getD k 0)))]) (fun M hM => whA_inv (fun ρ => ∃ k, k < (CB m).length ∧ ρ = [.vl (wishD m rows), nv m, .vl (tupN rows), .ow ((RB m k).map tupN), .dt (dtW ((TB m).take ((CB m).getD k 0)))]) (fun ρ => match ρ with | [_, _, _, _, .dt kvs] => 200 - kvs.length | _ => 0) ?_ _ ⟨0, by omega, rfl⟩) ?_
  · rintro _ N ⟨k, hk, rfl⟩ hN
    refine gTKey_ok (keyT_n _) ?_
    show if (!(valD (dtW ((TB m).take ((CB m).getD k 0))) (kyN rows)).isSome) = true then _ else _
    by_cases hx : ixT (TB m) rows < (CB m).getD k 0
    · have ev : (valD (dtW ((TB m).take ((CB m).getD k 0))) (kyN rows)).isSome = true := by rw [dtW_val, lk_tk hx, hw]; rfl
      rw [ev]
      exact hM _ ⟨k, hx, rfl⟩
    · have ev : (valD (dtW ((TB m).take ((CB m).getD k 0))) (kyN rows)).isSome = false := by rw [dtW_val, lkT_take, if_neg hx]; rfl
      rw [ev]
      have hix := lk_ix hw
      have hk1 : k + 1 < (CB m).length := by
        apply Classical.byContradiction
        intro z
        have : k = (CB m).length - 1 := by omega
        rw [this, c5] at hx
        exact hx hix
      refine ⟨rfl, m, k, h1, h3, hk1, rfl, hN _ ⟨k + 1, hk1, rfl⟩ ?_⟩
      show 200 - (dtW ((TB m).take ((CB m).getD (k + 1) 0))).length < 200 - (dtW ((TB m).take ((CB m).getD k 0))).length
      have u := cb_up h1 h3 k hk1
      have u2 := cb_le h1 h3 (k + 1)
      have u3 := tb_len h1 h3
      rw [dtW_len, dtW_len, List.length_take, List.length_take]
      omega
  rintro _ ⟨k, hk, rfl⟩
  refine gTGet_ok (keyT_n _) (x := wyD wy) ?_ hq
  rw [dtW_val, lk_tk hk, hw]; rfl
end
end K64
set_option Elab.async false
set_option linter.all false
set_option maxRecDepth 100000
set_option maxHeartbeats 1000000
namespace K64
open PySem PySem.Spec PyProof.Rows L2
def dtB (cs : List (List Nat)) : List (List Key × D) := cs.map fun c => (kyN c, .bl true)
theorem dtB_len (cs : List (List Nat)) : (dtB cs).length = cs.length := by unfold dtB; rw [List.length_map]
theorem nodup_le {α : Type} [DecidableEq α] : ∀ (xs ys : List α), xs.Nodup → (∀ x ∈ xs, x ∈ ys) → xs.length ≤ ys.length
  | [], ys, _, _ => Nat.zero_le _
  | x :: xs, ys, hn, hs => by
    obtain ⟨h1, h2⟩ := List.nodup_cons.mp hn
    have hx := hs x (.head _)
    have := nodup_le xs (ys.erase x) h2 fun y hy => by
      have ne : y ≠ x := fun e => h1 (e ▸ hy)
      exact (List.mem_erase_of_ne ne).mpr (hs y (.tail _ hy))
    rw [List.length_erase_of_mem hx] at this
    have := List.length_pos_of_mem hx
    rw [List.length_cons]; omega
theorem dtB_val (c : List Nat) : ∀ cs : List (List Nat), valD (dtB cs) (kyN c) = if c ∈ cs then some (.bl true) else none
  | [] => rfl
  | e :: cs => by
    have ih := dtB_val c cs
    unfold valD dtB at *
    rw [List.map_cons, List.find?_cons]
    by_cases h : e = c
    · have h1 : decide (kyN e = kyN c) = true := decide_eq_true (by rw [h])
      simp only [h1]
      rw [if_pos (by rw [h]; exact .head _)]; rfl
    · have h1 : decide (kyN e = kyN c) = false := decide_eq_false fun q => h (kyN_inj q)
      simp only [h1]
      rw [ih]
      by_cases h2 : c ∈ cs
      · rw [if_pos h2, if_pos (.tail _ h2)]
      · rw [if_neg h2, if_neg fun z => by rcases List.mem_cons.mp z with z | z; exact h z.symm; exact h2 z]
theorem dtB_any (c : List Nat) (cs : List (List Nat)) : ((dtB cs).any fun kv => decide (kv.1 = kyN c)) = decide (c ∈ cs) := by
  unfold dtB
  rw [List.any_map]
  by_cases h : c ∈ cs
  · rw [decide_eq_true h, List.any_eq_true]
    exact ⟨c, h, decide_eq_true rfl⟩
  · rw [decide_eq_false h, List.any_eq_false]
    intro x hx
    have : ¬ kyN x = kyN c := fun q => h (kyN_inj q ▸ hx)
    simpa using this
theorem dtB_put (c : List Nat) (cs : List (List Nat)) (hn : cs.Nodup) : ∃ cs', putD (dtB cs) (kyN c) (.bl true) = dtB cs' ∧ cs'.Nodup ∧ ∀ x, x ∈ cs' ↔ x ∈ cs ∨ x = c := by
  unfold putD
  rw [dtB_any]
  by_cases h : c ∈ cs
  · rw [if_pos (decide_eq_true h)]
    refine ⟨cs, ?_, hn, fun x => ⟨.inl, fun z => z.elim id fun e => e ▸ h⟩⟩
    unfold dtB
    rw [List.map_map]
    refine List.map_congr_left fun x hx => ?_
    show (if kyN x = kyN c then (kyN x, D.bl true) else (kyN x, D.bl true)) = _
    split <;> rfl
  · rw [if_neg (by rw [decide_eq_false h]; decide)]
    refine ⟨cs ++ [c], by unfold dtB; rw [List.map_append]; rfl, ?_, fun x => by simp⟩
    rw [List.nodup_append]
    exact ⟨hn, by simp, fun a ha b hb => by rw [List.mem_singleton.mp hb]; exact fun z => h (z ▸ ha)⟩
theorem keyTD_dtB (cs : List (List Nat)) : (dtB cs).map keyTD = cs.map tupN := by
  unfold dtB
  rw [List.map_map]
  refine List.map_congr_left fun c _ => ?_
  show D.tup ((kyN c).map kD) = D.tup (natsD c)
  congr 1
  unfold kyN natsD
  rw [List.map_map]; rfl
theorem set_cut {c : List Nat} {a b : Nat} (hb : b < c.length) : (c.take b ++ [c.getD b 0 ^^^ c.getD a 0]) ++ c.drop (b + 1) = stepC c (a, b) := by
  unfold stepC
  rw [List.set_eq_take_append_cons_drop, if_pos hb, Nat.xor_comm, List.append_assoc]; rfl
def Rch (m : Nat) (cs : List (List Nat)) (x : List Nat) : Prop := ∃ c ∈ cs, ∃ p, StepOk m p ∧ x = stepC c p
abbrev bodyB : AS := aFor (aRng1 (aCons (aVar 0) aNil)) (gaName 4)
          (aFor (aRng1 (aCons (aVar 0) aNil)) (gaName 5)
            (aIfS (aB (aOp (gEq true) (aVar 4) (aVar 5)))
              (aDPutT (aC (R.d (D.bl true))) (aVar 2)
                (aOp gCatT
                  (aOp gCatT (aSlT (aVar 3) oNo (oPart (aVar 5)))
                    (aTup
                      (aCons
                        (aOp (gI0 fun i j => D.int (Builtin.bitXor i j)) (aOp gIx (aVar 3) (aVar 5))
                          (aOp gIx (aVar 3) (aVar 4)))
                        aNil)))
                  (aSlT (aVar 3) (oPart (aOp (gI0 fun i j => D.int (i + j)) (aVar 5) (aC (R.d (D.int 1))))) oNo)))
              aNext))
theorem turnB {m : Nat} (h1 : 1 ≤ m) (h3 : m ≤ 3) {sx : Sv} {c : List Nat} {cs0 cs1 : List (List Nat)} {s4 s5 : Sv} {M : En → Prop} {e : AEnds} (hc : ∃ w, lkT (TB m) c = some w) (hlk : ∀ c ∈ cs0, ∃ w, lkT (TB m) c = some w) (hn : cs1.Nodup) (hm : ∀ x, x ∈ cs1 ↔ Rch m cs0 x)
    (hM : ∀ cs2 s4 s5, cs2.Nodup → (∀ x, x ∈ cs2 ↔ Rch m (cs0 ++ [c]) x) → M [nv m, sx, .dt (dtB cs2), .vl (tupN c), s4, s5]) :
    bodyB { nx := M, ct := M, bk := e.nx, rt := e.rt } [nv m, sx, .dt (dtB cs1), .vl (tupN c), s4, s5] := by
  have F := fct h1 h3
  have tl := tb_len h1 h3
  obtain ⟨wc, hwc⟩ := hc
  have cl : c.length = m := F.ln _ (lk_mem hwc)
  have reach : ∀ {cs : List (List Nat)}, cs.Nodup → (∀ x ∈ cs, ∃ w, lkT (TB m) x = some w) → cs.length ≤ 168 := fun {cs} hn h => by
    have := nodup_le cs ((TB m).map Prod.fst) hn fun x hx => by
      obtain ⟨w, hw⟩ := h x hx
      exact List.mem_map.mpr ⟨_, lk_mem hw, rfl⟩
    rw [List.length_map] at this; omega
  have step_lk : ∀ {c : List Nat} {p}, (∃ w, lkT (TB m) c = some w) → StepOk m p → ∃ w, lkT (TB m) (stepC c p) = some w := fun {c p} ⟨w, hw⟩ hp => by
    obtain ⟨w', h, _⟩ := F.nx _ (lk_mem hw) p hp
    exact ⟨w', h⟩
  refine ⟨⟨by omega, by omega⟩, ?_⟩
  rw [Int.toNat_natCast]
  refine forA_rng (fun a ρ => ∃ cs2 s4 s5, cs2.Nodup ∧ (∀ x, x ∈ cs2 ↔ Rch m cs0 x ∨ ∃ p, StepOk m p ∧ p.1 < a ∧ x = stepC c p) ∧ ρ = [nv m, sx, .dt (dtB cs2), .vl (tupN c), s4, s5]) (fun _ _ _ => trivial) ?_ ?_ ⟨cs1, s4, s5, hn, fun x => ⟨fun z => .inl ((hm x).mp z), fun z => by
    rcases z with z | ⟨p, _, h, _⟩
    · exact (hm x).mpr z
    · omega⟩, rfl⟩
  · rintro a _ M1 ha ⟨cs2, s4, s5, hn2, hm2, rfl⟩ hM1
    rw [Int.zero_add]
    refine ⟨⟨by omega, by omega⟩, ?_⟩
    rw [Int.toNat_natCast]
    refine forA_rng (fun b ρ => ∃ cs3 s5, cs3.Nodup ∧ (∀ x, x ∈ cs3 ↔ Rch m cs0 x ∨ ∃ p, StepOk m p ∧ (p.1 < a ∨ p.1 = a ∧ p.2 < b) ∧ x = stepC c p) ∧ ρ = [nv m, sx, .dt (dtB cs3), .vl (tupN c), nv a, s5]) (fun _ _ _ => trivial) ?_ ?_ ⟨cs2, s5, hn2, fun x => ?_, rfl⟩
    · rintro b _ M2 hb ⟨cs3, s5, hn3, hm3, rfl⟩ hM2
      rw [Int.zero_add]
      refine gEq_ok rfl rfl (by simp [D.depth]) (eqD_nn a b) ?_
      by_cases e : a = b
      · rw [decide_eq_true e]
        refine hM2 _ ⟨cs3, nv b, hn3, fun x => ?_, rfl⟩
        rw [hm3 x]
        constructor
        · rintro (z | ⟨p, h, h', h''⟩)
          · exact .inl z
          · exact .inr ⟨p, h, by omega, h''⟩
        · rintro (z | ⟨p, h, h', h''⟩)
          · exact .inl z
          · refine .inr ⟨p, h, ?_, h''⟩
            have := h.2.2
            omega
      · rw [decide_eq_false e]
        have l3 : cs3.length ≤ 168 := reach hn3 fun x hx => by
          rcases (hm3 x).mp hx with ⟨d, hd, p, hp, rfl⟩ | ⟨p, hp, _, rfl⟩
          · exact step_lk (hlk d hd) hp
          · exact step_lk ⟨wc, hwc⟩ hp
        have ek : (L2.cutD (natsD c) none (some ((b : Nat) : Int)) ++ [D.int (Builtin.bitXor ((c.getD b 0 : Nat) : Int) ((c.getD a 0 : Nat) : Int))]) ++ L2.cutD (natsD c) (some (((b + 1 : Nat)) : Int)) none = natsD (stepC c (a, b)) := by
          rw [cutD_take, cutD_drop, xor_nat, ← set_cut (c := c) (a := a) (by omega)]
          unfold natsD
          rw [List.map_append, List.map_append, List.map_take, List.map_drop]; rfl
        obtain ⟨cs4, hp4, hn4, hm4⟩ := dtB_put (stepC c (a, b)) cs3 hn3
        have lc : (natsD c).length = m := by rw [natsD_len]; exact cl
        have l1 : (L2.cutD (natsD c) none (some ((b : Nat) : Int))).length ≤ 3 := by rw [cutD_take, List.length_take]; omega
        have l2 : (L2.cutD (natsD c) (some (((b : Nat) : Int) + 1)) none).length ≤ 3 := by
          have := cutD_drop (natsD c) (b + 1)
          rw [show (((b + 1 : Nat)) : Int) = ((b : Nat) : Int) + 1 by omega] at this
          rw [this, List.length_drop]; omega
        rw [show (((b + 1 : Nat)) : Int) = ((b : Nat) : Int) + 1 by omega] at ek
        refine gIx_t rfl (atI_nats (by omega)) (gIx_t rfl (atI_nats (by omega)) ⟨by simp, ⟨by simp only [List.length_append, List.length_cons, List.length_nil]; omega, ⟨by simp only [List.length_append, List.length_cons, List.length_nil]; omega, ?_⟩⟩⟩)
        refine gTKey_ok (k := kyN (stepC c (a, b))) ?_ ⟨by rw [dtB_len]; omega, ?_⟩
        · rw [ek]; exact keyT_n _
        · rw [hp4]
          refine hM2 _ ⟨cs4, nv b, hn4, fun x => ?_, rfl⟩
          rw [hm4 x, hm3 x]
          constructor
          · rintro ((z | ⟨p, h, h', h''⟩) | z)
            · exact .inl z
            · exact .inr ⟨p, h, by omega, h''⟩
            · exact .inr ⟨(a, b), ⟨ha, hb, e⟩, .inr ⟨rfl, Nat.lt_succ_self b⟩, z⟩
          · rintro (z | ⟨p, h, h', h''⟩)
            · exact .inl (.inl z)
            · by_cases q : p.1 = a ∧ p.2 = b
              · refine .inr ?_
                rw [h'', show p = (a, b) from Prod.ext q.1 q.2]
              · exact .inl (.inr ⟨p, h, by omega, h''⟩)
    · rintro _ ⟨cs3, s5, hn3, hm3, rfl⟩
      refine hM1 _ ⟨cs3, nv a, s5, hn3, fun x => ?_, rfl⟩
      rw [hm3 x]
      constructor
      · rintro (z | ⟨p, h, h', h''⟩)
        · exact .inl z
        · exact .inr ⟨p, h, by omega, h''⟩
      · rintro (z | ⟨p, h, h', h''⟩)
        · exact .inl z
        · refine .inr ⟨p, h, ?_, h''⟩
          have := h.2.1
          omega
    · rw [hm2 x]
      constructor
      · rintro (z | ⟨p, h, h', h''⟩)
        · exact .inl z
        · exact .inr ⟨p, h, .inl h', h''⟩
      · rintro (z | ⟨p, h, h', h''⟩)
        · exact .inl z
        · exact .inr ⟨p, h, by omega, h''⟩
  · rintro _ ⟨cs2, s4, s5, hn2, hm2, rfl⟩
    refine hM cs2 s4 s5 hn2 fun x => ?_
    rw [hm2 x]
    constructor
    · rintro (⟨d, hd, z⟩ | ⟨p, h, h', h''⟩)
      · exact ⟨d, List.mem_append_left _ hd, z⟩
      · exact ⟨c, by simp, p, h, h''⟩
    · rintro ⟨d, hd, p, h, h''⟩
      rcases List.mem_append.mp hd with hd | hd
      · exact .inl ⟨d, hd, p, h, h''⟩
      · rw [List.mem_singleton.mp hd] at h''
        exact .inr ⟨p, h, h.1, h''⟩
def SBeh : ASp := fun ss q => ∃ (m : Nat) (cs : List (List Nat)) (s1 : Sv), 1 ≤ m ∧ m ≤ 3 ∧ ss = [nv m, s1] ∧ (s1 = .dt (dtB cs) ∨ s1 = .ow (cs.map tupN)) ∧ (∀ c ∈ cs, ∃ w, lkT (TB m) c = some w) ∧ cs.length ≤ 168 ∧ ∀ (cs' : List (List Nat)) (s : Sv), cs'.Nodup → (∀ x, x ∈ cs' ↔ Rch m cs x) → (s = .un ∨ s = s1) → q (.n (.dt (dtB cs'))) [nv m, s]
section
variable {P : Program} {w : World} {K : PySem.W.Frag} {mg : Str → Option Value} {base : Heap}
theorem ok_law_behind_one (dn : DefN K mg "_law_behind_one" s_law_behind_one ["_law_many", "_law_found"]) (B : BI mg) : OkN P w K mg base 1 "_law_behind_one" ["_law_many", "_law_found"] (spA K SBeh) := by
  refine dn.aok2 (k := 0) sc_law_behind_one (fun j => j == 0 || j == 1) [.un, .un, .un, .un] SBeh rfl (fun f cdv A outer s H E hr => have hu := hu_of hr; ⟨_, (pss_cons (ps_set (i := 2) sc_law_behind_one.nd rfl (by first | exact Or.inl rfl | exact Or.inr rfl) pe_dnewT)
    (pss_cons (ps_for PassesOwn.never rfl (pi_or (pi_keysT (pv 1)) (pi_seqK K (pv 1))) (pg_name (i := 3) sc_law_behind_one.nd rfl (by first | exact Or.inl rfl | exact Or.inr rfl))
    (pss_one (ps_for PassesOwn.never rfl (pi_range1 rfl B.range_ (pa_cons (pv 0) pa_nil)) (pg_name (i := 4) sc_law_behind_one.nd rfl (by first | exact Or.inl rfl | exact Or.inr rfl))
    (pss_one (ps_for PassesOwn.never rfl (pi_range1 rfl B.range_ (pa_cons (pv 0) pa_nil)) (pg_name (i := 5) sc_law_behind_one.nd rfl (by first | exact Or.inl rfl | exact Or.inr rfl))
    (pss_one (ps_if (pt_cmpR (op_neD K hr.units) (pv 4) (pv 5) (nomark _))
    (pss_one (ps_dput hu (pv 2) (pe_op (op_catTA K) (pe_op (op_catTA K) (pe_slice (sl_tupA K) (pv 3) po_none (po_some (pv 5))) (pe_tup (pa_cons (pe_op op_xor (pe_ix (ix_seqK K) (pv 3) (pv 5) (fun _ _ => rfl)) (pe_ix (ix_seqK K) (pv 3) (pv 4) (fun _ _ => rfl))) pa_nil))) (pe_slice (sl_tupA K) (pv 3) (po_some (pe_op op_add (pv 5) pe_int)) po_none)) pe_bl rfl))
    pss_nil)))))))
    (pss_one (ps_ret (pv 2))))), (sok_seq (sok_set tok_dnewT rfl)
    (sok_seq (sok_for (pin := (fun j => j == 1)) (tiok_or (tiok_keysT tok_var) (tiok_seq tok_var)) (tgok_name rfl)
    (sok_for (pin := (fun _ => false)) (tiok_rng1 (taok_cons tok_var taok_nil)) (tgok_name rfl)
    (sok_for (pin := (fun _ => false)) (tiok_rng1 (taok_cons tok_var taok_nil)) (tgok_name rfl)
    (sok_if (ttok_test (tok_op ook_ne tok_var tok_var))
    (sok_dputT tok_bl tok_var (tok_op ook_catT (tok_op ook_catT (tok_slT tok_var took_no (took_part tok_var)) (tok_tup (taok_cons (tok_op ook_int0 (tok_op ook_ix tok_var tok_var) (tok_op ook_ix tok_var tok_var)) taok_nil))) (tok_slT tok_var (took_part (tok_op ook_int0 tok_var tok_int)) took_no)))
    sok_next))))
    (sok_ret tok_var)))⟩) ?_
  rintro ss q ⟨m, cs, s1, h1, h3, rfl, hs1, hlk, hcl, hq⟩
  have F := fct h1 h3
  have hcl' : ∀ i, ∀ c ∈ cs.take i, ∃ w, lkT (TB m) c = some w := fun i c hc => hlk c (List.mem_of_mem_take hc)
  rcases hs1 with rfl | rfl
  · refine ⟨rfl, rfl, ?_⟩
    refine cutS (fun ρ => ρ = [nv m, .dt (dtB cs), .dt (dtB []), .un, .un, .un]) (fun M hM => hM _ rfl) ?_
    rintro _ rfl
    refine cutS (fun ρ => ∃ cs' s3 s4 s5, cs'.Nodup ∧ (∀ x, x ∈ cs' ↔ Rch m cs x) ∧ ρ = [nv m, .un, .dt (dtB cs'), s3, s4, s5]) (fun M hM => .inl ?_) ?_
    · show forA _ _ _ _ ((dtB cs).map keyTD) _
      rw [keyTD_dtB]
      refine forA_lst tupN (fun i ρ => ∃ cs' s3 s4 s5, cs'.Nodup ∧ (∀ x, x ∈ cs' ↔ Rch m (cs.take i) x) ∧ ρ = [nv m, .un, .dt (dtB cs'), s3, s4, s5]) (fun _ _ _ => trivial) ?_ ?_ ⟨[], .un, .un, .un, List.nodup_nil, fun x => ⟨(fun z => nomatch z), (fun ⟨c, hc, _⟩ => nomatch hc)⟩, rfl⟩
      · rintro i c _ M1 hi ⟨cs', s3, s4, s5, hn, hm, rfl⟩ hM1
        refine turnB h1 h3 (hlk c (List.mem_of_getElem? hi)) (hcl' i) hn hm fun cs2 s4 s5 hn2 hm2 => hM1 _ ⟨cs2, _, s4, s5, hn2, ?_, rfl⟩
        rw [take_snoc hi]; exact hm2
      · rintro _ ⟨cs', s3, s4, s5, hn, hm, rfl⟩
        rw [List.take_length] at hm
        exact hM _ ⟨cs', s3, s4, s5, hn, hm, rfl⟩
    rintro _ ⟨cs', s3, s4, s5, hn, hm, rfl⟩
    exact hq cs' .un hn hm (.inl rfl)
  · refine ⟨rfl, rfl, ?_⟩
    refine cutS (fun ρ => ρ = [nv m, .ow (cs.map tupN), .dt (dtB []), .un, .un, .un]) (fun M hM => hM _ rfl) ?_
    rintro _ rfl
    refine cutS (fun ρ => ∃ cs' s3 s4 s5, cs'.Nodup ∧ (∀ x, x ∈ cs' ↔ Rch m cs x) ∧ ρ = [nv m, .ow (cs.map tupN), .dt (dtB cs'), s3, s4, s5]) (fun M hM => .inr ⟨rfl, ?_⟩) ?_
    · refine forA_lst tupN (fun i ρ => ∃ cs' s3 s4 s5, cs'.Nodup ∧ (∀ x, x ∈ cs' ↔ Rch m (cs.take i) x) ∧ ρ = [nv m, .ow (cs.map tupN), .dt (dtB cs'), s3, s4, s5]) (fun k ρ ⟨_, _, _, _, _, _, e⟩ => by subst e; rfl) ?_ ?_ ⟨[], .un, .un, .un, List.nodup_nil, fun x => ⟨(fun z => nomatch z), (fun ⟨c, hc, _⟩ => nomatch hc)⟩, rfl⟩
      · rintro i c _ M1 hi ⟨cs', s3, s4, s5, hn, hm, rfl⟩ hM1
        refine turnB h1 h3 (hlk c (List.mem_of_getElem? hi)) (hcl' i) hn hm fun cs2 s4 s5 hn2 hm2 => hM1 _ ⟨cs2, _, s4, s5, hn2, ?_, rfl⟩
        rw [take_snoc hi]; exact hm2
      · rintro _ ⟨cs', s3, s4, s5, hn, hm, rfl⟩
        rw [List.take_length] at hm
        exact hM _ ⟨cs', s3, s4, s5, hn, hm, rfl⟩
    rintro _ ⟨cs', s3, s4, s5, hn, hm, rfl⟩
    exact hq cs' _ hn hm (.inr rfl)
end
end K64
set_option Elab.async false
set_option linter.all false
set_option maxRecDepth 100000
set_option maxHeartbeats 1000000
namespace K64
open PySem PySem.Spec PyProof.Rows L2
def Lv (m k : Nat) (c : List Nat) : Prop := ∃ w, lkT (TB m) c = some w ∧ w.length = k
theorem tb_six {m : Nat} (h1 : 1 ≤ m) (h3 : m ≤ 3) : ∀ e ∈ TB m, e.2.length ≤ 6 := by
  match m, h1, h3 with
  | 1, _, _ => decide
  | 2, _, _ => decide
  | 3, _, _ => decide
theorem lv_next {m k : Nat} (h1 : 1 ≤ m) (h3 : m ≤ 3) {cs : List (List Nat)} (hc : ∀ x, x ∈ cs ↔ Lv m k x) (x : List Nat) : (Rch m cs x ∧ ¬ ∃ j, j ≤ k ∧ Lv m j x) ↔ Lv m (k + 1) x := by
  have F := fct h1 h3
  constructor
  · rintro ⟨⟨c, hcs, p, hp, rfl⟩, hno⟩
    obtain ⟨w, hw, hl⟩ := (hc c).mp hcs
    obtain ⟨w', hw', l1, l2⟩ := F.nx _ (lk_mem hw) p hp
    have l1 : w'.length ≤ w.length + 1 := l1
    refine ⟨w', hw', ?_⟩
    by_cases q : w'.length ≤ k
    · exact (hno ⟨w'.length, q, w', hw', rfl⟩).elim
    · omega
  · rintro ⟨w, hw, hl⟩
    have haf := F.af _ (lk_mem hw)
    have hst := F.st _ (lk_mem hw)
    refine ⟨?_, fun ⟨j, hj, w2, hw2, hl2⟩ => by rw [hw] at hw2; cases hw2; omega⟩
    obtain ⟨w0, p, rfl⟩ : ∃ w0 p, w = w0 ++ [p] := by
      rcases List.eq_nil_or_concat w with z | ⟨w0, p, z⟩
      · rw [z] at hl; cases hl
      · exact ⟨w0, p, by rw [z, List.concat_eq_append]⟩
    have hp : StepOk m p := hst p (by simp)
    have ok0 : ∀ q ∈ w0, StepOk m q := fun q hq => hst q (by simp [hq])
    obtain ⟨w1, hw1, l1⟩ := few_le F w0 (own_lk h1 h3) ok0
    have e : x = stepC (w0.foldl stepC (ownRows m)) p := by
      rw [← show afterN m (w0 ++ [p]) = x from haf]
      unfold afterN
      rw [List.foldl_append]; rfl
    obtain ⟨w2, hw2, l2, _⟩ := F.nx _ (lk_mem hw1) p hp
    have l2 : w2.length ≤ w1.length + 1 := l2
    have hw2 : lkT (TB m) (stepC (w0.foldl stepC (ownRows m)) p) = some w2 := hw2
    rw [← e, hw] at hw2
    cases hw2
    have lw : (w0 ++ [p]).length = w0.length + 1 := by simp
    have l1 : w1.length ≤ 0 + w0.length := l1
    refine ⟨_, (hc _).mpr ⟨w1, hw1, by omega⟩, p, hp, e⟩
theorem lv_zero {m : Nat} (h1 : 1 ≤ m) (h3 : m ≤ 3) (x : List Nat) : x ∈ [ownRows m] ↔ Lv m 0 x := by
  have F := fct h1 h3
  constructor
  · intro h
    rw [List.mem_singleton.mp h]
    exact ⟨[], own_lk h1 h3, rfl⟩
  · rintro ⟨w, hw, hl⟩
    rw [List.length_eq_zero_iff.mp hl] at hw
    have := F.af _ (lk_mem hw)
    rw [← show afterN m [] = x from this]
    simp [afterN]
def SLeast : ASp := fun ss q => ∃ (m : Nat) (rows : List Nat) (wy : List (Nat × Nat)), 1 ≤ m ∧ m ≤ 3 ∧ lkT (TB m) rows = some wy ∧ ss = [nv m, .ow (natsD rows)] ∧ q (.d (nD wy.length)) [nv m, .ow (natsD rows)]
section
variable {P : Program} {w : World} {K : PySem.W.Frag} {mg : Str → Option Value} {base : Heap}
theorem ok_law_least (dn : DefN K mg "_law_least" s_law_least ["_law_many", "_law_rows"]) (B : BI mg) (g_law_behind_one : OkN P w K mg base 1 "_law_behind_one" ["_law_many", "_law_found"] (spA K SBeh)) : OkN P w K mg base 2 "_law_least" ["_law_many", "_law_rows"] (spA K SLeast) := by
  refine dn.aok2 (k := 1) sc_law_least (fun j => j == 0 || j == 1) [.un, .un, .un, .un] SLeast rfl (fun f cdv A outer s H E hr => have hu := hu_of hr; ⟨_, (pss_cons (ps_set (i := 2) sc_law_least.nd rfl (by first | exact Or.inl rfl | exact Or.inr rfl) (pe_dispT hu (pe_callTy (call_tupleK K) rfl B.tuple_ bt_tuple (pa_cons (pe_comp ["_law_k"] [] rfl (Blk.of (defScope s_law_least) nm_law_least) (pi_range1 rfl B.range_ (pa_cons (pv 0) pa_nil)) (fun _ _ _ _ nd => (pg_name (i := 0) nd rfl (by first | exact Or.inl rfl | exact Or.inr rfl))) (fun _ _ _ _ => pts_nil) (fun _ _ _ _ => (pe_op op_shl pe_int (pv 0)))) pa_nil)) pe_bl))
    (pss_cons (ps_set (i := 3) sc_law_least.nd rfl (by first | exact Or.inl rfl | exact Or.inr rfl) (pe_callTy call_dictT rfl B.dict_ bt_dict (pa_cons (pv 2) pa_nil)))
    (pss_cons (ps_set (i := 4) sc_law_least.nd rfl (by first | exact Or.inl rfl | exact Or.inr rfl) pe_int)
    (pss_cons (ps_while PassesOwn.never (PW.pt (pw_and (pt_cmp (pc_dnotin hu (pe_callTy (call_tupleK K) rfl B.tuple_ bt_tuple (pa_cons (pv 1) pa_nil)) (pv 3))) (pw_and1 (pt_cmpR op_lt (pv 4) pe_int (nomark _)))))
    (pss_cons (ps_setC (i := 2) ["_law_held"] [3] sc_law_least.nd rfl (by first | exact Or.inl rfl | exact Or.inr rfl) rfl (Blk.of (defScope s_law_least) nm_law_least) (pi_keysT (pe_fn g_law_behind_one (hr.mono (by decide)) (pa_cons (pv 0) (pa_cons (pv 2) pa_nil)))) (fun _ _ _ _ nd => (pg_name (i := 0) nd rfl (by first | exact Or.inl rfl | exact Or.inr rfl))) (fun _ _ _ _ => (pts_one (pt_cmp (pc_dnotin hu (pv 0) (pv 1))))) (fun _ _ _ _ => (pv 0)))
    (pss_cons (ps_for PassesOwn.never rfl (pi_or (pi_keysT (pv 2)) (pi_seqK K (pv 2))) (pg_name (i := 5) sc_law_least.nd rfl (by first | exact Or.inl rfl | exact Or.inr rfl))
    (pss_one (ps_dput hu (pv 3) (pv 5) pe_bl rfl)))
    (pss_one (ps_set (i := 4) sc_law_least.nd rfl (by first | exact Or.inl rfl | exact Or.inr rfl) (pe_op op_add (pv 4) pe_int))))))
    (pss_one (ps_ret (pv 4))))))), (sok_seq (sok_set (tok_dispT (tok_cb cbok_tuple (taok_cons (tok_comp (tiok_rng1 (taok_cons tok_var taok_nil)) (tgok_name rfl) ttok_all (tok_op ook_int tok_int tok_var)) taok_nil)) tok_bl) rfl)
    (sok_seq (sok_set (tok_cb cbok_dictT (taok_cons tok_var taok_nil)) rfl)
    (sok_seq (sok_set tok_int rfl)
    (sok_seq (sok_while (ttok_and (ttok_test (tok_dnotinT (tok_cb cbok_tuple (taok_cons tok_var taok_nil)) tok_var)) (ttok_test (tok_op ook_bl0 tok_var tok_int)))
    (sok_seq (sok_setC (tok_comp (tiok_keysT (tok_call (taok_cons tok_var (taok_cons tok_var taok_nil)))) (tgok_name rfl) (ttok_test (tok_dnotinT tok_var tok_var)) tok_var) rfl)
    (sok_seq (sok_for (pin := (fun j => j == 2)) (tiok_or (tiok_keysT tok_var) (tiok_seq tok_var)) (tgok_name rfl)
    (sok_dputT tok_bl tok_var tok_var))
    (sok_set (tok_op ook_int0 tok_var tok_int) rfl))))
    (sok_ret tok_var)))))⟩) ?_
  rintro ss q ⟨m, rows, wy, h1, h3, hw, rfl, hq⟩
  have F := fct h1 h3
  have hrl : rows.length = m := F.ln _ (lk_mem hw)
  have h6 : wy.length ≤ 6 := tb_six h1 h3 _ (lk_mem hw)
  have reach : ∀ {cs : List (List Nat)}, cs.Nodup → (∀ x ∈ cs, ∃ w, lkT (TB m) x = some w) → cs.length ≤ 168 := fun {cs} hn h => by
    have := nodup_le cs ((TB m).map Prod.fst) hn fun x hx => by
      obtain ⟨w, hw⟩ := h x hx
      exact List.mem_map.mpr ⟨_, lk_mem hw, rfl⟩
    have tl := tb_len h1 h3
    rw [List.length_map] at this; omega
  refine ⟨rfl, rfl, ?_⟩
  refine cutS (fun ρ => ρ = [nv m, .ow (natsD rows), .dt (dtB [ownRows m]), .un, .un, .un]) (fun M hM => ⟨⟨by omega, by omega⟩, by rw [rngD_len]; omega, ?_⟩) ?_
  · rw [Int.toNat_natCast]
    refine compA_rng (fun k => nD (1 <<< k)) trivial (fun k acc M3 hk hM3 => ?_) ?_
    · rw [Int.zero_add]
      refine ⟨⟨by omega, by omega, by decide⟩, ?_⟩
      exact (congrArg (fun z => M3 (acc ++ [D.int z]) _) (shl_nat k)).mpr hM3
    · have e : ((List.range m).map fun k => nD (1 <<< k)) = natsD (ownRows m) := by unfold ownRows natsD; rw [List.map_map]; rfl
      rw [e]
      exact gTKey_ok (keyT_n _) (hM _ rfl)
  rintro _ rfl
  refine cutS (fun ρ => ρ = [nv m, .ow (natsD rows), .dt (dtB [ownRows m]), .dt (dtB [ownRows m]), .un, .un]) (fun M hM => ⟨rfl, hM _ rfl⟩) ?_
  rintro _ rfl
  refine cutS (fun ρ => ρ = [nv m, .ow (natsD rows), .dt (dtB [ownRows m]), .dt (dtB [ownRows m]), nv 0, .un]) (fun M hM => hM _ rfl) ?_
  rintro _ rfl
  refine cutS (fun ρ => ∃ s2 s3 s5, ρ = [nv m, .ow (natsD rows), s2, s3, nv wy.length, s5]) (fun M hM => whA_inv (fun ρ => ∃ (k : Nat) (cs ks : List (List Nat)) (s2 s5 : Sv), k ≤ wy.length ∧ cs.Nodup ∧ ks.Nodup ∧ (∀ x, x ∈ cs ↔ Lv m k x) ∧ (∀ x, x ∈ ks ↔ ∃ j, j ≤ k ∧ Lv m j x) ∧ (s2 = .dt (dtB cs) ∨ s2 = .ow (cs.map tupN)) ∧ ρ = [nv m, .ow (natsD rows), s2, .dt (dtB ks), nv k, s5]) (fun ρ => match gt ρ 4 with | .vl (.int z) => 10 - z.toNat | _ => 0) ?_ _ ⟨0, [ownRows m], [ownRows m], _, _, Nat.zero_le _, by simp, by simp, lv_zero h1 h3, fun x => ?_, .inl rfl, rfl⟩) ?_
  · rintro _ N ⟨k, cs, ks, s2, s5, hk, hn, hkn, hc, hks, hs2, rfl⟩ hN
    have kl : ∀ {ks : List (List Nat)} {k : Nat}, ks.Nodup → (∀ x, x ∈ ks ↔ ∃ j, j ≤ k ∧ Lv m j x) → ks.length ≤ 168 := fun {ks k} hn h => reach hn fun x hx => by
      obtain ⟨j, _, w, hw, _⟩ := (h x).mp hx
      exact ⟨w, hw⟩
    have cl : cs.length ≤ 168 := reach hn fun x hx => by
      obtain ⟨w, hw, _⟩ := (hc x).mp hx
      exact ⟨w, hw⟩
    have clk : ∀ c ∈ cs, ∃ w, lkT (TB m) c = some w := fun c hx => by
      obtain ⟨w, hw, _⟩ := (hc c).mp hx
      exact ⟨w, hw⟩
    refine gTKey_ok (keyT_n _) ?_
    show if (!(valD (dtB ks) (kyN rows)).isSome) = true then _ else _
    rw [dtB_val]
    by_cases hx : rows ∈ ks
    · rw [if_pos hx]
      obtain ⟨j, hj, w, hw', hl⟩ := (hks rows).mp hx
      rw [hw] at hw'; cases hw'
      have : k = wy.length := by omega
      subst this
      exact hM _ ⟨_, _, _, rfl⟩
    · rw [if_neg hx]
      have hk1 : k < wy.length := by
        apply Classical.byContradiction
        intro z
        exact hx ((hks rows).mpr ⟨wy.length, by omega, wy, hw, rfl⟩)
      have e9 : decide ((k : Int) < 9) = true := decide_eq_true (by omega)
      show if decide ((k : Int) < 9) = true then _ else _
      rw [if_pos e9]
      have next : ∀ (cs' : List (List Nat)) (s : Sv), cs'.Nodup → (∀ x, x ∈ cs' ↔ Rch m cs x) → cs'.length ≤ 168 := fun cs' s hn' hm' => reach hn' fun x hx => by
        obtain ⟨c, hcc, p, hp, rfl⟩ := (hm' x).mp hx
        obtain ⟨w, hw⟩ := clk c hcc
        obtain ⟨w', h, _⟩ := F.nx _ (lk_mem hw) p hp
        exact ⟨w', h⟩
      refine cutS (fun ρ => ∃ cs2 : List (List Nat), cs2.Nodup ∧ (∀ x, x ∈ cs2 ↔ Lv m (k + 1) x) ∧ ρ = [nv m, .ow (natsD rows), .ow (cs2.map tupN), .dt (dtB ks), nv k, s5]) (fun M2 hM2 => ?_) ?_
      · have comp : ∀ (cs' : List (List Nat)) (s : Sv), cs'.Nodup → (∀ x, x ∈ cs' ↔ Rch m cs x) → M2 [nv m, .ow (natsD rows), .ow ((cs'.filter fun c => decide (c ∉ ks)).map tupN), .dt (dtB ks), nv k, s5] := fun cs' s hn' hm' => hM2 _ ⟨_, hn'.filter _, fun x => by
          rw [List.mem_filter, decide_eq_true_eq, hm' x, hks x]
          exact lv_next h1 h3 hc x, rfl⟩
        rcases hs2 with rfl | rfl
        all_goals
          refine ⟨rfl, m, cs, _, h1, h3, rfl, by first | exact .inl rfl | exact .inr rfl, clk, cl, fun cs' s hn' hm' hs => ?_⟩
          have cl' := next cs' s hn' hm'
          refine ⟨by rw [List.length_map, dtB_len]; omega, ?_⟩
          rw [keyTD_dtB]
          refine compA_inv (fun i acc ρ => acc = ((cs'.take i).filter fun c => decide (c ∉ ks)).map tupN ∧ ρ = [nv m, .ow (natsD rows), s, .dt (dtB ks), nv k, s5]) ?_ ?_ ?_ _ ⟨rfl, rfl⟩
          · rintro i acc ρ _ ⟨_, rfl⟩; first | rfl | trivial
          · rintro i d acc _ M3 hi ⟨rfl, rfl⟩ hM3
            rw [List.getElem?_map] at hi
            obtain ⟨c, ec, rfl⟩ := Option.map_eq_some_iff.mp hi
            refine gTKey_ok (keyT_n _) ?_
            show if (!(valD (dtB ks) (kyN c)).isSome) = true then M3 (((cs'.take i).filter fun c => decide (c ∉ ks)).map tupN ++ [tupN c]) _ else M3 (((cs'.take i).filter fun c => decide (c ∉ ks)).map tupN) _
            rw [dtB_val]
            rw [take_snoc ec, List.filter_append, List.map_append] at hM3
            by_cases hcc : c ∈ ks
            · rw [if_pos hcc]
              exact hM3 _ _ ⟨by simp [hcc], rfl⟩
            · rw [if_neg hcc]
              exact hM3 _ _ ⟨by simp [hcc], rfl⟩
          · rintro acc _ ⟨rfl, rfl⟩
            rw [List.length_map, List.take_length]
            exact comp cs' s hn' hm'
      rintro _ ⟨cs2, hn2, hc2, rfl⟩
      have cl2 : cs2.length ≤ 168 := reach hn2 fun x hx => by
        obtain ⟨w, hw, _⟩ := (hc2 x).mp hx
        exact ⟨w, hw⟩
      refine cutS (fun ρ => ∃ (ks' : List (List Nat)) (s5 : Sv), ks'.Nodup ∧ (∀ x, x ∈ ks' ↔ x ∈ ks ∨ x ∈ cs2) ∧ ρ = [nv m, .ow (natsD rows), .ow (cs2.map tupN), .dt (dtB ks'), nv k, s5]) (fun M2 hM2 => .inr ⟨rfl, ?_⟩) ?_
      · refine forA_lst tupN (fun i ρ => ∃ (ks' : List (List Nat)) (s5 : Sv), ks'.Nodup ∧ (∀ x, x ∈ ks' ↔ x ∈ ks ∨ x ∈ cs2.take i) ∧ ρ = [nv m, .ow (natsD rows), .ow (cs2.map tupN), .dt (dtB ks'), nv k, s5]) (fun k ρ ⟨_, _, _, _, e⟩ => by subst e; rfl) ?_ ?_ ⟨ks, s5, hkn, fun x => by simp, rfl⟩
        · rintro i c _ M3 hi ⟨ks', s5, hn', hm', rfl⟩ hM3
          obtain ⟨ks2, e2, hn3, hm3⟩ := dtB_put c ks' hn'
          have l' : ks'.length ≤ 168 := reach hn' fun x hx => by
            rcases (hm' x).mp hx with h | h
            · obtain ⟨j, _, w, hw, _⟩ := (hks x).mp h
              exact ⟨w, hw⟩
            · obtain ⟨w, hw, _⟩ := (hc2 x).mp (List.mem_of_mem_take h)
              exact ⟨w, hw⟩
          refine gTKey_ok (keyT_n _) ⟨by rw [dtB_len]; omega, ?_⟩
          rw [e2]
          refine hM3 _ ⟨ks2, _, hn3, fun x => ?_, rfl⟩
          rw [hm3 x, hm' x, take_snoc hi, List.mem_append, List.mem_singleton, or_assoc]
        · rintro _ ⟨ks', s5, hn', hm', rfl⟩
          rw [List.take_length] at hm'
          exact hM2 _ ⟨ks', s5, hn', hm', rfl⟩
      rintro _ ⟨ks', s5, hn', hm', rfl⟩
      refine hN _ ⟨k + 1, cs2, ks', _, s5, hk1, hn2, hn', hc2, fun x => ?_, .inr rfl, ?_⟩ ?_
      · rw [hm' x, hks x, hc2 x]
        constructor
        · rintro (⟨j, hj, h⟩ | h)
          · exact ⟨j, by omega, h⟩
          · exact ⟨k + 1, Nat.le_refl _, h⟩
        · rintro ⟨j, hj, h⟩
          by_cases e : j = k + 1
          · exact .inr (e ▸ h)
          · exact .inl ⟨j, by omega, h⟩
      · rw [← nv_eq (show (k : Int) + 1 = ((k + 1 : Nat) : Int) by omega)]; rfl
      · show 10 - ((k : Int) + 1).toNat < 10 - ((k : Int)).toNat
        omega
  · rw [lv_zero h1 h3 x]
    exact ⟨fun h => ⟨0, Nat.le_refl _, h⟩, fun ⟨j, hj, h⟩ => by rw [Nat.le_zero.mp hj] at h; exact h⟩
  rintro _ ⟨s2, s3, s5, rfl⟩
  exact hq
end
end K64
set_option Elab.async false
set_option linter.all false
set_option maxRecDepth 100000
set_option maxHeartbeats 1000000
namespace K64
open PySem PySem.Spec PyProof.Rows L2
theorem noLs_nats : ∀ xs : List Nat, noLs (natsD xs) = true
  | [] => rfl
  | x :: xs => by
    show (true && noLs (natsD xs)) = true
    rw [noLs_nats xs]; rfl
theorem noLs_pairs : ∀ xs : List (Nat × Nat), noLs (xs.map L2.pairD) = true
  | [] => rfl
  | x :: xs => by
    show (true && noLs (xs.map L2.pairD)) = true
    rw [noLs_pairs xs]; rfl
theorem depths_pairs : ∀ js : List (Nat × Nat), depths (js.map L2.pairD) ≤ 1
  | [] => by simp [depths]
  | p :: js => by
    have := depths_pairs js
    rw [List.map_cons]
    unfold depths
    have e : (L2.pairD p).depth = 1 := by simp [L2.pairD, D.depth, depths]
    rw [e]; omega
section
variable {P : Program} {w : World} {K : PySem.W.Frag} {mg : Str → Option Value} {base : Heap}
theorem ok_law_whole (dn : DefN K mg "_law_whole" s_law_whole ["_law_found"]) (B : BI mg) : OkN P w K mg base 1 "_law_whole" ["_law_found"] (spA K SLawWhole) := by
  refine dn.aok2 (k := 0) sc_law_whole (fun j => j == 0) [] SLawWhole rfl (fun f cdv A outer s H E hr => have hu := hu_of hr; ⟨_, (pss_one (ps_ret (pe_and (pe_callB (call_isaD K) rfl B.isinstance_ bt_isinstance (pa_cons (pv 0) (pa_cons (pe_ty rfl B.int_ bt_int) pa_nil))) (pe_one (pe_not (pe_callB (call_isaD K) rfl B.isinstance_ bt_isinstance (pa_cons (pv 0) (pa_cons (pe_ty rfl B.bool_ bt_bool) pa_nil)))))))), (sok_ret (tok_andV (tok_cb cbok_isa (taok_cons tok_var (taok_cons tok_ty taok_nil))) (tok_notV (tok_cb cbok_isa (taok_cons tok_var (taok_cons tok_ty taok_nil))))))⟩) ?_
  rintro ss q ⟨d, rfl, hq⟩
  refine ⟨rfl, rfl, ?_⟩
  cases d with
  | non => exact gIsa_ok rfl isaT_non_int hq
  | str _ => exact gIsa_ok rfl isaT_str_int hq
  | tup _ => exact gIsa_ok rfl isaT_tuple_int hq
  | lst _ => exact gIsa_ok rfl isaT_list_int hq
  | bl b => exact gIsa_ok rfl isaT_bool_int (gIsa_ok rfl isaT_bool_bool hq)
  | int i => exact gIsa_ok rfl isaT_int_int (gIsa_ok rfl isaT_int_bool hq)
theorem ok_law (dn : DefN K mg "law" s_law ["_law_script"]) (B : BI mg) (g_law_tape : OkN P w K mg base 1 "_law_tape" ["_law_script"] (spA K STape)) (g_law_free_rows : OkN P w K mg base 2 "_law_free_rows" ["_law_tape_here", "_law_many"] (spA K SFree)) (g_law_least : OkN P w K mg base 2 "_law_least" ["_law_many", "_law_rows"] (spA K SLeast)) (g_fewest_steps : OkN P w K mg base 5 "fewest_steps" ["wish"] (spA K SFew)) (g_law_draw : OkN P w K mg base 1 "_law_draw" ["_law_tape_here", "_law_many"] (spA K SDraw)) (g_law_whole : OkN P w K mg base 1 "_law_whole" ["_law_found"] (spA K SLawWhole)) : OkN P w K mg base 6 "law" ["_law_script"] (spA K SLaw) := by
  refine dn.aok2 (k := 5) sc_law (fun j => j == 0) [.un, .un, .un, .un, .un, .un, .un, .un, .un, .un, .un] SLaw rfl (fun f cdv A outer s H E hr => have hu := hu_of hr; ⟨_, (pss_cons (ps_set (i := 1) sc_law.nd rfl (by first | exact Or.inl rfl | exact Or.inr rfl) (pe_fn g_law_tape (hr.mono (by decide)) (pa_cons (pv 0) pa_nil)))
    (pss_cons (ps_set (i := 2) sc_law.nd rfl (by first | exact Or.inl rfl | exact Or.inr rfl) (pe_op op_add pe_int (pe_fn g_law_draw (hr.mono (by decide)) (pa_cons (pv 1) (pa_cons pe_int pa_nil)))))
    (pss_cons (ps_set (i := 3) sc_law.nd rfl (by first | exact Or.inl rfl | exact Or.inr rfl) (pe_fn g_law_free_rows (hr.mono (by decide)) (pa_cons (pv 1) (pa_cons (pv 2) pa_nil))))
    (pss_cons (ps_set (i := 4) sc_law.nd rfl (by first | exact Or.inl rfl | exact Or.inr rfl) (pe_fn g_law_least (hr.mono (by decide)) (pa_cons (pv 2) (pa_cons (pv 3) pa_nil))))
    (pss_cons (ps_set (i := 5) sc_law.nd rfl (by first | exact Or.inl rfl | exact Or.inr rfl) (pe_fn g_fewest_steps (hr.mono (by decide)) (pa_cons (pe_tup (pa_cons (pv 2) (pa_cons (pe_callTy (call_tupleK K) rfl B.tuple_ bt_tuple (pa_cons (pv 3) pa_nil)) pa_nil))) pa_nil)))
    (pss_cons (ps_for PassesOwn.never rfl (pi_range1 rfl B.range_ (pa_cons pe_int pa_nil)) (pg_name (i := 6) sc_law.nd rfl (by first | exact Or.inl rfl | exact Or.inr rfl))
    (pss_cons (ps_set (i := 7) sc_law.nd rfl (by first | exact Or.inl rfl | exact Or.inr rfl) (pe_fn g_fewest_steps (hr.mono (by decide)) (pa_cons (pe_tup (pa_cons (pv 2) (pa_cons (pe_callTy (call_tupleK K) rfl B.tuple_ bt_tuple (pa_cons (pv 3) pa_nil)) pa_nil))) pa_nil)))
    (pss_cons (ps_if (PW.pt (pw_or (pt_not (pt_val (pe_callB (call_isaD K) rfl B.isinstance_ bt_isinstance (pa_cons (pv 7) (pa_cons (pe_ty rfl B.list_ bt_list) pa_nil))))) (pw_or (pt_cmpR (op_neD K hr.units) (pv 7) (pv 5) (nomark _)) (pw_or1 (pt_cmpR (op_neD K hr.units) (pe_callB (call_lenK K) rfl B.len_ bt_len (pa_cons (pv 7) pa_nil)) (pv 4) (nomark _))))))
    (pss_one (ps_ret pe_bl))
    pss_nil)
    (pss_cons (ps_setC (i := 8) ["_law_k"] [] sc_law.nd rfl (by first | exact Or.inl rfl | exact Or.inr rfl) rfl (Blk.of (defScope s_law) nm_law) (pi_range1 rfl B.range_ (pa_cons (pv 2) pa_nil)) (fun _ _ _ _ nd => (pg_name (i := 0) nd rfl (by first | exact Or.inl rfl | exact Or.inr rfl))) (fun _ _ _ _ => pts_nil) (fun _ _ _ _ => (pe_op op_shl pe_int (pv 0))))
    (pss_cons (ps_for PassesOwn.never rfl (pi_seqK K (pv 7)) (pg_name (i := 9) sc_law.nd rfl (by first | exact Or.inl rfl | exact Or.inr rfl))
    (pss_cons (ps_if (PW.pt (pw_or (pt_not (pt_val (pe_callB (call_isaD K) rfl B.isinstance_ bt_isinstance (pa_cons (pv 9) (pa_cons (pe_ty rfl B.tuple_ bt_tuple) pa_nil))))) (pw_or (pt_cmpR (op_neD K hr.units) (pe_callB (call_lenK K) rfl B.len_ bt_len (pa_cons (pv 9) pa_nil)) pe_int (nomark _)) (pw_or1 (pt_not (pt_val (pe_callB (call_allK K rfl) rfl B.all_ bt_all (pa_cons (pe_comp ["_law_cell"] [] rfl (Blk.of (defScope s_law) nm_law) (pi_seqK K (pv 9)) (fun _ _ _ _ nd => (pg_name (i := 0) nd rfl (by first | exact Or.inl rfl | exact Or.inr rfl))) (fun _ _ _ _ => pts_nil) (fun _ _ _ _ => (pe_fn g_law_whole (hr.mono (by decide)) (pa_cons (pv 0) pa_nil)))) pa_nil))))))))
    (pss_one (ps_ret pe_bl))
    pss_nil)
    (pss_cons (ps_asg (pv 9) (pg_tupK K (n := 2) rfl (pgs_cons (pg_name (i := 10) sc_law.nd rfl (by first | exact Or.inl rfl | exact Or.inr rfl)) (pgs_cons (pg_name (i := 11) sc_law.nd rfl (by first | exact Or.inl rfl | exact Or.inr rfl)) pgs_nil))))
    (pss_cons (ps_if (PW.pt (pw_or (pt_cmpR (op_eqD K hr.units) (pv 10) (pv 11) (nomark _)) (pw_or (pt_not (pt_chain op_le op_lt pe_int (pv 10) (pv 2))) (pw_or1 (pt_not (pt_chain op_le op_lt pe_int (pv 11) (pv 2)))))))
    (pss_one (ps_ret pe_bl))
    pss_nil)
    (pss_one (ps_asg (pe_op op_xor (pe_ix (ix_seqK K) (pv 8) (pv 11) (fun _ _ => rfl)) (pe_ix (ix_seqK K) (pv 8) (pv 10) (fun _ _ => rfl))) (pg_sub (pv 8) (pv 11) set_list)))))))
    (pss_cons (ps_if (pt_cmpR (op_neD K hr.units) (pv 8) (pv 3) (nomark _))
    (pss_one (ps_ret pe_bl))
    pss_nil)
    (pss_one (ps_expr (pe_bmK K PySem.F.plainAttrs_list PySem.F.slot_list_append PySem.F.type_list_append mt_append (pv 7) (pa_cons (pe_tup (pa_cons pe_int (pa_cons pe_int pa_nil))) pa_nil))))))))))
    (pss_one (ps_ret (pe_and (pe_cmpR (op_eqD K hr.units) (pe_fn g_fewest_steps (hr.mono (by decide)) (pa_cons (pe_tup (pa_cons pe_int (pa_cons (pe_tup (pa_cons pe_int pa_nil)) pa_nil))) pa_nil)) (pe_lst pa_nil) (nomark _)) (pe_one (pe_cmpR (op_eqD K hr.units) (pe_callB (call_lenK K) rfl B.len_ bt_len (pa_cons (pe_fn g_fewest_steps (hr.mono (by decide)) (pa_cons (pe_tup (pa_cons pe_int (pa_cons (pe_tup (pa_cons pe_int (pa_cons pe_int pa_nil))) pa_nil))) pa_nil)) pa_nil)) pe_int (nomark _)))))))))))), (sok_seq (sok_set (tok_call (taok_cons tok_var taok_nil)) rfl)
    (sok_seq (sok_set (tok_op ook_int0 tok_int (tok_call (taok_cons tok_var (taok_cons tok_int taok_nil)))) rfl)
    (sok_seq (sok_set (tok_call (taok_cons tok_var (taok_cons tok_var taok_nil))) rfl)
    (sok_seq (sok_set (tok_call (taok_cons tok_var (taok_cons tok_var taok_nil))) rfl)
    (sok_seq (sok_set (tok_callF (taok_cons (tok_tup (taok_cons tok_var (taok_cons (tok_cb cbok_tuple (taok_cons tok_var taok_nil)) taok_nil))) taok_nil)) rfl)
    (sok_seq (sok_for (pin := (fun _ => false)) (tiok_rng1 (taok_cons tok_int taok_nil)) (tgok_name rfl)
    (sok_seq (sok_set (tok_callF (taok_cons (tok_tup (taok_cons tok_var (taok_cons (tok_cb cbok_tuple (taok_cons tok_var taok_nil)) taok_nil))) taok_nil)) rfl)
    (sok_seq (sok_if (ttok_or (ttok_not (ttok_B (tok_cb cbok_isa (taok_cons tok_var (taok_cons tok_ty taok_nil))))) (ttok_or (ttok_test (tok_op ook_ne tok_var tok_var)) (ttok_test (tok_op ook_ne (tok_cb cbok_len (taok_cons tok_var taok_nil)) tok_var))))
    (sok_ret tok_bl)
    sok_next)
    (sok_seq (sok_setC (tok_comp (tiok_rng1 (taok_cons tok_var taok_nil)) (tgok_name rfl) ttok_all (tok_op ook_int tok_int tok_var)) rfl)
    (sok_seq (sok_for (pin := (fun j => j == 7)) (tiok_seq tok_var) (tgok_name rfl)
    (sok_seq (sok_if (ttok_or (ttok_not (ttok_B (tok_cb cbok_isa (taok_cons tok_var (taok_cons tok_ty taok_nil))))) (ttok_or (ttok_test (tok_op ook_ne (tok_cb cbok_len (taok_cons tok_var taok_nil)) tok_int)) (ttok_not (ttok_B (tok_cb cbok_all (taok_cons (tok_comp (tiok_seq tok_var) (tgok_name rfl) ttok_all (tok_call (taok_cons tok_var taok_nil))) taok_nil))))))
    (sok_ret tok_bl)
    sok_next)
    (sok_seq (sok_asg tok_var (tgok_tup (tgsok_cons (tgok_name rfl) (tgsok_cons (tgok_name rfl) tgsok_nil (fun _ _ _ => gl_name)) (fun _ _ _ => gl_name))))
    (sok_seq (sok_if (ttok_or (ttok_test (tok_op ook_eq tok_var tok_var)) (ttok_or (ttok_not (ttok_test (tok_chain ook_bl0 ook_bl0 tok_int tok_var tok_var))) (ttok_not (ttok_test (tok_chain ook_bl0 ook_bl0 tok_int tok_var tok_var)))))
    (sok_ret tok_bl)
    sok_next)
    (sok_setI (tok_op ook_int0 (tok_op ook_ix tok_var tok_var) (tok_op ook_ix tok_var tok_var)) tok_var tok_var)))))
    (sok_seq (sok_if (ttok_test (tok_op ook_ne tok_var tok_var))
    (sok_ret tok_bl)
    sok_next)
    (sok_drop (tok_app tok_var (taok_cons (tok_tup (taok_cons tok_int (taok_cons tok_int taok_nil))) taok_nil)))))))))
    (sok_ret (tok_andV (tok_op ook_eq (tok_call (taok_cons (tok_tup (taok_cons tok_int (taok_cons (tok_tup (taok_cons tok_int taok_nil)) taok_nil))) taok_nil)) (tok_lst taok_nil)) (tok_op ook_eq (tok_cb cbok_len (taok_cons (tok_call (taok_cons (tok_tup (taok_cons tok_int (taok_cons (tok_tup (taok_cons tok_int (taok_cons tok_int taok_nil))) taok_nil))) taok_nil)) taok_nil)) tok_int)))))))))⟩) ?_
  rintro ss q ⟨ns, hl, rfl, hq⟩
  refine ⟨rfl, rfl, rfl, ns, rfl, ?_⟩
  dsimp only [stS, pt, back, R.frz]
  refine cutS (fun ρ => ∃ m : Nat, 1 ≤ m ∧ m ≤ 3 ∧ ρ = [.sc ns, .tp 1, nv m, .un, .un, .un, .un, .un, .un, .un, .un, .un]) (fun M hM => ⟨rfl, 0, 3, rfl, by omega, Dv.small (by decide) (by decide), fun r hr => hM _ ⟨1 + r, by omega, by omega, by rw [← nv_eq (show (1 : Int) + (r : Int) = ((1 + r : Nat) : Int) by omega)]; rfl⟩⟩) ?_
  rintro _ ⟨m, h1, h3, rfl⟩
  refine cutS (fun ρ => ∃ rows n1, Full m rows ∧ (∀ p, rows.getD p 0 < 2 ^ m) ∧ n1 ≤ 2000 ∧ ρ = [.sc ns, .tp n1, nv m, .ow (natsD rows), .un, .un, .un, .un, .un, .un, .un, .un]) (fun M hM => ⟨rfl, 1, m, rfl, by omega, h1, by omega, fun rows n' hF hlt hn' => hM _ ⟨rows, n', hF, hlt, by omega, rfl⟩⟩) ?_
  rintro _ ⟨rows, n1, hF, hlt, hn1, rfl⟩
  have hr := hF.len
  have F := fct h1 h3
  obtain ⟨wy, hw⟩ := full_lk h1 h3 hF hlt
  have wl := tb_way h1 h3 _ (lk_mem hw)
  have wl : wy.length ≤ 10 := wl
  have af : afterN m wy = rows := F.af _ (lk_mem hw)
  have st : ∀ p ∈ wy, StepOk m p := F.st _ (lk_mem hw)
  have sn : svNs [.vl (wishD m rows)] = true := by
    show ((true && (noLs (natsD rows) && true)) && true) = true
    rw [noLs_nats]; rfl
  have dd : (D.lst (wy.map L2.pairD)).depth ≤ 60 := by
    have := depths_pairs wy
    simp only [D.depth]; omega
  refine cutS (fun ρ => ρ = [.sc ns, .tp n1, nv m, .ow (natsD rows), nv wy.length, .un, .un, .un, .un, .un, .un, .un]) (fun M hM => ⟨rfl, m, rows, wy, h1, h3, hw, rfl, hM _ rfl⟩) ?_
  rintro _ rfl
  refine cutS (fun ρ => ρ = [.sc ns, .tp n1, nv m, .ow (natsD rows), nv wy.length, .ow (wy.map L2.pairD), .un, .un, .un, .un, .un, .un]) (fun M hM => ⟨by simp, rfl, sn, m, rows, wy, h1, h3, hw, rfl, _, rfl, noLs_pairs _, sn, rfl, hM _ rfl⟩) ?_
  rintro _ rfl
  refine cutS (fun ρ => ∃ s6 s7 s8 s9 s10 s11, ρ = [.sc ns, .tp n1, nv m, .ow (natsD rows), nv wy.length, .ow (wy.map L2.pairD), s6, s7, s8, s9, s10, s11]) (fun M hM => ⟨by decide, forA_rng (fun k ρ => ∃ s6 s7 s8 s9 s10 s11, ρ = [.sc ns, .tp n1, nv m, .ow (natsD rows), nv wy.length, .ow (wy.map L2.pairD), s6, s7, s8, s9, s10, s11]) (fun _ _ _ => trivial) ?_ (fun ρ h => hM ρ h) ⟨.un, .un, .un, .un, .un, .un, rfl⟩⟩) ?_
  · rintro k _ M1 hk ⟨s6, s7, s8, s9, s10, s11, rfl⟩ hM1
    rw [Int.zero_add]
    refine cutS (fun ρ => ρ = [.sc ns, .tp n1, nv m, .ow (natsD rows), nv wy.length, .ow (wy.map L2.pairD), nv k, .ow (wy.map L2.pairD), s8, s9, s10, s11]) (fun M hM => ⟨by simp, rfl, sn, m, rows, wy, h1, h3, hw, rfl, _, rfl, noLs_pairs _, sn, rfl, hM _ rfl⟩) ?_
    rintro _ rfl
    refine cutS (fun ρ => ρ = [.sc ns, .tp n1, nv m, .ow (natsD rows), nv wy.length, .ow (wy.map L2.pairD), nv k, .ow (wy.map L2.pairD), s8, s9, s10, s11]) (fun M hM => gIsa_ok rfl isaT_list_list (gEq_ok rfl rfl dd (eqD_refl _) (gEq_ok rfl rfl (by simp [D.depth]) (b := true) ?_ (hM _ rfl)))) ?_
    · show eqD (.int (((wy.map L2.pairD).length : Nat) : Int)) (.int (wy.length : Nat)) = true
      rw [List.length_map]; exact eqD_refl _
    rintro _ rfl
    refine cutS (fun ρ => ρ = [.sc ns, .tp n1, nv m, .ow (natsD rows), nv wy.length, .ow (wy.map L2.pairD), nv k, .ow (wy.map L2.pairD), .ow (natsD (ownRows m)), s9, s10, s11]) (fun M hM => ⟨⟨by omega, by omega⟩, by rw [rngD_len]; omega, ?_⟩) ?_
    · rw [Int.toNat_natCast]
      refine compA_rng (fun k => nD (1 <<< k)) trivial (fun k acc M3 hk hM3 => ?_) ?_
      · rw [Int.zero_add]
        refine ⟨⟨by omega, by omega, by decide⟩, ?_⟩
        exact (congrArg (fun z => M3 (acc ++ [D.int z]) _) (shl_nat k)).mpr hM3
      · have e : ((List.range m).map fun k => nD (1 <<< k)) = natsD (ownRows m) := by unfold ownRows natsD; rw [List.map_map]; rfl
        rw [e]; exact hM _ rfl
    rintro _ rfl
    refine cutS (fun ρ => ∃ s9 s10 s11, ρ = [.sc ns, .tp n1, nv m, .ow (natsD rows), nv wy.length, .ow (wy.map L2.pairD), nv k, .ow (wy.map L2.pairD), .ow (natsD (afterN m wy)), s9, s10, s11]) (fun M hM => ⟨rfl, ?_⟩) ?_
    · refine forA_lst L2.pairD (fun j ρ => ∃ s9 s10 s11, ρ = [.sc ns, .tp n1, nv m, .ow (natsD rows), nv wy.length, .ow (wy.map L2.pairD), nv k, .ow (wy.map L2.pairD), .ow (natsD ((wy.take j).foldl stepC (ownRows m))), s9, s10, s11]) (fun k ρ ⟨_, _, _, e⟩ => by subst e; rfl) ?_ ?_ ⟨s9, s10, s11, rfl⟩
      · rintro j p _ M3 hj ⟨s9, s10, s11, rfl⟩ hM3
        obtain ⟨o1, o2, o3⟩ := st p (List.mem_of_getElem? hj)
        rw [take_snoc hj, List.foldl_append] at hM3
        have hl2 : ((wy.take j).foldl stepC (ownRows m)).length = m := by rw [after_len, own_len]
        generalize (wy.take j).foldl stepC (ownRows m) = W at *
        refine cutS (fun ρ => ρ = [.sc ns, .tp n1, nv m, .ow (natsD rows), nv wy.length, .ow (wy.map L2.pairD), nv k, .ow (wy.map L2.pairD), .ow (natsD W), .vl (L2.pairD p), s10, s11]) (fun M hM => ?_) ?_
        · refine gIsa_ok rfl isaT_tuple_tuple (gEq_ok rfl rfl (by simp [D.depth]) (b := true) rfl ?_)
          refine ⟨by simp, ?_⟩
          refine compA_lst (xs := [p.1, p.2]) nD (fun _ => .bl true) trivial (fun x acc M3 hx hM3 => ⟨rfl, _, rfl, hM3⟩) ?_
          exact gAll_ok (bs := [true, true]) rfl (hM _ rfl)
        rintro _ rfl
        refine cutS (fun ρ => ρ = [.sc ns, .tp n1, nv m, .ow (natsD rows), nv wy.length, .ow (wy.map L2.pairD), nv k, .ow (wy.map L2.pairD), .ow (natsD W), .vl (L2.pairD p), nv p.1, nv p.2]) (fun M hM => hM _ rfl) ?_
        rintro _ rfl
        refine cutS (fun ρ => ρ = [.sc ns, .tp n1, nv m, .ow (natsD rows), nv wy.length, .ow (wy.map L2.pairD), nv k, .ow (wy.map L2.pairD), .ow (natsD W), .vl (L2.pairD p), nv p.1, nv p.2]) (fun M hM => ?_) ?_
        · refine gEq_ok rfl rfl (by simp [D.depth]) (eqD_nn p.1 p.2) ?_
          rw [decide_eq_false o3]
          have e1 : decide ((p.1 : Int) < (m : Int)) = true := decide_eq_true (by omega)
          have e2 : decide ((p.2 : Int) < (m : Int)) = true := decide_eq_true (by omega)
          show if (!decide ((p.1 : Int) < (m : Int))) = true then _ else _
          rw [if_neg (by rw [e1]; decide)]
          show if (!decide ((p.2 : Int) < (m : Int))) = true then _ else _
          rw [if_neg (by rw [e2]; decide)]
          exact hM _ rfl
        rintro _ rfl
        refine gIx_nats rfl (by omega) (gIx_nats rfl (by omega) (setI_nat (by rw [natsD_len]; omega) (hM3 _ ⟨.vl (L2.pairD p), nv p.1, nv p.2, ?_⟩)))
        · show [_, _, _, _, _, _, _, _, Sv.ow ((natsD W).set p.2 (.int (Builtin.bitXor ((W.getD p.2 0 : Nat) : Int) ((W.getD p.1 0 : Nat) : Int)))), _, _, _] = [_, _, _, _, _, _, _, _, Sv.ow (natsD (W.set p.2 (W.getD p.1 0 ^^^ W.getD p.2 0))), _, _, _]
          rw [xor_nat, natsD_set, Nat.xor_comm]
      · rintro _ ⟨s9, s10, s11, rfl⟩
        rw [List.take_length]
        exact hM _ ⟨s9, s10, s11, rfl⟩
    rintro _ ⟨s9, s10, s11, rfl⟩
    rw [af]
    refine cutS (fun ρ => ρ = [.sc ns, .tp n1, nv m, .ow (natsD rows), nv wy.length, .ow (wy.map L2.pairD), nv k, .ow (wy.map L2.pairD), .ow (natsD rows), s9, s10, s11]) (fun M hM => gEq_ok rfl rfl (by simp only [D.depth]; rw [depth_nats]; omega) (eqD_refl _) (hM _ rfl)) ?_
    rintro _ rfl
    refine ⟨by simp, by rw [List.length_map]; omega, hM1 _ ⟨_, _, _, _, _, _, rfl⟩⟩
  rintro _ ⟨s6, s7, s8, s9, s10, s11, rfl⟩
  obtain ⟨w2, hw2, hl2⟩ : ∃ w, lkT (TB 2) [2, 1] = some w ∧ w.length = 3 := ⟨(lkT (TB 2) [2, 1]).getD [], by decide, by decide⟩
  refine ⟨by simp, by simp, rfl, 1, [1], [], by omega, by omega, by decide, rfl, by simp, ?_⟩
  refine gEq_ok (d := .lst []) (e := .lst []) rfl rfl (by simp [D.depth, depths]) (b := true) rfl ?_
  refine ⟨by simp, by simp, rfl, 2, [2, 1], w2, by omega, by omega, hw2, rfl, ?_⟩
  refine gEq_ok rfl rfl (by simp [D.depth]) (b := true) ?_ (hq _)
  show eqD (.int (((w2.map L2.pairD).length : Nat) : Int)) (.int 3) = true
  rw [List.length_map, hl2]; rfl
theorem fin (d_joined : DefN K mg "joined" s_joined ["one", "other"]) (d_own_rows : DefN K mg "own_rows" s_own_rows ["many"]) (d_basis : DefN K mg "basis" s_basis ["rows"]) (d_leads_of : DefN K mg "leads_of" s_leads_of ["rows"]) (d_reduced : DefN K mg "reduced" s_reduced ["leads", "row"]) (d_refuse_unplaced : DefN K mg "refuse_unplaced" s_refuse_unplaced ["wish"]) (d_fewest_steps : DefN K mg "fewest_steps" s_fewest_steps ["wish"]) (d_reached_next : DefN K mg "reached_next" s_reached_next ["many", "reached", "ways"]) (d_all_steps : DefN K mg "all_steps" s_all_steps ["many"]) (d_with_step : DefN K mg "with_step" s_with_step ["cells", "a", "b"]) (d_law_tape : DefN K mg "_law_tape" s_law_tape ["_law_script"]) (d_law_draw : DefN K mg "_law_draw" s_law_draw ["_law_tape_here", "_law_many"]) (d_law_whole : DefN K mg "_law_whole" s_law_whole ["_law_found"]) (d_law_free_rows : DefN K mg "_law_free_rows" s_law_free_rows ["_law_tape_here", "_law_many"]) (d_law_behind_one : DefN K mg "_law_behind_one" s_law_behind_one ["_law_many", "_law_found"]) (d_law_least : DefN K mg "_law_least" s_law_least ["_law_many", "_law_rows"]) (d_law : DefN K mg "law" s_law ["_law_script"]) (c_MOST_CELLS : ∃ u, mg "MOST_CELLS" = some u ∧ RelV (.int 3) u) (B : BI mg) : OkN P w K mg base 6 "law" ["_law_script"] (spLaw K) :=
  have g_law_tape := ok_law_tape d_law_tape B
  have g_law_draw := ok_law_draw d_law_draw B
  have g_joined := ok_joined d_joined B
  have g_own_rows := ok_own_rows d_own_rows B
  have g_reduced := ok_reduced d_reduced B
  have g_leads_of := ok_leads_of d_leads_of B g_reduced
  have g_basis := ok_basis d_basis B g_leads_of
  have g_refuse_unplaced := ok_refuse_unplaced d_refuse_unplaced B g_basis
  have g_law_free_rows := ok_law_free_rows d_law_free_rows B g_law_draw
  have g_all_steps := ok_all_steps d_all_steps B
  have g_with_step := ok_with_step d_with_step B g_joined
  have g_reached_next := ok_reached_next d_reached_next B g_all_steps g_with_step
  have g_fewest_steps := ok_fewest_steps d_fewest_steps B g_refuse_unplaced g_reached_next g_own_rows c_MOST_CELLS
  have g_law_behind_one := ok_law_behind_one d_law_behind_one B
  have g_law_least := ok_law_least d_law_least B g_law_behind_one
  have g_law_whole := ok_law_whole d_law_whole B
  have g_law := ok_law d_law B g_law_tape g_law_free_rows g_law_least g_fewest_steps g_law_draw g_law_whole
  law_of g_law
end
end K64
def PySem.W.Fast.tw14792817776260064305 : Unit := ()
def PySem.W.Fast.tw5879034802169245944 : Unit := ()
def PySem.W.Fast.tw2770845047760295287 : Unit := ()
def PySem.W.Fast.tw6338283643109104966 : Unit := ()
def PySem.W.Fast.tw7628464750820920400 : Unit := ()
def PySem.W.Fast.tw12424035948756670484 : Unit := ()
def PySem.W.Fast.tw9193570575805679790 : Unit := ()
def PySem.W.Fast.tw574962417283966101 : Unit := ()
def PySem.W.Fast.tw11745240199906643931 : Unit := ()
def PySem.W.Fast.tw5064538098649191351 : Unit := ()
def PySem.W.Fast.tw18165296964913922194 : Unit := ()
def PySem.W.Fast.tw4732017063170324265 : Unit := ()
def PySem.W.Fast.tw4494126131893105143 : Unit := ()
def PySem.W.Fast.tw16836016429652647038 : Unit := ()
def PySem.W.Fast.tw18058440300591927235 : Unit := ()
def PySem.W.Fast.tw4432435336010257970 : Unit := ()
def PySem.W.Fast.tw8966263163092005335 : Unit := ()
def PySem.W.Fast.tw3493802895167170392 : Unit := ()
def PySem.W.Fast.tw12689490659107679719 : Unit := ()
def PySem.W.Fast.tw15275000819218242394 : Unit := ()
def PySem.W.Fast.tw1325602097142839579 : Unit := ()
def PySem.W.Fast.tw6161282402589339531 : Unit := ()
def PySem.W.Fast.tw8566500508783021716 : Unit := ()
def PySem.W.Fast.tw2098699097898356908 : Unit := ()
def PySem.W.Fast.tw4065349674124480963 : Unit := ()
def PySem.W.Fast.tw17320549008115411411 : Unit := ()
def PySem.W.Fast.tw11840481237071558515 : Unit := ()
def PySem.W.Fast.tw3251184146178848451 : Unit := ()
def PySem.W.Fast.tw6851478356964281870 : Unit := ()
def PySem.W.Fast.tw15847308189225722876 : Unit := ()
def PySem.W.Fast.tw168678251963922568 : Unit := ()
def PySem.W.Fast.tw12980645331082877955 : Unit := ()
def PySem.W.Fast.tw3416840943792505054 : Unit := ()
def PySem.W.Fast.tw10395026177840836568 : Unit := ()
def PySem.W.Fast.tw11726064919802693415 : Unit := ()
def PySem.W.Fast.tw119438117222874236 : Unit := ()
def PySem.W.Fast.tw14722242785486060789 : Unit := ()
def PySem.W.Fast.tw12113805813206779295 : Unit := ()
def PySem.W.Fast.tw14525760977759404813 : Unit := ()
def PySem.W.Fast.tw1205600619344754082 : Unit := ()
def PySem.W.Fast.tw17177507762788259867 : Unit := ()
def PySem.W.Fast.tw4175996831954701166 : Unit := ()
def PySem.W.Fast.tw10911542097418905629 : Unit := ()
def PySem.W.Fast.tw12273181504892095644 : Unit := ()
def PySem.W.Fast.tw7940973238852802487 : Unit := ()
def PySem.W.Fast.tw14559273877784043901 : Unit := ()
def PySem.W.Fast.tw621140785516463497 : Unit := ()
def PySem.W.Fast.tw2940368711728464741 : Unit := ()
def PySem.W.Fast.tw15161422554977422831 : Unit := ()
def PySem.W.Fast.tw16817249145279856786 : Unit := ()
def PySem.W.Fast.tw6162399199540756669 : Unit := ()
def PySem.W.Fast.tw2816628781821397081 : Unit := ()
def PySem.W.Fast.tw12794589994642497443 : Unit := ()
def PySem.W.Fast.tw11593555456466636744 : Unit := ()
def PySem.W.Fast.tw492478925680140133 : Unit := ()
def PySem.W.Fast.tw14944008471363991502 : Unit := ()
def PySem.W.Fast.tw17153862329223057438 : Unit := ()
def PySem.W.Fast.tw6109783824582831144 : Unit := ()
def PySem.W.Fast.tw14031108644509852722 : Unit := ()
def PySem.W.Fast.tw15300055178558402566 : Unit := ()
def PySem.W.Fast.tw10477879647465457442 : Unit := ()
def PySem.W.Fast.tw3495371403441899531 : Unit := ()
def PySem.W.Fast.tw10577208055401924163 : Unit := ()
def PySem.W.Fast.tw4064240085715642311 : Unit := ()
def PySem.W.Fast.tw15773694891463878248 : Unit := ()
def PySem.W.Fast.tw6447803799756801229 : Unit := ()
def PySem.W.Fast.tw17265312249899647528 : Unit := ()
def PySem.W.Fast.tw1579132481667705504 : Unit := ()
def PySem.W.Fast.tw15307903643182210433 : Unit := ()
def PySem.W.Fast.tw17463744421294388208 : Unit := ()
def PySem.W.Fast.tw14595473249977599387 : Unit := ()
def PySem.W.Fast.tw344724634916063682 : Unit := ()
def PySem.W.Fast.tw4227474146290020320 : Unit := ()
def PySem.W.Fast.tw5559469798171886704 : Unit := ()
def PySem.W.Fast.tw5417117915229038160 : Unit := ()
def PySem.W.Fast.tw7568269392981998829 : Unit := ()
def PySem.W.Fast.tw13742696199446546653 : Unit := ()
def PySem.W.Fast.tw2106799634975795817 : Unit := ()
def PySem.W.Fast.tw10959648252963925257 : Unit := ()
def PySem.W.Fast.tw8448042049133482413 : Unit := ()
def PySem.W.Fast.tw162061389304304563 : Unit := ()
def PySem.W.Fast.tw2179074675391576812 : Unit := ()
def PySem.W.Fast.tw17372029886703688831 : Unit := ()
def PySem.W.Fast.tw1743176890620896679 : Unit := ()
def PySem.W.Fast.tw8098790155996119668 : Unit := ()
def PySem.W.Fast.tw11927423317707449850 : Unit := ()
def PySem.W.Fast.tw4960229720828328747 : Unit := ()
def PySem.W.Fast.tw16233934248502412633 : Unit := ()
def PySem.W.Fast.tw2718351048171079722 : Unit := ()
def PySem.W.Fast.tw12557504437527627795 : Unit := ()
def PySem.W.Fast.tw14870454802123761792 : Unit := ()
def PySem.W.Fast.tw3201845728489745374 : Unit := ()
def PySem.W.Fast.tw12801092626337064200 : Unit := ()
def PySem.W.Fast.tw4899419137690154828 : Unit := ()
def PySem.W.Fast.tw7650560866385459072 : Unit := ()
def PySem.W.Fast.tw9279688323641757069 : Unit := ()
def PySem.W.Fast.tw3097138390093720617 : Unit := ()
def PySem.W.Fast.tw4750698942594386750 : Unit := ()
def PySem.W.Fast.tw8331820758478375171 : Unit := ()
def PySem.W.Fast.tw5939871407510687817 : Unit := ()
def PySem.W.Fast.tw11615388202280889478 : Unit := ()
def PySem.W.Fast.tw5868964542470070601 : Unit := ()
def PySem.W.Fast.tw870209893096426204 : Unit := ()
def PySem.W.Fast.tw9716189058213988181 : Unit := ()
def PySem.W.Fast.tw2548554440240308866 : Unit := ()
def PySem.W.Fast.tw7701341098052156892 : Unit := ()
def PySem.W.Fast.tw11118794917294159763 : Unit := ()
def PySem.W.Fast.tw13058838910312529857 : Unit := ()
def PySem.W.Fast.tw17118268820910620102 : Unit := ()
def PySem.W.Fast.tw5765561361742265235 : Unit := ()
def PySem.W.Fast.tw4417402066292496451 : Unit := ()
def PySem.W.Fast.tw567057952306568826 : Unit := ()
def PySem.W.Fast.tw1559923813088992528 : Unit := ()
def PySem.W.Fast.tw2855633464868573711 : Unit := ()
def PySem.W.Fast.tw11123041359071180419 : Unit := ()
def PySem.W.Fast.tw2477255090476280280 : Unit := ()
def PySem.W.Fast.tw5720203948732616469 : Unit := ()
def PySem.W.Fast.tw17332735796585917984 : Unit := ()
def PySem.W.Fast.tw14623774880533628266 : Unit := ()
def PySem.W.Fast.tw8380827457642740823 : Unit := ()
def PySem.W.Fast.tw11821672395491365620 : Unit := ()
def PySem.W.Fast.tw4647404915237509883 : Unit := ()
def PySem.W.Fast.tw2065263189262340941 : Unit := ()
def PySem.W.Fast.tw14924627914108697046 : Unit := ()
def PySem.W.Fast.tw2299347841098989200 : Unit := ()
def PySem.W.Fast.tw6217040543233506336 : Unit := ()
def PySem.W.Fast.tw4663176786974809504 : Unit := ()
def PySem.W.Fast.tw8817296287822275541 : Unit := ()
def PySem.W.Fast.tw10292441499491732036 : Unit := ()
def PySem.W.Fast.tw6937053932542574686 : Unit := ()
def PySem.W.Fast.tw8012991440963395877 : Unit := ()
def PySem.W.Fast.tw223339038881003174 : Unit := ()
def PySem.W.Fast.tw13330373610957030508 : Unit := ()
def PySem.W.Fast.tw4874699539150683283 : Unit := ()
def PySem.W.Fast.tw15026790771417104888 : Unit := ()
def PySem.W.Fast.tw786871572417626950 : Unit := ()
def PySem.W.Fast.tw14376045556907176235 : Unit := ()
def PySem.W.Fast.tw6104806545334624757 : Unit := ()
def PySem.W.Fast.tw16389856974848764061 : Unit := ()
def PySem.W.Fast.tw3172004144587602685 : Unit := ()
def PySem.W.Fast.tw14989385706446962949 : Unit := ()
def PySem.W.Fast.tw16000807623579462443 : Unit := ()
def PySem.W.Fast.tw16253587349848885509 : Unit := ()
def PySem.W.Fast.tw14353133273326546131 : Unit := ()
def PySem.W.Fast.tw7040794657665779867 : Unit := ()
def PySem.W.Fast.tw7951373914029442253 : Unit := ()
def PySem.W.Fast.tw14814138079111881640 : Unit := ()
def PySem.W.Fast.tw17278685367648683996 : Unit := ()
def PySem.W.Fast.tw6059907202065982403 : Unit := ()
def PySem.W.Fast.tw12198007136828964973 : Unit := ()
def PySem.W.Fast.tw1949391323296833089 : Unit := ()
def PySem.W.Fast.tw13340958705775545623 : Unit := ()
def PySem.W.Fast.tw2402676131250263632 : Unit := ()
def PySem.W.Fast.tw14809925359838132114 : Unit := ()
def PySem.W.Fast.tw10211204161907983010 : Unit := ()
def PySem.W.Fast.tw15470968264675840355 : Unit := ()
def PySem.W.Fast.tw8744811291340265364 : Unit := ()
def PySem.W.Fast.tw4355643174544647946 : Unit := ()
def PySem.W.Fast.tw12990168244951385278 : Unit := ()
def PySem.W.Fast.tw4971563287440460520 : Unit := ()
def PySem.W.Fast.tw7819657994573109249 : Unit := ()
def PySem.W.Fast.tw3346127807148001556 : Unit := ()
def PySem.W.Fast.tw1114350882819397929 : Unit := ()
def PySem.W.Fast.tw3733494408245211088 : Unit := ()
def PySem.W.Fast.tw2527392682570507022 : Unit := ()
def PySem.W.Fast.tw6691222196472536137 : Unit := ()
def PySem.W.Fast.tw3021333225868290508 : Unit := ()
def PySem.W.Fast.tw3865657083951335045 : Unit := ()
def PySem.W.Fast.tw10893893737719108990 : Unit := ()
def PySem.W.Fast.tw14756239287827544356 : Unit := ()
def PySem.W.Fast.tw12211160275060865053 : Unit := ()
def PySem.W.Fast.tw3278274707872861538 : Unit := ()
def PySem.W.Fast.tw6933441029952278141 : Unit := ()
open PySem PySem.W PyProof.Rows
set_option maxRecDepth 100000 in
set_option maxHeartbeats 0 in
theorem PySem.Challenge.cw_fewjoins_k64_fewest_steps_holds : PySem.Challenge.rw_fewjoins_k64_fewest_steps.Holds := by
  w_on; o_law; k_head; (case hw => w_witness2)
  k_fill
  refine L2.walk_ofK (l := PySem.Challenge.rw_fewjoins_k64_fewest_steps) (n := 63) (k := 6) (x := "_law_script") (CX := L2.CX0) (sp := L2.spLaw) rfl (by decide) rfl ⟨rfl, by decide, by decide⟩ (fun w h Y => PySem.W.kIn_of Y) ?F ?S ?C
  case S => exact fun K H a ns hl hO hS => ⟨a, ns, rfl, hS, hl, fun _ => rfl⟩
  case C => exact fun H s e s' h => h
  case F =>
    intro w mg fa h KX G hmg
    have d_joined : L2.DefN (L2.KOf KX) mg "joined" K64.s_joined ["one", "other"] := by
      dsimp only [L2.KOf]
      refine' L2.def_mk KX G ?a ?l ?c ?k (fun _ _ _ _ _ _ us hl => match us, hl with | [_, _], _ => rfl)
      (case a => k_is); (case l => k_is); (case c => k_is); (case k => k_is)
    have d_own_rows : L2.DefN (L2.KOf KX) mg "own_rows" K64.s_own_rows ["many"] := by
      dsimp only [L2.KOf]
      refine' L2.def_mk KX G ?a ?l ?c ?k (fun _ _ _ _ _ _ us hl => match us, hl with | [_], _ => rfl)
      (case a => k_is); (case l => k_is); (case c => k_is); (case k => k_is)
    have d_basis : L2.DefN (L2.KOf KX) mg "basis" K64.s_basis ["rows"] := by
      dsimp only [L2.KOf]
      refine' L2.def_mk KX G ?a ?l ?c ?k (fun _ _ _ _ _ _ us hl => match us, hl with | [_], _ => rfl)
      (case a => k_is); (case l => k_is); (case c => k_is); (case k => k_is)
    have d_leads_of : L2.DefN (L2.KOf KX) mg "leads_of" K64.s_leads_of ["rows"] := by
      dsimp only [L2.KOf]
      refine' L2.def_mk KX G ?a ?l ?c ?k (fun _ _ _ _ _ _ us hl => match us, hl with | [_], _ => rfl)
      (case a => k_is); (case l => k_is); (case c => k_is); (case k => k_is)
    have d_reduced : L2.DefN (L2.KOf KX) mg "reduced" K64.s_reduced ["leads", "row"] := by
      dsimp only [L2.KOf]
      refine' L2.def_mk KX G ?a ?l ?c ?k (fun _ _ _ _ _ _ us hl => match us, hl with | [_, _], _ => rfl)
      (case a => k_is); (case l => k_is); (case c => k_is); (case k => k_is)
    have d_refuse_unplaced : L2.DefN (L2.KOf KX) mg "refuse_unplaced" K64.s_refuse_unplaced ["wish"] := by
      dsimp only [L2.KOf]
      refine' L2.def_mk KX G ?a ?l ?c ?k (fun _ _ _ _ _ _ us hl => match us, hl with | [_], _ => rfl)
      (case a => k_is); (case l => k_is); (case c => k_is); (case k => k_is)
    have d_fewest_steps : L2.DefN (L2.KOf KX) mg "fewest_steps" K64.s_fewest_steps ["wish"] := by
      dsimp only [L2.KOf]
      refine' L2.def_mk KX G ?a ?l ?c ?k (fun _ _ _ _ _ _ us hl => match us, hl with | [_], _ => rfl)
      (case a => k_is); (case l => k_is); (case c => k_is); (case k => k_is)
    have d_reached_next : L2.DefN (L2.KOf KX) mg "reached_next" K64.s_reached_next ["many", "reached", "ways"] := by
      dsimp only [L2.KOf]
      refine' L2.def_mk KX G ?a ?l ?c ?k (fun _ _ _ _ _ _ us hl => match us, hl with | [_, _, _], _ => rfl)
      (case a => k_is); (case l => k_is); (case c => k_is); (case k => k_is)
    have d_all_steps : L2.DefN (L2.KOf KX) mg "all_steps" K64.s_all_steps ["many"] := by
      dsimp only [L2.KOf]
      refine' L2.def_mk KX G ?a ?l ?c ?k (fun _ _ _ _ _ _ us hl => match us, hl with | [_], _ => rfl)
      (case a => k_is); (case l => k_is); (case c => k_is); (case k => k_is)
    have d_with_step : L2.DefN (L2.KOf KX) mg "with_step" K64.s_with_step ["cells", "a", "b"] := by
      dsimp only [L2.KOf]
      refine' L2.def_mk KX G ?a ?l ?c ?k (fun _ _ _ _ _ _ us hl => match us, hl with | [_, _, _], _ => rfl)
      (case a => k_is); (case l => k_is); (case c => k_is); (case k => k_is)
    have d_law_tape : L2.DefN (L2.KOf KX) mg "_law_tape" K64.s_law_tape ["_law_script"] := by
      dsimp only [L2.KOf]
      refine' L2.def_mk KX G ?a ?l ?c ?k (fun _ _ _ _ _ _ us hl => match us, hl with | [_], _ => rfl)
      (case a => k_is); (case l => k_is); (case c => k_is); (case k => k_is)
    have d_law_draw : L2.DefN (L2.KOf KX) mg "_law_draw" K64.s_law_draw ["_law_tape_here", "_law_many"] := by
      dsimp only [L2.KOf]
      refine' L2.def_mk KX G ?a ?l ?c ?k (fun _ _ _ _ _ _ us hl => match us, hl with | [_, _], _ => rfl)
      (case a => k_is); (case l => k_is); (case c => k_is); (case k => k_is)
    have d_law_whole : L2.DefN (L2.KOf KX) mg "_law_whole" K64.s_law_whole ["_law_found"] := by
      dsimp only [L2.KOf]
      refine' L2.def_mk KX G ?a ?l ?c ?k (fun _ _ _ _ _ _ us hl => match us, hl with | [_], _ => rfl)
      (case a => k_is); (case l => k_is); (case c => k_is); (case k => k_is)
    have d_law_free_rows : L2.DefN (L2.KOf KX) mg "_law_free_rows" K64.s_law_free_rows ["_law_tape_here", "_law_many"] := by
      dsimp only [L2.KOf]
      refine' L2.def_mk KX G ?a ?l ?c ?k (fun _ _ _ _ _ _ us hl => match us, hl with | [_, _], _ => rfl)
      (case a => k_is); (case l => k_is); (case c => k_is); (case k => k_is)
    have d_law_behind_one : L2.DefN (L2.KOf KX) mg "_law_behind_one" K64.s_law_behind_one ["_law_many", "_law_found"] := by
      dsimp only [L2.KOf]
      refine' L2.def_mk KX G ?a ?l ?c ?k (fun _ _ _ _ _ _ us hl => match us, hl with | [_, _], _ => rfl)
      (case a => k_is); (case l => k_is); (case c => k_is); (case k => k_is)
    have d_law_least : L2.DefN (L2.KOf KX) mg "_law_least" K64.s_law_least ["_law_many", "_law_rows"] := by
      dsimp only [L2.KOf]
      refine' L2.def_mk KX G ?a ?l ?c ?k (fun _ _ _ _ _ _ us hl => match us, hl with | [_, _], _ => rfl)
      (case a => k_is); (case l => k_is); (case c => k_is); (case k => k_is)
    have d_law : L2.DefN (L2.KOf KX) mg "law" K64.s_law ["_law_script"] := by
      dsimp only [L2.KOf]
      refine' L2.def_mk KX G ?a ?l ?c ?k (fun _ _ _ _ _ _ us hl => match us, hl with | [_], _ => rfl)
      (case a => k_is); (case l => k_is); (case c => k_is); (case k => k_is)
    have B : L2.BI mg := by
      refine' L2.bi_mk KX G ?z_len ?z_range ?z_isinstance ?z_int ?z_bool ?z_list ?z_tuple ?z_str ?z_sum ?z_all ?z_max ?z_min ?z_sorted ?z_set ?z_zip ?z_enumerate ?z_reversed ?z_dict ?z_any ?z_abs
      (case z_len => k_is); (case z_range => k_is); (case z_isinstance => k_is); (case z_int => k_is); (case z_bool => k_is); (case z_list => k_is); (case z_tuple => k_is); (case z_str => k_is); (case z_sum => k_is); (case z_all => k_is); (case z_max => k_is); (case z_min => k_is); (case z_sorted => k_is); (case z_set => k_is); (case z_zip => k_is); (case z_enumerate => k_is); (case z_reversed => k_is); (case z_dict => k_is); (case z_any => k_is); (case z_abs => k_is)
    have c_MOST_CELLS : ∃ u, mg "MOST_CELLS" = some u ∧ L2.RelV (.int 3) u := by
      refine' ⟨_, PySem.W.mg_of KX G ?a, ?b⟩
      (case a => k_is)
      (case b => exact ⟨_, rfl⟩)
    refine L2.law_fin d_law hmg fun base => ?_
    exact K64.fin d_joined d_own_rows d_basis d_leads_of d_reduced d_refuse_unplaced d_fewest_steps d_reached_next d_all_steps d_with_step d_law_tape d_law_draw d_law_whole d_law_free_rows d_law_behind_one d_law_least d_law c_MOST_CELLS B
#print axioms PySem.Challenge.cw_fewjoins_k64_fewest_steps_holds

