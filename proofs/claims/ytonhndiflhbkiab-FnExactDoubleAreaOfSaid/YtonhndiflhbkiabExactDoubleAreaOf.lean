/- Proved: for every input the law FnExactDoubleAreaOf returns true, and each argument reads afterwards as it read before; no condition beside those of the given row. -/
import Derived.Test.YtonhndiflhbkiabRows
import Derived.WalkKit
import Derived.ProofKit
import Derived.OpenShut
import Derived.Lib.Hide
import Derived.Handy
import Derived.BigQuiet
import Derived.BigRegion
import Derived.Carry
import Derived.ChangeAlike
import Derived.Deep.QuietTactic
import Derived.Deep.RegionHeld3
import Derived.Deep.SlicePairs
import Derived.Lib.SmallJoins
import Derived.RegionTactic
import Derived.Shelf.Abstract
import Derived.StillTailTactics
import Derived.Lib.SmallJoins
import Derived.ChangeMaps5
namespace Go.Proofs.Ytonhndiflhbkiab
open Go.ChangeShapes Go.WideShapes Go.ChangeAt Go.RowKit
set_option linter.unusedVariables false
set_option linter.unusedSimpArgs false

theorem tmod_pos (n k : Int) (h : 0 ≤ n) : n.tmod k = n % k := Int.tmod_eq_emod_of_nonneg h

theorem trodAll_stay {H : Type} {enc : TypeId × Value → H} {P : Program} (hl : laidOutB P = true) {W W' : World} (hb : Below W.heap.size W W') :
    ∀ (ts : List TypeId) (vs : List Value) (ds : List (DataW H)) (ps : List MemPlace), ts.all (fun t => P.readableRec t && decide (t < P.types.size)) = true →
      DataW.TrodAll enc P W 0 (fun _ => true) true ts vs ds ps → (∀ x ∈ ps, x.block < W.heap.size) →
      DataW.TrodAll enc P W' 0 (fun b => decide (b < W.heap.size)) true ts vs ds ps := by
  intro ts
  induction ts with
  | nil => intro vs ds ps _ h _; obtain ⟨rfl, rfl, rfl⟩ := trodAll_nil h; exact rfl
  | cons t ts ih =>
    intro vs ds ps hr h hlt
    simp only [List.all_cons, Bool.and_eq_true, decide_eq_true_eq] at hr
    obtain ⟨v, vs', d, ds', p, q, rfl, rfl, rfl, h0, h1⟩ := trodAll_cons h
    exact ⟨p, q, Below.trod hl hr.1.1 hr.1.2 h0 hb (fun x hx => hlt x (by simp [hx])), ih _ _ _ hr.2 h1 (fun x hx => hlt x (by simp [hx])), rfl⟩

/-- A law's row at its end: it returned true, and of what was there nothing has turned. -/
theorem law_post {H : Type} {enc : TypeId × Value → H} {P : Program} {f : Func} {s : ChangeSpec} {W W' : World} {args : Array Value} {ds gs : List (DataW H)} {before : List MemPlace} {B : TypeId}
    (hl : laidOutB P = true) (hr : f.params.toList.all (fun t => P.readableRec t && decide (t < P.types.size)) = true)
    (hres : f.resultTypes = #[B]) (hB : P.underlying B = some .bool) (hv : s.vars = [])
    (hW : DataW.Whole enc P f.params.toList s.vars false W args.toList ds gs before)
    (hfn : s.fn H (ds ++ gs) = { results := [.lit (.bool true)], args := ds }) (hb : Below W.heap.size W W') :
    s.post enc P f false true false false W args (.bool true) W' := by
  have hlt : ∀ p ∈ before, p.block < W.heap.size := fun p hp => hW.lt p hp
  have hW' := hW
  obtain ⟨p, q, hA, hV, rfl, _, _⟩ := hW'
  rw [hv] at hV
  obtain ⟨rfl, rfl⟩ := trodVars_none hV
  refine ⟨ds, [], p ++ [], [], p, [], hW, ?_, ?_, ?_, hb.frame _, fun h => by cases h⟩
  · rw [hfn, hres]
    exact trodAll_cons_mk (shut_bool hB _) trodAll_mk0
  · rw [hfn]
    exact trodAll_stay hl hb _ _ _ _ hr hA (fun x hx => hlt x (by simp [hx]))
  · rw [hfn, hv]
    exact rfl

theorem kept_cell {W w1 : World} (hb : Below W.heap.size W w1) (b o : Nat) (h : b < W.heap.size) : w1.cell? ⟨b, o, none⟩ = W.cell? ⟨b, o, none⟩ := hb.cell (p := ⟨b, o, none⟩) h

theorem kept_frozen {W w1 : World} (hb : Below W.heap.size W w1) (b o : Nat) (h : b < W.heap.size) : w1.frozen? ⟨b, o, none⟩ = W.frozen? ⟨b, o, none⟩ := hb.frozen (p := ⟨b, o, none⟩) h

theorem kept {W w1 : World} (hb : Below W.heap.size W w1) :
    (∀ b o, b < W.heap.size → w1.cell? ⟨b, o, none⟩ = W.cell? ⟨b, o, none⟩) ∧ (∀ b o, b < W.heap.size → w1.frozen? ⟨b, o, none⟩ = W.frozen? ⟨b, o, none⟩) ∧ W.heap.size ≤ w1.heap.size :=
  ⟨kept_cell hb, kept_frozen hb, hb.size⟩

theorem kept_trans {a b c : World} (h : Below a.heap.size a b) (k : Below b.heap.size b c) : Below a.heap.size a c := h.trans (k.mono h.size)

theorem kept_at {W w1 : World} (hb : Below W.heap.size W w1) (b : Nat) {G : Prop} (h : b < W.heap.size)
    (k : (∀ o, w1.cell? ⟨b, o, none⟩ = W.cell? ⟨b, o, none⟩) → (∀ o, w1.frozen? ⟨b, o, none⟩ = W.frozen? ⟨b, o, none⟩) → b < w1.heap.size → G) : G :=
  k (fun o => kept_cell hb b o h) (fun o => kept_frozen hb b o h) (Nat.lt_of_lt_of_le h hb.size)

theorem kept_drewN {B : Nat} {a w : World} (h : Below B a w) (n : Nat) : Below B a (w.drewN n) := { os := h.os, tape := h.tape, output := h.output, size := h.size, block := h.block }

theorem grown_step {a b c : World} {row : Option Nat} (h : a.grownBy b row) (k : b.grownBy c row) : a.grownBy c row :=
  ⟨k.os.trans h.os, k.tape.trans h.tape, k.output.trans h.output, Nat.le_trans h.size k.size, fun i hi hne => (k.block i (Nat.lt_of_lt_of_le hi h.size) hne).trans (h.block i hi hne)⟩

theorem grown_below {a b c : World} {row : Option Nat} (h : Below a.heap.size a b) (k : b.grownBy c row) (hr : ∀ g, row = some g → a.heap.size ≤ g) : Below a.heap.size a c := h.grown k h.size hr

theorem results_cell1 {fn : Func} {p : Tmp} {ty : TypeId} (h : fn.results = #[.cell p ty]) (tmps : Array Value) (P : Program) (w : World) :
    (results fn tmps).run P w = ((asAddr (tmps.getD p undef)).run P w).andThen fun a w₁ => (loadVar ty a).run P w₁ := by
  simp only [results, h]
  simp [Sem.run_bind, Result.andThen]

theorem grown_set (w : World) (a : Addr) (u : Value) : w.grownBy (w.setCell a u) (some a.block) :=
  ⟨rfl, rfl, rfl, by simp, fun k _ hk => heap_setCell_other w a k u (fun e => hk (by rw [e]))⟩

def inB (n low high : Int) : Bool := decide (low ≤ n) && decide (n ≤ high)

theorem in_any (n low high : Int) (w : World) :
    Calls Try.prog 67 #[.int .i64 n, .int .i64 low, .int .i64 high] w fun e w' => e = .returned (.bool (inB n low high)) ∧ w = w' := by
  unfold inB
  by_cases h1 : low ≤ n <;> by_cases h2 : n ≤ high <;>
  · go_enter Try.func67, Try.ntmps67
    go_wp2
    go_ret
    exact ⟨by simp [*], rfl⟩

theorem inB_true {n a b : Int} (h : inB n a b = true) : a ≤ n ∧ n ≤ b := by simpa [inB] using h

theorem inB_false {n a b : Int} (h : inB n a b = false) : ¬ (a ≤ n ∧ n ≤ b) := by simpa [inB] using h

def okP (x y : Int) : Bool := inB x (-10000) 10000 && inB y (-10000) 10000

theorem okP_true {x y : Int} (h : okP x y = true) : (-10000 ≤ x ∧ x ≤ 10000) ∧ -10000 ≤ y ∧ y ≤ 10000 := by
  simp only [okP, Bool.and_eq_true] at h
  exact ⟨inB_true h.1, inB_true h.2⟩

theorem specOk_any (x y : Int) (w : World) :
    Calls Try.prog 45 #[.agg #[.int .i64 x, .int .i64 y]] w fun e w' => e = .returned (.bool (okP x y)) ∧ Below w.heap.size w w' := by
  unfold okP
  cases h1 : inB x (-10000) 10000 <;>
  · go_enter Try.func45, Try.ntmps45
    go_wp2_with (go_at_call 67; refine (in_any _ _ _ _).mono ?_; rintro e w' ⟨rfl, rfl⟩)
    go_ret
    exact ⟨by simp, by go_grown⟩

theorem validPlace_any (x y : Int) (w : World) :
    Calls Try.prog 47 #[.agg #[.int .i64 x, .int .i64 y]] w fun e w' => e = .returned (.bool (okP x y)) ∧ Below w.heap.size w w' := by
  unfold okP inB
  rcases (show ¬ -10000 ≤ x ∨ (-10000 ≤ x ∧ ¬ x ≤ 10000) ∨ (-10000 ≤ x ∧ x ≤ 10000 ∧ ¬ -10000 ≤ y) ∨ (-10000 ≤ x ∧ x ≤ 10000 ∧ -10000 ≤ y ∧ ¬ y ≤ 10000) ∨ (-10000 ≤ x ∧ x ≤ 10000 ∧ -10000 ≤ y ∧ y ≤ 10000) from by omega) with h1 | ⟨h1, h2⟩ | ⟨h1, h2, h3⟩ | ⟨h1, h2, h3, h4⟩ | ⟨h1, h2, h3, h4⟩
  all_goals
    go_enter Try.func47, Try.ntmps47
    go_wp2
    go_ret
    exact ⟨by simp [*] <;> omega, by go_grown⟩

theorem toPoint_any (x y : Int) (w : World) :
    Calls Try.prog 21 #[.agg #[.int .i64 x, .int .i64 y]] w fun e w' => e = .returned (.agg #[.int .i64 x, .int .i64 y]) ∧ Below w.heap.size w w' := by
  go_enter Try.func21, Try.ntmps21
  go_wp2
  go_returns
  exact ⟨rfl, by go_grown⟩

theorem minus_any (x y u v : Int) (h1 : -20000 ≤ x ∧ x ≤ 20000) (h2 : -20000 ≤ y ∧ y ≤ 20000) (h3 : -20000 ≤ u ∧ u ≤ 20000) (h4 : -20000 ≤ v ∧ v ≤ 20000) (w : World) :
    Calls Try.prog 71 #[.agg #[.int .i64 x, .int .i64 y], .agg #[.int .i64 u, .int .i64 v]] w fun e w' => e = .returned (.agg #[.int .i64 (x - u), .int .i64 (y - v)]) ∧ Below w.heap.size w w' := by
  go_enter Try.func71, Try.ntmps71
  go_wp2
  go_returns
  exact ⟨rfl, by go_grown⟩

theorem own_kept {W w1 : World} {base : Nat} {e : TypeId} {size : Nat} {v : Value} {n : Nat} {xs : List Value} (h : W.ownsRow base e size v n xs) (hb : Below W.heap.size W w1) : w1.ownsRow base e size v n xs := by
  refine ⟨h.1, ?_⟩
  rcases h.2 with h2 | ⟨g, cap, cur, hv, hg, hh, r⟩
  · exact Or.inl h2
  · refine Or.inr ⟨g, cap, cur, hv, hg, ?_, r⟩
    rw [hb.block g (h.lt g (by rw [hv]; rfl)).2]
    exact hh

theorem eqPoint_same (x y : Int) (w : World) :
    Calls Try.prog 79 #[.agg #[.int .i64 x, .int .i64 y], .agg #[.int .i64 x, .int .i64 y]] w fun e w' => e = .returned (.bool true) ∧ Below w.heap.size w w' := by
  go_enter Try.func79, Try.ntmps79
  go_wp2
  go_ret
  exact ⟨rfl, by go_grown⟩

theorem flat_len {α : Type} {enc : α → List Value} {sz : Nat} (h : ∀ z, (enc z).length = sz) (zs : List α) : (zs.flatMap enc).length = zs.length * sz := by
  induction zs with
  | nil => simp
  | cons z zs ih => rw [List.flatMap_cons, List.length_append, ih, h, List.length_cons, Nat.add_mul]; omega

theorem flat_at {α : Type} {enc : α → List Value} {sz : Nat} (h : ∀ z, (enc z).length = sz) (zs : List α) (k j : Nat) (hk : k < zs.length) (hj : j < sz) : (zs.flatMap enc)[k * sz + j]? = (enc zs[k])[j]? := by
  induction zs generalizing k with
  | nil => simp at hk
  | cons z zs ih =>
    cases k with
    | zero => rw [List.flatMap_cons, List.getElem?_append_left (by rw [h]; omega)]; simp
    | succ k =>
      have e : (k + 1) * sz + j - (enc z).length = k * sz + j := by rw [h, Nat.add_mul]; omega
      rw [List.flatMap_cons, List.getElem?_append_right (by rw [h, Nat.add_mul]; omega), e, ih k (by simpa using hk)]
      simp

/-- The slice value reads as n elements of sz cells each, cell for cell. -/
def RdF (w : World) (v : Value) (n sz : Nat) (xs : List Value) : Prop :=
  n ≤ 9223372036854775807 ∧ xs.length = n * sz ∧ ∃ A c, v = .slice A n c ∧ ∀ i, i < n * sz → ∃ b off, A = some ⟨b, off, none⟩ ∧ b < w.heap.size ∧ w.cell? ⟨b, off + i, none⟩ = xs[i]?

theorem RdF_kept {W w1 : World} {v : Value} {n sz : Nat} {xs : List Value} (h : RdF W v n sz xs) (hb : Below W.heap.size W w1) : RdF w1 v n sz xs := by
  obtain ⟨hl, hx, A, c, rfl, hr⟩ := h
  refine ⟨hl, hx, A, c, rfl, fun k hk => ?_⟩
  obtain ⟨b, off, e, hlt, hc⟩ := hr k hk
  exact ⟨b, off, e, Nat.lt_of_lt_of_le hlt hb.size, by rw [kept_cell hb b _ hlt]; exact hc⟩

/-- A row of elements of the call's own (type e, sz cells each), in a block from lo on and below hi. -/
def RowF (e sz : Nat) (w : World) (lo hi : Nat) (v : Value) (n : Nat) (xs : List Value) : Prop :=
  w.ownsRow lo e sz v n xs ∧ ∀ g, v.ownBlock = some g → lo ≤ g ∧ g < hi

theorem RowF_nil (e sz : Nat) (w : World) (lo hi : Nat) : RowF e sz w lo hi (.slice none 0 0) 0 [] := ⟨World.ownsRow_nil _ _ _ _, fun g h => by simp [Value.ownBlock] at h⟩

theorem RowF_form {e sz : Nat} {w : World} {lo hi : Nat} {v : Value} {n : Nat} {xs : List Value} (h : RowF e sz w lo hi v n xs) :
    (n = 0 ∧ xs = [] ∧ v = .slice none 0 0) ∨ ∃ g cap, v = .slice (some ⟨g, 0, none⟩) n cap ∧ lo ≤ g ∧ g < hi ∧ g < w.heap.size ∧ n ≤ cap ∧ cap ≤ maxLen := by
  rcases h.1.2 with ⟨h1, h2⟩ | ⟨g, cap, cur, rfl, hg, hh, h3, h4, _⟩
  · exact Or.inl ⟨h2, List.eq_nil_of_length_eq_zero (by rw [h.1.1, h2, Nat.zero_mul]), h1⟩
  · exact Or.inr ⟨g, cap, rfl, hg, (h.2 g rfl).2, (h.1.lt g rfl).2, h3, h4⟩

theorem RowF_rd {e sz : Nat} {w : World} {lo hi : Nat} {v : Value} {n : Nat} {xs : List Value} (h : RowF e sz w lo hi v n xs) : RdF w v n sz xs := by
  rcases RowF_form h with ⟨rfl, rfl, rfl⟩ | ⟨g, cap, rfl, _, _, hlt, h3, h4⟩
  · exact ⟨by simp, by simp, none, 0, rfl, fun k hk => by simp at hk⟩
  · unfold maxLen at h4
    refine ⟨by omega, h.1.1, some ⟨g, 0, none⟩, cap, rfl, fun k hk => ⟨g, 0, rfl, hlt, ?_⟩⟩
    rw [Nat.zero_add, h.1.cellAt k hk]

theorem RowF_kept {e sz : Nat} {W w1 : World} {lo hi : Nat} {v : Value} {n : Nat} {xs : List Value} (h : RowF e sz W lo hi v n xs) (hb : Below W.heap.size W w1) : RowF e sz w1 lo hi v n xs := ⟨own_kept h.1 hb, h.2⟩

theorem RowF_far {e sz : Nat} {W w1 : World} {lo hi : Nat} {v : Value} {n : Nat} {xs : List Value} {row : Option Nat} (h : RowF e sz W lo hi v n xs) (hg : W.grownBy w1 row) (hr : ∀ g, row = some g → g < lo ∨ hi ≤ g) : RowF e sz w1 lo hi v n xs := by
  refine ⟨h.1.kept hg ?_, h.2⟩
  rcases hv : v.ownBlock with _ | g
  · exact Or.inl rfl
  · refine Or.inr (fun e => ?_)
    have h1 := h.2 g hv
    have h2 := hr g e.symm
    omega

/-- The first elements of a row. -/
theorem RowF_short {e sz : Nat} {w : World} {lo hi g cap m n : Nat} {xs : List Value} (h : RowF e sz w lo hi (.slice (some ⟨g, 0, none⟩) m cap) m xs) (hn : n ≤ m) :
    RowF e sz w lo hi (.slice (some ⟨g, 0, none⟩) n cap) n (xs.take (n * sz)) := by
  refine ⟨⟨?_, ?_⟩, fun g' hg' => h.2 g' hg'⟩
  · rw [List.length_take, h.1.1]
    have := Nat.mul_le_mul_right sz hn
    omega
  · rcases h.1.2 with ⟨h1, h2⟩ | ⟨g', cap', cur, h1, hg, hh, h3, h4, h5, h6⟩
    · simp at h1
    · simp only [Value.slice.injEq, Option.some.injEq, Addr.mk.injEq, and_true, true_and] at h1
      obtain ⟨rfl, rfl⟩ := h1
      refine Or.inr ⟨g, cap, cur, rfl, hg, hh, by omega, h4, h5, ?_⟩
      rw [← h6, List.take_take]
      congr 1
      have := Nat.mul_le_mul_right sz hn
      omega

theorem RowF_lo {e sz : Nat} {w : World} {lo lo' hi hi' : Nat} {v : Value} {n : Nat} {xs : List Value} (h : RowF e sz w lo hi v n xs) (hl : lo' ≤ lo) (hh : hi ≤ hi') : RowF e sz w lo' hi' v n xs :=
  ⟨Joins.ownsRow_le h.1 hl, fun g hg => ⟨by have := (h.2 g hg).1; omega, by have := (h.2 g hg).2; omega⟩⟩

theorem RowF_set {e sz : Nat} {w : World} {lo hi b o n : Nat} {v u : Value} {xs : List Value} (h : RowF e sz w lo hi v n xs) (hb : b < lo) : RowF e sz (w.setCell ⟨b, o, none⟩ u) lo hi v n xs :=
  RowF_far h (grown_set _ _ _) (fun g hg => by simp at hg; omega)

/-- A pair of numbers, cell by cell. -/
def encP (z : Int × Int) : List Value := [.int .i64 z.1, .int .i64 z.2]

def flatP (zs : List (Int × Int)) : List Value := zs.flatMap encP

theorem flatP_len (zs : List (Int × Int)) : (flatP zs).length = zs.length * 2 := flat_len (enc := encP) (fun _ => rfl) zs

theorem flatP_at (zs : List (Int × Int)) (k : Nat) (h : k < zs.length) : (flatP zs)[k * 2]? = some (.int .i64 zs[k].1) ∧ (flatP zs)[k * 2 + 1]? = some (.int .i64 zs[k].2) :=
  ⟨flat_at (enc := encP) (sz := 2) (fun _ => rfl) zs k 0 h (by omega), flat_at (enc := encP) (sz := 2) (fun _ => rfl) zs k 1 h (by omega)⟩

/-- The slice value reads as a list of pairs of numbers. -/
def RdP (w : World) (v : Value) (zs : List (Int × Int)) : Prop := RdF w v zs.length 2 (flatP zs)

theorem RdP_kept {W w1 : World} {v : Value} {zs : List (Int × Int)} (h : RdP W v zs) (hb : Below W.heap.size W w1) : RdP w1 v zs := RdF_kept h hb

theorem RdP_slice {w : World} {v : Value} {zs : List (Int × Int)} (h : RdP w v zs) : ∃ A c, v = .slice A zs.length c ∧ zs.length ≤ 9223372036854775807 ∧
    ∀ k, (hk : k < zs.length) → ∃ b off, A = some ⟨b, off, none⟩ ∧ b < w.heap.size ∧ w.cell? ⟨b, off + k * 2, none⟩ = some (.int .i64 zs[k].1) ∧ w.cell? ⟨b, off + k * 2 + 1, none⟩ = some (.int .i64 zs[k].2) := by
  obtain ⟨hl, hx, A, c, rfl, hr⟩ := h
  refine ⟨A, c, rfl, hl, fun k hk => ?_⟩
  obtain ⟨b, off, rfl, hlt, h0⟩ := hr (k * 2) (by omega)
  obtain ⟨b', off', e, _, h1⟩ := hr (k * 2 + 1) (by omega)
  simp only [Option.some.injEq, Addr.mk.injEq, and_true] at e
  obtain ⟨rfl, rfl⟩ := e
  rw [(flatP_at zs k hk).1] at h0
  rw [(flatP_at zs k hk).2, ← Nat.add_assoc] at h1
  exact ⟨b, off, rfl, hlt, h0, h1⟩

def roomL (n : Nat) : Nat := if n % 6 = 5 then 0 else if n % 3 = 0 then 1 else n

theorem roomL_le (n : Nat) : roomL n ≤ n + 1 := by
  unfold roomL
  split
  · omega
  · split <;> omega

theorem room_any (n : Nat) (hn : n ≤ 9223372036854775807) (w : World) :
    Calls Try.prog 58 #[.int .i64 n] w fun e w' => e = .returned (.int .i64 (roomL n : Nat)) ∧ w = w' := by
  unfold roomL
  have e6 : (n : Int).tmod 6 = ((n % 6 : Nat) : Int) := by rw [tmod_pos _ _ (by omega)]; omega
  have e3 : (n : Int).tmod 3 = ((n % 3 : Nat) : Int) := by rw [tmod_pos _ _ (by omega)]; omega
  by_cases h6 : n % 6 = 5
  · rw [h6] at e6
    go_enter Try.func58, Try.ntmps58
    go_wp2
    go_ret
    exact ⟨by simp [h6], rfl⟩
  · have d6 : ((n : Int).tmod 6 == 5) = false := by rw [e6]; simp; omega
    by_cases h3 : n % 3 = 0
    · rw [h3] at e3
      go_enter Try.func58, Try.ntmps58
      go_wp2
      go_ret
      exact ⟨by simp [h6, h3], rfl⟩
    · have d3 : ((n : Int).tmod 3 == 0) = false := by rw [e3]; simp; omega
      go_enter Try.func58, Try.ntmps58
      go_wp2
      go_ret
      exact ⟨by simp [h6, h3], rfl⟩

def fillP : Int × Int := (-7000000000000000101, -7000000000000000101)

theorem flatP_set (l : List (Int × Int)) (j : Nat) (x y : Int) : ((flatP l).set (j * 2) (.int .i64 x)).set (j * 2 + 1) (.int .i64 y) = flatP (l.set j (x, y)) := by
  induction l generalizing j with
  | nil => simp [flatP]
  | cons z l ih =>
    cases j with
    | zero => simp [flatP, encP]
    | succ j =>
      have := ih j
      simp only [flatP, encP, List.flatMap_cons, List.cons_append, List.nil_append, Nat.succ_mul, List.set_cons_succ] at this ⊢
      rw [this]

theorem fill_step {α : Type} (T : List α) (z : α) (j : Nat) (h : j < T.length) : (T.take j ++ List.replicate (T.length - j) z).set j T[j] = T.take (j + 1) ++ List.replicate (T.length - (j + 1)) z := by
  obtain ⟨m, hm⟩ : ∃ m, T.length - j = m + 1 := ⟨T.length - j - 1, by omega⟩
  rw [hm, show T.length - (j + 1) = m by omega, List.replicate_succ, List.set_append, if_neg (by simp; omega), List.length_take, Nat.min_eq_left (by omega), Nat.sub_self, List.set_cons_zero, ← List.take_append_getElem h, List.append_assoc]
  rfl

/-- What a copy's block holds: the list, and behind it the filler. -/
def copyT (zs : List (Int × Int)) : List (Int × Int) := zs ++ List.replicate (roomL zs.length) fillP

theorem copyT_len (zs : List (Int × Int)) : (copyT zs).length = zs.length + roomL zs.length := by simp [copyT]

theorem made_flat (n : Nat) : (madeCells #[.int .i64 0, .int .i64 0] (n * 2)).toList = flatP (List.replicate n (0, 0)) := by
  apply List.ext_getElem?
  intro j
  by_cases hj : j < n * 2
  · have h := flatP_at (List.replicate n ((0 : Int), (0 : Int))) (j / 2) (by simp; omega)
    simp only [List.getElem_replicate] at h
    rcases Nat.mod_two_eq_zero_or_one j with hp | hp
    · rw [show j / 2 * 2 = j by omega] at h
      rw [h.1]
      simp [madeCells, hj, hp]
    · rw [show j / 2 * 2 + 1 = j by omega] at h
      rw [h.2]
      simp [madeCells, hj, hp]
  · rw [List.getElem?_eq_none (by rw [Array.length_toList, size_madeCells]; omega), List.getElem?_eq_none (by rw [flatP_len]; simp; omega)]

theorem copyT_at (zs : List (Int × Int)) (j : Nat) : (h : j < zs.length) → (copyT zs)[j]'(by rw [copyT_len]; omega) = zs[j] := by
  intro h
  simp [copyT, h]

theorem copyT_fill (zs : List (Int × Int)) (j : Nat) (h : zs.length ≤ j) : (h2 : j < (copyT zs).length) → (copyT zs)[j] = fillP := by
  intro h2
  simp [copyT, h]

theorem below_drew {B : Nat} {a w : World} (h : Below B a w) : Below B a w.drew := { os := h.os, tape := h.tape, output := h.output, size := h.size, block := h.block }

/-- Cells that read as a slice of structs of two numbers. -/
theorem open_pairsC {H : Type} {enc : TypeId × Value → H} {P : Program} {W : World} {t e : TypeId} {f0 f1 : Field} {base fuel : Nat} {sp : Nat → Bool} {held : Bool} {cs : List Value} {z : DataW H × List MemPlace}
    (ht : P.underlying t = some (.slice e)) (he : P.underlying e = some (.struct #[f0, f1])) (i0 : P.underlying f0.type = some (.int .i64)) (i1 : P.underlying f1.type = some (.int .i64))
    (ce : P.cellsOf e = 2) (o0 : f0.offset = 0) (o1 : f1.offset = 1) (c0 : P.cellsOf f0.type = 1) (c1 : P.cellsOf f1.type = 1)
    (h : DataW.trod enc P W base sp held fuel t cs = some z) :
    ∃ (v : Value) (zs : List (Int × Int)), cs = [v] ∧ RdP W v zs := by
  rcases Deep.open_slice_pairs ht he ce o0 o1 c0 c1 h with ⟨hcs, hx⟩ | ⟨a, len, cap, m, n, V0, V1, D0, D1, P0, P1, hcs, _, hl, hm, hmm, hx, hi⟩
  · exact ⟨_, [], hcs, ⟨by simp, rfl, none, 0, rfl, fun i hi => by simp at hi⟩⟩
  · have hlm : len ≤ m := by rw [hmm]; split <;> omega
    have each : ∀ i, i < len → ∃ q : Int × Int, V0 i = .int .i64 q.1 ∧ V1 i = .int .i64 q.2 := by
      intro i hlt
      obtain ⟨_, _, g0, g1⟩ := hi i (by omega)
      obtain ⟨x, e0, _, w0⟩ := DataW.trod_int i0 g0
      obtain ⟨y, e1, _, w1⟩ := DataW.trod_int i1 g1
      simp at e0 e1
      exact ⟨(x, y), e0, e1⟩
    obtain ⟨q, hq⟩ := Deep.choose_lt each
    obtain ⟨b, off, spot⟩ := a
    refine ⟨_, (List.range len).map q, hcs, ⟨by simp; unfold maxLen at hm; omega, by rw [flatP_len], some ⟨b, off, spot⟩, cap, by simp, fun j hj => ?_⟩⟩
    simp only [List.length_map, List.length_range] at hj
    obtain ⟨h0, h1, _, _⟩ := hi (j / 2) (by omega)
    have hspot : spot = none := by simpa [Addr.add] using World.cell?_spot (hi 0 (by omega)).1
    subst hspot
    rw [add_plain] at h0 h1
    have hat := flatP_at ((List.range len).map q) (j / 2) (by simp; omega)
    simp only [List.getElem_map, List.getElem_range] at hat
    rw [← (hq (j / 2) (by omega)).1, ← (hq (j / 2) (by omega)).2] at hat
    refine ⟨b, off, rfl, World.block_lt_of_cell? _ _ h0, ?_⟩
    rcases Nat.mod_two_eq_zero_or_one j with hp | hp
    · have e : j / 2 * 2 = j := by omega
      rw [e] at hat h0
      rw [hat.1, ← h0]
    · have e : j / 2 * 2 + 1 = j := by omega
      rw [e] at hat h1
      rw [hat.2, ← h1]

theorem szN_any (A : Option Addr) (n c : Nat) (left : Int) (h : 0 ≤ left ∧ left ≤ 1000000) (hn : n ≤ 9223372036854775807) (w : World) :
    Calls Try.prog 34 #[.slice A n c, .int .i64 left] w fun e w' => e = .returned (.int .i64 (if (n : Int) ≤ left then left - n else -1)) ∧ w = w' := by
  by_cases h1 : (n : Int) ≤ left
  · rw [if_pos h1]
    go_enter Try.func34, Try.ntmps34
    go_wp2
    go_ret
    exact ⟨rfl, rfl⟩
  · rw [if_neg h1]
    go_enter Try.func34, Try.ntmps34
    go_wp2
    go_ret
    exact ⟨rfl, rfl⟩

theorem fillPtN_any (w : World) :
    Calls Try.prog 65 #[] w fun e w' => e = .returned (.agg #[.int .i64 fillP.1, .int .i64 fillP.2]) ∧ Below w.heap.size w w' := by
  unfold fillP
  go_enter Try.func65, Try.ntmps65
  go_wp2
  go_returns
  exact ⟨rfl, by go_grown⟩

theorem info_point : (Try.prog.info? 38).map (fun i => (i.zero, i.size, i.bytes)) = some (some (.agg #[.int .i64 0, .int .i64 0]), 2, 16) := by kernel_rfl

theorem eqN_same (v1 v2 : Value) (zs : List (Int × Int)) (w : World) (h1 : RdP w v1 zs) (h2 : RdP w v2 zs) :
    Calls Try.prog 66 #[v1, v2] w fun e w' => e = .returned (.bool true) ∧ Below w.heap.size w w' := by
  obtain ⟨A, c, rfl, hl, r1⟩ := RdP_slice h1
  obtain ⟨A2, c2, rfl, _, r2⟩ := RdP_slice h2
  clear h1 h2
  have R1 := Lib.hid r1; clear r1
  have R2 := Lib.hid r2; clear r2
  go_enter Try.func66, Try.ntmps66
  go_wp2_with fail
  go_loopw [5] (fun i wr => ∃ k : Nat, k ≤ zs.length ∧ i = .int .i64 k ∧ Below w.heap.size w wr) (fun i _ => zs.length - (intOf i).toNat)
  case atStart => exact ⟨0, by omega, rfl, Below.refl _ _⟩
  case round =>
    obtain ⟨k, hk, rfl, hb⟩ := hrel
    by_cases hlt : k < zs.length
    · obtain ⟨b, off, rfl, hbl, hc0, hc1⟩ := R1.out k hlt
      obtain ⟨b2, off2, rfl, hbl2, hd0, hd1⟩ := R2.out k hlt
      rw [← kept_cell hb b _ hbl] at hc0 hc1
      rw [← kept_cell hb b2 _ hbl2] at hd0 hd1
      generalize zs[k].1 = x at *
      generalize zs[k].2 = y at *
      have hsz := hb.size
      have hbl' := Nat.lt_of_lt_of_le hbl hsz
      have hbl2' := Nat.lt_of_lt_of_le hbl2 hsz
      go_wp2_with fail
      go_region_held3 (fun w' => w'.cell? ⟨b, off + k * 2, none⟩ = some (.int .i64 x) ∧ w'.cell? ⟨b, off + k * 2 + 1, none⟩ = some (.int .i64 y) ∧ w'.cell? ⟨b2, off2 + k * 2, none⟩ = some (.int .i64 x) ∧ w'.cell? ⟨b2, off2 + k * 2 + 1, none⟩ = some (.int .i64 y)) (go_keep)
        ((go_at_call 79; refine (eqPoint_same _ _ _).mono ?_; rintro e w1 ⟨rfl, hb1⟩; replace hb1 := kept_trans (a := wr) (by go_grown) hb1; have hcl := kept_cell hb1))
      go_wp2
      go_roundw
      case rel => exact ⟨k + 1, by omega, by go_num, kept_trans hb (by assumption)⟩
      case measure => simp [intOf]; omega
    · have : k = zs.length := by omega
      subst this
      go_wp2
      go_ret
      exact ⟨rfl, hb⟩

/-- A copy of a list of steps that the law made: the whole block is a row of the call's own. -/
def CopyN (w : World) (lo hi : Nat) (v : Value) (zs : List (Int × Int)) : Prop :=
  zs.length ≤ 1000000 ∧ ∃ g, v = .slice (some ⟨g, 0, none⟩) zs.length (copyT zs).length ∧ RowF 38 2 w lo hi (.slice (some ⟨g, 0, none⟩) (copyT zs).length (copyT zs).length) (copyT zs).length (flatP (copyT zs))

theorem CopyN_kept {W w1 : World} {lo hi : Nat} {v : Value} {zs : List (Int × Int)} (h : CopyN W lo hi v zs) (hb : Below W.heap.size W w1) : CopyN w1 lo hi v zs := by
  obtain ⟨hl, g, e, hr⟩ := h
  exact ⟨hl, g, e, RowF_kept hr hb⟩

theorem CopyN_row {w : World} {lo hi : Nat} {v : Value} {zs : List (Int × Int)} (h : CopyN w lo hi v zs) : RowF 38 2 w lo hi v zs.length (flatP zs) := by
  obtain ⟨hl, g, rfl, hr⟩ := h
  have := RowF_short hr (n := zs.length) (by rw [copyT_len]; omega)
  have e : (flatP (copyT zs)).take (zs.length * 2) = flatP zs := by
    rw [show flatP (copyT zs) = flatP zs ++ flatP (List.replicate (roomL zs.length) fillP) by simp [flatP, copyT]]
    rw [← flatP_len, List.take_left]
  rwa [e] at this

theorem CopyN_rd {w : World} {lo hi : Nat} {v : Value} {zs : List (Int × Int)} (h : CopyN w lo hi v zs) : RdP w v zs := RowF_rd (CopyN_row h)

theorem make_points (n : Nat) (h : n ≤ 4000000) (w : World) :
    (Instr.makeSlice 27 (.int .i64 (n : Int)) (.int .i64 (n : Int))).run Try.prog w = .ok (.slice (some ⟨w.heap.size, 0, none⟩) n n) (w.alloc (.cells (madeCells #[.int .i64 0, .int .i64 0] (n * 2)) 38)) := by
  obtain ⟨i, hi, hz, hs, hb⟩ := info_parts info_point
  have hb' : (i.bytes : Int) * (n : Int) ≤ 281474976710656 := by rw [hb]; omega
  have hr := run_make (P := Try.prog) w 27 38 i (.agg #[.int .i64 0, .int .i64 0]) Try.underlying27 hi hz .i64 .i64 n n (by omega) (Int.le_refl _) hb' (by omega)
  simp only [Int.toNat_natCast, hs] at hr
  exact hr

theorem toN_row (v : Value) (zs : List (Int × Int)) (bare : Bool) (w : World) (h : RdP w v zs) (hn : zs.length ≤ 1000000) (hbare : bare = false ∨ zs ≠ []) :
    Calls Try.prog 36 #[v, .bool bare] w fun e w' => ∃ v', e = .returned v' ∧ CopyN w' w.heap.size w'.heap.size v' zs ∧ Below w.heap.size w w' := by
  obtain ⟨A, c, rfl, hl, r1⟩ := RdP_slice h
  clear h
  have R := Lib.hid r1; clear r1
  have hN := copyT_len zs
  have hr := roomL_le zs.length
  have hmk : ∀ w : World, (Instr.makeSlice 27 (.int .i64 ((zs.length : Int) + (roomL zs.length : Int))) (.int .i64 ((zs.length : Int) + (roomL zs.length : Int)))).run Try.prog w = .ok (.slice (some ⟨w.heap.size, 0, none⟩) (copyT zs).length (copyT zs).length) (w.alloc (.cells (madeCells #[.int .i64 0, .int .i64 0] ((copyT zs).length * 2)) 38)) := by
    intro w
    have := make_points (copyT zs).length (by omega) w
    rwa [show (((copyT zs).length : Nat) : Int) = (zs.length : Int) + (roomL zs.length : Int) by omega] at this
  have hcap : (copyT zs).length ≤ maxLen := by unfold maxLen; omega
  have hrow0 : ∀ wa : World, w.heap.size ≤ wa.heap.size → (wa.alloc (.cells (madeCells #[.int .i64 0, .int .i64 0] ((copyT zs).length * 2)) 38)).ownsRow w.heap.size 38 2 (.slice (some ⟨wa.heap.size, 0, none⟩) (copyT zs).length (copyT zs).length) (copyT zs).length (flatP ((copyT zs).take 0 ++ List.replicate ((copyT zs).length - 0) (0, 0))) := by
    intro wa hwa
    have := World.ownsRow_lit wa (e := 38) (size := 2) (madeCells #[.int .i64 0, .int .i64 0] ((copyT zs).length * 2)) (copyT zs).length hwa hcap (size_madeCells _ _)
    rw [made_flat] at this
    simpa using this
  have Hrow := Lib.hid hrow0; clear hrow0
  have hb0 : bare = true → ((zs.length : Int) == 0) = false := by
    intro hb
    have : zs.length ≠ 0 := fun h => by
      rcases hbare with h1 | h1
      · rw [hb] at h1; cases h1
      · exact h1 (List.eq_nil_of_length_eq_zero h)
    simpa using this
  clear hbare
  generalize hNN : (copyT zs).length = N at *
  have HNN := Lib.hid hNN; clear hNN
  have hNb : N ≤ 2000002 ∧ zs.length ≤ N := by omega
  have HN := Lib.hid hN; clear hN
  cases bare
  all_goals
    have hbn := hb0
    simp only [forall_const, reduceCtorEq, false_implies, Bool.false_eq_true] at hbn
    clear hb0
    go_enter Try.func36, Try.ntmps36
    go_wp2_with (go_at_call 58; refine (room_any _ (by omega) _).mono ?_; rintro e w1 ⟨rfl, rfl⟩)
    go_loopw [6] (fun i wr => ∃ j : Nat, j ≤ zs.length ∧ i = .int .i64 j ∧ wr.ownsRow w.heap.size 38 2 (.slice (some ⟨w.heap.size, 0, none⟩) N N) N (flatP ((copyT zs).take j ++ List.replicate (N - j) (0, 0))) ∧ Below w.heap.size w wr) (fun i _ => zs.length - (intOf i).toNat)
    case atStart => exact ⟨0, by omega, rfl, Hrow.out w (Nat.le_refl _), by go_grown⟩
    case round =>
      obtain ⟨j, hj, rfl, hown, hb⟩ := hrel
      have hsz := hb.size
      by_cases hlt : j < zs.length
      · obtain ⟨b, off, rfl, hbl, hc0, hc1⟩ := R.out j hlt
        rw [← kept_cell hb b _ hbl] at hc0 hc1
        go_wp2_with fail
        refine (toPoint_any _ _ _).mono ?_
        rintro e w1 ⟨rfl, hb1⟩
        have hown1 := own_kept hown hb1
        have hlen : (flatP ((copyT zs).take j ++ List.replicate (N - j) (0, 0))).length = N * 2 := hown.1
        obtain ⟨u0, hu0⟩ : ∃ u, w1.cell? ⟨w.heap.size, j * 2, none⟩ = some u := by
          rw [hown1.cellAt _ (by omega)]
          exact ⟨_, List.getElem?_eq_getElem (by omega)⟩
        obtain ⟨u1, hu1⟩ : ∃ u, w1.cell? ⟨w.heap.size, j * 2 + 1, none⟩ = some u := by
          rw [hown1.cellAt _ (by omega)]
          exact ⟨_, List.getElem?_eq_getElem (by omega)⟩
        have hz0 := hown1.frozenAt (j * 2)
        have hz1 := hown1.frozenAt (j * 2 + 1)
        have hs0 := hown1.stored (j * 2) (.int .i64 zs[j].1)
        have hs1 := hs0.1.stored (j * 2 + 1) (.int .i64 zs[j].2)
        rw [flatP_set] at hs1
        have hstep := fill_step (copyT zs) (0, 0) j (by rw [HNN.out]; omega)
        rw [copyT_at zs j hlt, HNN.out] at hstep
        rw [show ((zs[j].1, zs[j].2) : Int × Int) = zs[j] from rfl, hstep] at hs1
        have Hs := Lib.hid hs1.1
        have Hg := Lib.hid (grown_step hs0.2 hs1.2)
        clear hs0 hs1 hstep hown hown1 hlen
        go_wp2
        go_roundw
        case rel => exact ⟨j + 1, by omega, by go_num, Hs.out, grown_below (kept_trans hb hb1) Hg.out (fun g hg => by simp at hg; omega)⟩
        case measure => simp [intOf]; omega
      · have : j = zs.length := by omega
        subst this
        go_wp2_with fail
        go_loopw [7] (fun i wr => ∃ j : Nat, zs.length ≤ j ∧ j ≤ N ∧ i = .int .i64 j ∧ wr.ownsRow w.heap.size 38 2 (.slice (some ⟨w.heap.size, 0, none⟩) N N) N (flatP ((copyT zs).take j ++ List.replicate (N - j) (0, 0))) ∧ Below w.heap.size w wr) (fun i _ => N - (intOf i).toNat)
        case atStart => exact ⟨zs.length, by omega, by omega, rfl, hown, hb⟩
        case round =>
          obtain ⟨j, hj0, hj, rfl, hown, hb⟩ := hrel
          have hsz := hb.size
          by_cases hlt : j < N
          · go_wp2_with fail
            refine (fillPtN_any _).mono ?_
            rintro e w1 ⟨rfl, hb1⟩
            have hown1 := own_kept hown hb1
            have hlen : (flatP ((copyT zs).take j ++ List.replicate (N - j) (0, 0))).length = N * 2 := hown.1
            obtain ⟨u0, hu0⟩ : ∃ u, w1.cell? ⟨w.heap.size, j * 2, none⟩ = some u := by
              rw [hown1.cellAt _ (by omega)]
              exact ⟨_, List.getElem?_eq_getElem (by omega)⟩
            obtain ⟨u1, hu1⟩ : ∃ u, w1.cell? ⟨w.heap.size, j * 2 + 1, none⟩ = some u := by
              rw [hown1.cellAt _ (by omega)]
              exact ⟨_, List.getElem?_eq_getElem (by omega)⟩
            have hz0 := hown1.frozenAt (j * 2)
            have hz1 := hown1.frozenAt (j * 2 + 1)
            have hs0 := hown1.stored (j * 2) (.int .i64 fillP.1)
            have hs1 := hs0.1.stored (j * 2 + 1) (.int .i64 fillP.2)
            rw [flatP_set] at hs1
            have hstep := fill_step (copyT zs) (0, 0) j (by rw [HNN.out]; omega)
            rw [copyT_fill zs j hj0 (by rw [HNN.out]; omega), HNN.out] at hstep
            rw [show ((fillP.1, fillP.2) : Int × Int) = fillP from rfl, hstep] at hs1
            have Hs := Lib.hid hs1.1
            have Hg := Lib.hid (grown_step hs0.2 hs1.2)
            clear hs0 hs1 hstep hown hown1 hlen
            go_wp2
            go_roundw
            case rel => exact ⟨j + 1, by omega, by omega, by go_num, Hs.out, grown_below (kept_trans hb hb1) Hg.out (fun g hg => by simp at hg; omega)⟩
            case measure => simp [intOf]; omega
          · have : j = N := by omega
            subst this
            have Hown := Lib.hid hown; clear hown
            go_wp2
            go_ret
            have hT : (copyT zs).take j ++ List.replicate (j - j) (0, 0) = copyT zs := by rw [List.take_of_length_le (by rw [HNN.out]; exact Nat.le_refl _)]; simp
            refine ⟨_, rfl, ⟨hn, w.heap.size, by rw [HNN.out]; rfl, ?_⟩, hb⟩
            rw [HNN.out, ← hT]
            exact ⟨Hown.out, fun g hg => by simp [Value.ownBlock] at hg; subst hg; exact ⟨Nat.le_refl _, (Hown.out.lt _ rfl).2⟩⟩

theorem toN_false (v : Value) (zs : List (Int × Int)) (w : World) (h : RdP w v zs) (hn : zs.length ≤ 1000000) :
    Calls Try.prog 36 #[v, .bool false] w fun e w' => ∃ v', e = .returned v' ∧ CopyN w' w.heap.size w'.heap.size v' zs ∧ Below w.heap.size w w' := toN_row v zs false w h hn (Or.inl rfl)

theorem intactN_same (v1 v2 : Value) (zs : List (Int × Int)) (lo1 hi1 lo2 hi2 : Nat) (w : World) (h1 : CopyN w lo1 hi1 v1 zs) (h2 : CopyN w lo2 hi2 v2 zs) :
    Calls Try.prog 38 #[v1, v2] w fun e w' => e = .returned (.bool true) ∧ Below w.heap.size w w' := by
  obtain ⟨hn, g1, rfl, r1⟩ := h1
  obtain ⟨_, g2, rfl, r2⟩ := h2
  have q1 : RdP w _ (copyT zs) := RowF_rd r1
  have q2 : RdP w _ (copyT zs) := RowF_rd r2
  clear r1 r2
  have hN := copyT_len zs
  have hr := roomL_le zs.length
  generalize hT : copyT zs = T at *
  clear hT
  have Q1 := Lib.hid q1; clear q1
  have Q2 := Lib.hid q2; clear q2
  generalize hTl : T.length = N at *
  have hN' : (zs.length : Int) + (roomL zs.length : Int) = (N : Int) := by omega
  have hcap : zs.length ≤ N := by omega
  clear hN
  go_enter Try.func38, Try.ntmps38
  go_wp2_with (go_at_call 58; refine (room_any _ (by omega) _).mono ?_; rintro e w1 ⟨rfl, rfl⟩)
  go_region_held3 (fun _ => True) (trivial)
    ((go_at_call 66; refine (eqN_same _ _ T _ (by exact Q1.out) (by exact Q2.out)).mono ?_; rintro e w1 ⟨rfl, hb1⟩; replace hb1 := kept_trans (a := w) (by go_grown) hb1))
  go_wp2
  go_ret
  exact ⟨rfl, by assumption⟩

theorem szN_fit (A : Option Addr) (n c : Nat) (left : Int) (h : (n : Int) ≤ left ∧ left ≤ 1000000) (w : World) :
    Calls Try.prog 34 #[.slice A n c, .int .i64 left] w fun e w' => e = .returned (.int .i64 (left - n)) ∧ w = w' := by
  have := szN_any A n c left (by omega) (by omega) w
  rwa [if_pos h.1] at this

theorem szN_over (A : Option Addr) (n c : Nat) (left : Int) (h : 0 ≤ left ∧ left ≤ 1000000) (hn : n ≤ 9223372036854775807) (hlt : left < n) (w : World) :
    Calls Try.prog 34 #[.slice A n c, .int .i64 left] w fun e w' => e = .returned (.int .i64 (-1)) ∧ w = w' := by
  have := szN_any A n c left h hn w
  rwa [if_neg (by omega)] at this

theorem CopyN_set {w : World} {lo hi b o : Nat} {v u : Value} {zs : List (Int × Int)} (h : CopyN w lo hi v zs) (hb : b < lo) : CopyN (w.setCell ⟨b, o, none⟩ u) lo hi v zs := by
  obtain ⟨hl, g, e, hr⟩ := h
  exact ⟨hl, g, e, RowF_far hr (grown_set _ _ _) (fun g hg => by simp at hg; omega)⟩

theorem CopyN_lo {w : World} {lo lo' hi hi' : Nat} {v : Value} {zs : List (Int × Int)} (h : CopyN w lo hi v zs) (hl : lo' ≤ lo) (hh : hi ≤ hi') : CopyN w lo' hi' v zs := by
  obtain ⟨hn, g, e, hr⟩ := h
  exact ⟨hn, g, e, RowF_lo hr hl hh⟩

theorem toN_bare (v : Value) (zs : List (Int × Int)) (w : World) (h : RdP w v zs) (hn : zs.length ≤ 1000000) :
    Calls Try.prog 36 #[v, .bool true] w fun e w' => ∃ v', e = .returned v' ∧ RowF 38 2 w' w.heap.size w'.heap.size v' zs.length (flatP zs) ∧ Below w.heap.size w w' := by
  by_cases hz : zs = []
  · subst hz
    obtain ⟨A, c, rfl, hl, _⟩ := RdP_slice h
    clear h
    go_enter Try.func36, Try.ntmps36
    go_wp2
    go_ret
    exact ⟨_, rfl, RowF_nil _ _ _ _ _, Below.refl _ _⟩
  · exact (toN_row v zs true w h hn (Or.inr hz)).mono fun e w' ⟨v', he, hc, hb⟩ => ⟨v', he, CopyN_row hc, hb⟩

theorem prod_bd (a b k : Int) (h1 : -k ≤ a ∧ a ≤ k) (h2 : -k ≤ b ∧ b ≤ k) : -(k * k) ≤ a * b ∧ a * b ≤ k * k := by
  have e1 : 0 ≤ (k - a) * (k + b) := Int.mul_nonneg (by omega) (by omega)
  have e2 : 0 ≤ (k + a) * (k - b) := Int.mul_nonneg (by omega) (by omega)
  have e3 : 0 ≤ (k - a) * (k - b) := Int.mul_nonneg (by omega) (by omega)
  have e4 : 0 ≤ (k + a) * (k + b) := Int.mul_nonneg (by omega) (by omega)
  have d1 : (k - a) * (k + b) = k * k + k * b - k * a - a * b := by grind
  have d2 : (k + a) * (k - b) = k * k - k * b + k * a - a * b := by grind
  have d3 : (k - a) * (k - b) = k * k - k * b - k * a + a * b := by grind
  have d4 : (k + a) * (k + b) = k * k + k * b + k * a + a * b := by grind
  omega

/-- The cross product of the vectors from o to a and to b. -/
def crossL (o a b : Int × Int) : Int := (a.1 - o.1) * (b.2 - o.2) - (a.2 - o.2) * (b.1 - o.1)

theorem cross_turn (o a b : Int × Int) : crossL a b o = crossL o a b := by unfold crossL; grind

theorem cross_end (o a : Int × Int) : crossL o a a = 0 := by unfold crossL; grind

theorem cross_beg (o a : Int × Int) : crossL o a o = 0 := by unfold crossL; grind

def ptZ (zs : List (Int × Int)) (k : Nat) : Int × Int := zs.getD k (0, 0)

theorem zs_range (zs : List (Int × Int)) : zs = (List.range zs.length).map (ptZ zs) := by
  apply List.ext_getElem
  · simp
  · intro i h1 h2; simp [ptZ, h1]

theorem count_two (n a b : Nat) (hab : a ≠ b) (ha : a < n) (hb : b < n) (p : Nat → Bool) (pa : p a = false) (pb : p b = false) :
    (List.range n).countP p = n - 2 ↔ ∀ i, i < n → i ≠ a → i ≠ b → p i = true := by
  have h0 : (List.range n).length = (List.range n).countP p + (List.range n).countP (fun i => !p i) := by
    have := List.length_eq_countP_add_countP p (l := List.range n)
    simpa using this
  have m1 : a ∈ List.range n := by simpa using ha
  have nd : (List.range n).Nodup := List.nodup_range
  have m2 : b ∈ (List.range n).erase a := by rw [nd.mem_erase_iff]; exact ⟨fun h => hab h.symm, by simpa using hb⟩
  have h1 := (List.perm_cons_erase m1).countP_eq (fun i => !p i)
  have h2 := (List.perm_cons_erase m2).countP_eq (fun i => !p i)
  rw [List.countP_cons] at h1 h2
  simp only [pa, pb, Bool.not_false, if_true] at h1 h2
  have hz : ((((List.range n).erase a).erase b).countP (fun i => !p i) = 0) ↔ ∀ i, i < n → i ≠ a → i ≠ b → p i = true := by
    rw [List.countP_eq_zero]
    constructor
    · intro h i hi h1 h2
      have := h i (by rw [(nd.erase a).mem_erase_iff, nd.mem_erase_iff]; exact ⟨h2, h1, by simpa using hi⟩)
      simpa using this
    · intro h i hi
      rw [(nd.erase a).mem_erase_iff, nd.mem_erase_iff] at hi
      simp [h i (by simpa using hi.2.2) hi.2.1 hi.1]
  rw [← hz]
  rw [List.length_range] at h0
  omega

/-- The side k at a point. -/
def sdL (n : Nat) (c : Nat → Int × Int) (k : Nat) (p : Int × Int) : Int := crossL (c k) (c ((k + 1) % n)) p

/-- Twice the area of the first triangles from the corner 0. -/
def areaN (c : Nat → Int × Int) : Nat → Int
  | 0 => 0
  | j + 1 => areaN c j + crossL (c 0) (c j) (c (j + 1))

theorem area_one (c : Nat → Int × Int) : areaN c 1 = 0 := by
  simp only [areaN]
  rw [show crossL (c 0) (c 0) (c (0 + 1)) = 0 by unfold crossL; grind]
  rfl

theorem area_bd {c : Nat → Int × Int} {n : Nat} (h : ∀ k, k + 1 < n → -2000000000 ≤ crossL (c 0) (c k) (c (k + 1)) ∧ crossL (c 0) (c k) (c (k + 1)) ≤ 2000000000) (j : Nat) (hj : j < n) : -2000000000 * (j : Int) ≤ areaN c j ∧ areaN c j ≤ 2000000000 * (j : Int) := by
  induction j with
  | zero => simp [areaN]
  | succ j ih =>
    have h1 := ih (by omega)
    have h2 := h j hj
    simp only [areaN]
    omega

theorem area_step {c : Nat → Int × Int} {n j : Nat} (hj : j + 1 < n) : areaN c j + sdL n c j (c 0) = areaN c (j + 1) := by
  unfold sdL
  rw [Nat.mod_eq_of_lt hj, cross_turn]
  rfl

theorem area_last {c : Nat → Int × Int} {n : Nat} (hn : 0 < n) : sdL n c (n - 1) (c 0) = 0 := by
  unfold sdL
  rw [show n - 1 + 1 = n by omega, Nat.mod_self]
  exact cross_end _ _

theorem ptZ_at (zs : List (Int × Int)) (k : Nat) (h : k < zs.length) : ptZ zs k = zs[k] := by simp [ptZ, h]

/-- Each other corner is on the left of each side. -/
def turnsP (zs : List (Int × Int)) : Prop := ∀ k, k < zs.length → ∀ i, i < zs.length → i ≠ k → i ≠ (k + 1) % zs.length → 0 < crossL (ptZ zs k) (ptZ zs ((k + 1) % zs.length)) (ptZ zs i)

/-- How many points are on the left of a line. -/
def leftN (zs : List (Int × Int)) (o a : Int × Int) : Nat := zs.countP fun p => decide (0 < crossL o a p)

theorem left_turns {zs : List (Int × Int)} (h3 : 3 ≤ zs.length) {k : Nat} (hk : k < zs.length) :
    leftN zs (ptZ zs k) (ptZ zs ((k + 1) % zs.length)) = zs.length - 2 ↔ ∀ i, i < zs.length → i ≠ k → i ≠ (k + 1) % zs.length → 0 < crossL (ptZ zs k) (ptZ zs ((k + 1) % zs.length)) (ptZ zs i) := by
  have hm : (k + 1) % zs.length < zs.length := Nat.mod_lt _ (by omega)
  have hne : k ≠ (k + 1) % zs.length := by
    by_cases h : k + 1 < zs.length
    · rw [Nat.mod_eq_of_lt h]; omega
    · rw [show k + 1 = zs.length by omega, Nat.mod_self]; omega
  have e : leftN zs (ptZ zs k) (ptZ zs ((k + 1) % zs.length)) = (List.range zs.length).countP (fun i => decide (0 < crossL (ptZ zs k) (ptZ zs ((k + 1) % zs.length)) (ptZ zs i))) := by
    unfold leftN
    generalize hf : (fun p => decide (0 < crossL (ptZ zs k) (ptZ zs ((k + 1) % zs.length)) p)) = f
    rw [show (fun i => decide (0 < crossL (ptZ zs k) (ptZ zs ((k + 1) % zs.length)) (ptZ zs i))) = fun i => f (ptZ zs i) by subst hf; rfl]
    have := List.countP_map (p := f) (f := ptZ zs) (l := List.range zs.length)
    rw [← zs_range] at this
    exact this
  rw [e, count_two zs.length k ((k + 1) % zs.length) hne hk hm _ (by simp [cross_beg]) (by simp [cross_end])]
  simp only [decide_eq_true_eq]

/-- The sides, each a line from a corner to the next one. -/
def sidesL (zs : List (Int × Int)) : List ((Int × Int) × (Int × Int)) := (List.range zs.length).map fun k => (ptZ zs k, ptZ zs ((k + 1) % zs.length))

theorem sidesL_len (zs : List (Int × Int)) : (sidesL zs).length = zs.length := by simp [sidesL]

theorem sidesL_at (zs : List (Int × Int)) (k : Nat) (h : k < (sidesL zs).length) : (sidesL zs)[k] = (ptZ zs k, ptZ zs ((k + 1) % zs.length)) := by simp [sidesL]

theorem turns_sides {zs : List (Int × Int)} (h3 : 3 ≤ zs.length) : turnsP zs ↔ ∀ s ∈ sidesL zs, leftN zs s.1 s.2 = zs.length - 2 := by
  constructor
  · intro h s hs
    obtain ⟨k, hk, rfl⟩ := List.mem_iff_getElem.1 hs
    rw [sidesL_at]
    rw [sidesL_len] at hk
    exact (left_turns h3 hk).2 (h k hk)
  · intro h k hk
    have hk' : k < (sidesL zs).length := by rw [sidesL_len]; exact hk
    have := h (sidesL zs)[k] (List.getElem_mem hk')
    rw [sidesL_at] at this
    exact (left_turns h3 hk).1 this

/-- A zone's fields. -/
structure Zn where
  kd : Int
  st : Int
  ea : Int
  cs : List (Int × Int)

def wfZ (k : Zn) : Prop := (Lit.int .i64 k.kd).wf = true ∧ (Lit.int .i64 k.st).wf = true ∧ (Lit.int .i64 k.ea).wf = true

/-- A zone, cell by cell; c: its corners' slice. -/
def encZ (p : Zn × Value) : List Value := [.int .i64 p.1.kd, .int .i64 p.1.st, .int .i64 p.1.ea, p.2]

set_option maxRecDepth 100000 in
/-- Cells that read as a zone. -/
theorem open_zoneC {H : Type} {enc : TypeId × Value → H} {W : World} {base fuel : Nat} {sp : Nat → Bool} {held : Bool} {cs : List Value} {z : DataW H × List MemPlace}
    (h : DataW.trod enc Try.prog W base sp held fuel 24 cs = some z) : ∃ (k : Zn) (c : Value), cs = encZ (k, c) ∧ RdP W c k.cs ∧ wfZ k := by
  obtain ⟨xs, n, _, _, hl, hlen, hf⟩ := DataW.trod_struct Try.underlying24 h
  have hl4 : cs.length = 4 := hl.trans (by kernel_rfl)
  have h0 : DataW.trod enc Try.prog W base sp held n 2 ((cs.drop 0).take (Try.prog.cellsOf 2)) = xs[0]? := hf 0 _ rfl
  have h1 : DataW.trod enc Try.prog W base sp held n 2 ((cs.drop 1).take (Try.prog.cellsOf 2)) = xs[1]? := hf 1 _ rfl
  have h2 : DataW.trod enc Try.prog W base sp held n 2 ((cs.drop 2).take (Try.prog.cellsOf 2)) = xs[2]? := hf 2 _ rfl
  have h3 : DataW.trod enc Try.prog W base sp held n 22 ((cs.drop 3).take (Try.prog.cellsOf 22)) = xs[3]? := hf 3 _ rfl
  have z2 : Try.prog.cellsOf 2 = 1 := by kernel_rfl
  have z3 : Try.prog.cellsOf 22 = 1 := by kernel_rfl
  match cs, hl4 with
  | [c0, c1, c2, c3], _ =>
    have i0 : xs[0]? = some (xs[0]'(by rw [hlen]; decide)) := List.getElem?_eq_getElem _
    have i1 : xs[1]? = some (xs[1]'(by rw [hlen]; decide)) := List.getElem?_eq_getElem _
    have i2 : xs[2]? = some (xs[2]'(by rw [hlen]; decide)) := List.getElem?_eq_getElem _
    have i3 : xs[3]? = some (xs[3]'(by rw [hlen]; decide)) := List.getElem?_eq_getElem _
    simp only [i0, i1, i2, i3, z2, z3, List.drop_succ_cons, List.drop_zero, List.take_succ_cons, List.take_zero] at h0 h1 h2 h3
    obtain ⟨a, e0, _, w0⟩ := DataW.trod_int Try.underlying2 h0
    obtain ⟨b, e1, _, w1⟩ := DataW.trod_int Try.underlying2 h1
    obtain ⟨d, e2, _, w2⟩ := DataW.trod_int Try.underlying2 h2
    obtain ⟨c, zs, e3, hr⟩ := open_pairsC Try.underlying22 Try.underlying36 Try.underlying2 Try.underlying2 (by kernel_rfl) rfl rfl (by kernel_rfl) (by kernel_rfl) h3
    simp only [List.cons.injEq, and_true] at e0 e1 e2 e3
    subst e0 e1 e2 e3
    exact ⟨⟨a, b, d, zs⟩, _, rfl, hr, w0, w1, w2⟩

set_option maxRecDepth 100000 in
theorem open_zone {H : Type} {enc : TypeId × Value → H} {W : World} {base : Nat} {v : Value} {d : DataW H} {p : List MemPlace}
    (hv : Value.okWide Try.prog W .any base 24 v) (h : DataW.Trod enc Try.prog W 0 (fun _ => true) true 24 v d p) :
    ∃ (k : Zn) (c : Value), v = .agg #[.int .i64 k.kd, .int .i64 k.st, .int .i64 k.ea, c] ∧ RdP W c k.cs ∧ wfZ k := by
  obtain ⟨cs, rfl, hsz⟩ := okWide_struct Try.underlying24 hv
  obtain ⟨fuel, hf⟩ := h
  obtain ⟨k, c, e, hr, wk⟩ := open_zoneC (by simpa [Value.cells] using hf)
  refine ⟨k, c, ?_, hr, wk⟩
  rw [show cs = #[.int .i64 k.kd, .int .i64 k.st, .int .i64 k.ea, c] from Array.toList_inj.1 (by rw [e]; rfl)]

theorem szZ_any (k : Zn) (c : Value) (left : Int) (h : 0 ≤ left ∧ left ≤ 1000000) (w : World) (hr : RdP w c k.cs) :
    Calls Try.prog 11 #[.agg #[.int .i64 k.kd, .int .i64 k.st, .int .i64 k.ea, c], .int .i64 left] w fun e w' => e = .returned (.int .i64 (if (k.cs.length : Int) ≤ left then left - k.cs.length else -1)) ∧ Below w.heap.size w w' := by
  obtain ⟨A, cp, rfl, hl, _⟩ := RdP_slice hr
  clear hr
  obtain ⟨kd, st, ea, zs⟩ := k
  dsimp only at *
  by_cases h1 : (zs.length : Int) ≤ left
  · rw [if_pos h1]
    go_enter Try.func11, Try.ntmps11
    go_wp2_with (go_at_call 34; refine ((szN_fit _ _ _ _ (by omega) _)).mono ?_; rintro e w1 ⟨rfl, rfl⟩)
    go_ret
    exact ⟨rfl, by go_grown⟩
  · rw [if_neg h1]
    go_enter Try.func11, Try.ntmps11
    go_wp2_with (go_at_call 34; refine ((szN_over _ _ _ _ (by omega) (by omega) (by omega) _)).mono ?_; rintro e w1 ⟨rfl, rfl⟩)
    go_ret
    exact ⟨rfl, by go_grown⟩

theorem toZ_false (k : Zn) (c : Value) (w : World) (hr : RdP w c k.cs) (hn : k.cs.length ≤ 1000000) :
    Calls Try.prog 13 #[.agg #[.int .i64 k.kd, .int .i64 k.st, .int .i64 k.ea, c], .bool false] w fun e w' => ∃ c', e = .returned (.agg #[.int .i64 k.kd, .int .i64 k.st, .int .i64 k.ea, c']) ∧ CopyN w' w.heap.size w'.heap.size c' k.cs ∧ Below w.heap.size w w' := by
  obtain ⟨A0, cp0, rfl, _, _⟩ := RdP_slice hr
  have H := Lib.hid hr; clear hr
  obtain ⟨kd, st, ea, zs⟩ := k
  dsimp only at *
  go_enter Try.func13, Try.ntmps13
  go_wp2_with fail
  refine (toN_false _ zs _ (RdP_kept H.out (by go_grown)) hn).mono ?_
  rintro e w2 ⟨c', rfl, hc, hb2⟩
  obtain ⟨A1, cp1, rfl, _, _⟩ := RdP_slice (CopyN_rd hc)
  have HC := Lib.hid hc; clear hc
  refine kept_at hb2 (w.heap.size + 1) (by go_size) fun c2_1 z2_1 s2_1 => ?_
  refine kept_at hb2 (w.heap.size + 2) (by go_size) fun c2_2 z2_2 s2_2 => ?_
  have b2 := kept_trans (a := w) (by go_grown) hb2
  go_wp2
  (try simp only [Exit.inBlock, Exit.then])
  refine bodyPost_ret (v := .agg #[.int .i64 kd, .int .i64 st, .int .i64 ea, .slice A1 zs.length cp1]) ?_ rfl ⟨_, rfl, ?_, ?_⟩
  · rw [results_cell1 rfl]
    go_simp
  · have h := HC.out
    simp only [World.size_setCell, World.size_alloc] at h
    exact CopyN_lo (lo := w.heap.size + 1 + 1 + 1) (hi := w2.heap.size) (CopyN_set (CopyN_set (CopyN_set (CopyN_set (CopyN_set h (by omega)) (by omega)) (by omega)) (by omega)) (by omega)) (by omega) (by simp)
  · go_grown

theorem toZ_true (k : Zn) (c : Value) (w : World) (hr : RdP w c k.cs) (hn : k.cs.length ≤ 1000000) :
    Calls Try.prog 13 #[.agg #[.int .i64 k.kd, .int .i64 k.st, .int .i64 k.ea, c], .bool true] w fun e w' => ∃ c', e = .returned (.agg #[.int .i64 k.kd, .int .i64 k.st, .int .i64 k.ea, c']) ∧ RowF 38 2 w' w.heap.size w'.heap.size c' k.cs.length (flatP k.cs) ∧ Below w.heap.size w w' := by
  obtain ⟨A0, cp0, rfl, _, _⟩ := RdP_slice hr
  have H := Lib.hid hr; clear hr
  obtain ⟨kd, st, ea, zs⟩ := k
  dsimp only at *
  go_enter Try.func13, Try.ntmps13
  go_wp2_with fail
  refine (toN_bare _ zs _ (RdP_kept H.out (by go_grown)) hn).mono ?_
  rintro e w2 ⟨c', rfl, hc, hb2⟩
  obtain ⟨A1, cp1, rfl, _, _⟩ := RdP_slice (RowF_rd hc)
  have HC := Lib.hid hc; clear hc
  refine kept_at hb2 (w.heap.size + 1) (by go_size) fun c2_1 z2_1 s2_1 => ?_
  refine kept_at hb2 (w.heap.size + 2) (by go_size) fun c2_2 z2_2 s2_2 => ?_
  have b2 := kept_trans (a := w) (by go_grown) hb2
  go_wp2
  (try simp only [Exit.inBlock, Exit.then])
  refine bodyPost_ret (v := .agg #[.int .i64 kd, .int .i64 st, .int .i64 ea, .slice A1 zs.length cp1]) ?_ rfl ⟨_, rfl, ?_, ?_⟩
  · rw [results_cell1 rfl]
    go_simp
  · have h := HC.out
    simp only [World.size_setCell, World.size_alloc] at h
    exact RowF_lo (lo := w.heap.size + 1 + 1 + 1) (hi := w2.heap.size) (RowF_set (RowF_set (RowF_set (RowF_set (RowF_set h (by omega)) (by omega)) (by omega)) (by omega)) (by omega)) (by omega) (by simp)
  · go_grown

theorem intactZ_same (k : Zn) (c1 c2 : Value) (lo1 hi1 lo2 hi2 : Nat) (w : World) (h1 : CopyN w lo1 hi1 c1 k.cs) (h2 : CopyN w lo2 hi2 c2 k.cs) :
    Calls Try.prog 15 #[.agg #[.int .i64 k.kd, .int .i64 k.st, .int .i64 k.ea, c1], .agg #[.int .i64 k.kd, .int .i64 k.st, .int .i64 k.ea, c2]] w fun e w' => e = .returned (.bool true) ∧ Below w.heap.size w w' := by
  obtain ⟨A1, cp1, rfl, _, _⟩ := RdP_slice (CopyN_rd h1)
  obtain ⟨A2, cp2, rfl, _, _⟩ := RdP_slice (CopyN_rd h2)
  have H1 := Lib.hid h1; clear h1
  have H2 := Lib.hid h2; clear h2
  obtain ⟨kd, st, ea, zs⟩ := k
  dsimp only at *
  go_enter Try.func15, Try.ntmps15
  go_wp2_with fail
  refine (intactN_same _ _ zs _ _ _ _ _ (CopyN_kept H1.out (by go_grown)) (CopyN_kept H2.out (by go_grown))).mono ?_
  rintro e w2 ⟨rfl, hb2⟩
  have b2 := kept_trans (a := w) (by go_grown) hb2
  go_wp2
  go_ret
  exact ⟨rfl, b2⟩

theorem szZ_fit (k : Zn) (c : Value) (w : World) (hr : RdP w c k.cs) (h : (k.cs.length : Int) ≤ 1000000) :
    Calls Try.prog 11 #[.agg #[.int .i64 k.kd, .int .i64 k.st, .int .i64 k.ea, c], .int .i64 1000000] w fun e w' => e = .returned (.int .i64 (1000000 - k.cs.length)) ∧ Below w.heap.size w w' := by
  have := szZ_any k c 1000000 (by omega) w hr
  rwa [if_pos h] at this

theorem szZ_over (k : Zn) (c : Value) (w : World) (hr : RdP w c k.cs) (h : ¬ (k.cs.length : Int) ≤ 1000000) :
    Calls Try.prog 11 #[.agg #[.int .i64 k.kd, .int .i64 k.st, .int .i64 k.ea, c], .int .i64 1000000] w fun e w' => e = .returned (.int .i64 (-1)) ∧ Below w.heap.size w w' := by
  have := szZ_any k c 1000000 (by omega) w hr
  rwa [if_neg h] at this

/-- Not far from the middle: no product overflows. -/
def near0 (p : Int × Int) : Prop := (-12000 ≤ p.1 ∧ p.1 ≤ 12000) ∧ -12000 ≤ p.2 ∧ p.2 ≤ 12000

theorem near0_ok {x y : Int} (h : okP x y = true) : near0 (x, y) := by
  have := okP_true h
  unfold near0
  dsimp only
  omega

theorem cross_wrap (a b c d : Int) (h1 : -24000 ≤ a ∧ a ≤ 24000) (h2 : -24000 ≤ b ∧ b ≤ 24000) (h3 : -24000 ≤ c ∧ c ≤ 24000) (h4 : -24000 ≤ d ∧ d ≤ 24000) :
    wrap64 (wrap64 (a * b) - wrap64 (c * d)) = a * b - c * d ∧ -2000000000 ≤ a * b - c * d ∧ a * b - c * d ≤ 2000000000 := by
  have g1 := prod_bd a b 24000 h1 h2
  have g2 := prod_bd c d 24000 h3 h4
  rw [IntWalk.wrap64_in (a * b) (by omega), IntWalk.wrap64_in (c * d) (by omega), IntWalk.wrap64_in (a * b - c * d) (by omega)]
  exact ⟨rfl, by omega, by omega⟩

theorem cross_bd {o a b : Int × Int} (h1 : near0 o) (h2 : near0 a) (h3 : near0 b) : -2000000000 ≤ crossL o a b ∧ crossL o a b ≤ 2000000000 := by
  unfold near0 at h1 h2 h3
  exact (cross_wrap (a.1 - o.1) (b.2 - o.2) (a.2 - o.2) (b.1 - o.1) (by omega) (by omega) (by omega) (by omega)).2

theorem cross_any (o a b : Int × Int) (w : World) (h1 : near0 o) (h2 : near0 a) (h3 : near0 b) :
    Calls Try.prog 42 #[.agg #[.int .i64 o.1, .int .i64 o.2], .agg #[.int .i64 a.1, .int .i64 a.2], .agg #[.int .i64 b.1, .int .i64 b.2]] w fun e w' => e = .returned (.int .i64 (crossL o a b)) ∧ Below w.heap.size w w' := by
  unfold near0 at h1 h2 h3
  have g1 := (cross_wrap (a.1 - o.1) (b.2 - o.2) (a.2 - o.2) (b.1 - o.1) (by omega) (by omega) (by omega) (by omega)).1
  unfold crossL
  obtain ⟨o1, o2⟩ := o
  obtain ⟨a1, a2⟩ := a
  obtain ⟨b1, b2⟩ := b
  dsimp only at *
  have G1 := Lib.hid g1
  clear g1
  go_enter Try.func42, Try.ntmps42
  go_wp2
  go_returns
  exact ⟨by rw [G1.out]; rfl, by go_grown⟩

set_option maxHeartbeats 4000000 in
theorem side_any (o a b : Int × Int) (w : World) (h1 : near0 o) (h2 : near0 a) (h3 : near0 b) :
    Calls Try.prog 44 #[.agg #[.int .i64 o.1, .int .i64 o.2, .int .i64 a.1, .int .i64 a.2], .agg #[.int .i64 b.1, .int .i64 b.2]] w fun e w' => e = .returned (.int .i64 (crossL o a b)) ∧ Below w.heap.size w w' := by
  unfold near0 at h1 h2 h3
  have g1 := (cross_wrap (a.1 - o.1) (b.2 - o.2) (a.2 - o.2) (b.1 - o.1) (by omega) (by omega) (by omega) (by omega)).1
  unfold crossL
  obtain ⟨o1, o2⟩ := o
  obtain ⟨a1, a2⟩ := a
  obtain ⟨b1, b2⟩ := b
  dsimp only at *
  have G1 := Lib.hid g1
  clear g1
  go_enter Try.func44, Try.ntmps44
  go_wp2_with fail
  have q1 : w.heap.size + 1 + 1 ≠ w.heap.size := by omega
  have q2 : w.heap.size + 1 + 1 ≠ w.heap.size + 1 := by omega
  have q3 : w.heap.size + 1 + 1 + 1 ≠ w.heap.size := by omega
  have q4 : w.heap.size + 1 + 1 + 1 ≠ w.heap.size + 1 := by omega
  go_region_held3 (fun w' => w'.cell? ⟨w.heap.size, 0, none⟩ = some (.int .i64 o1) ∧ w'.cell? ⟨w.heap.size, 1, none⟩ = some (.int .i64 o2) ∧ w'.cell? ⟨w.heap.size, 2, none⟩ = some (.int .i64 a1) ∧ w'.cell? ⟨w.heap.size, 3, none⟩ = some (.int .i64 a2) ∧ w'.cell? ⟨w.heap.size + 1, 0, none⟩ = some (.int .i64 b1) ∧ w'.cell? ⟨w.heap.size + 1, 1, none⟩ = some (.int .i64 b2)) (go_keep) (first
    | (have hk := hfirst; go_at_call 71; refine (minus_any _ _ _ _ (by omega) (by omega) (by omega) (by omega) _).mono ?_; rintro e w2 ⟨rfl, hb2⟩; have hs2 := hb2.size; (try simp at hs2); (try (refine kept_at hb2 (w.heap.size) ?_ (fun hchb2_0 hzhb2_0 hshb2_0 => ?_); focus go_size)); (try (refine kept_at hb2 (w.heap.size + 1) ?_ (fun hchb2_1 hzhb2_1 hshb2_1 => ?_); focus go_size)); (try (refine kept_at hb2 (w.heap.size + 2) ?_ (fun hchb2_2 hzhb2_2 hshb2_2 => ?_); focus go_size)); (try (refine kept_at hb2 (w.heap.size + 3) ?_ (fun hchb2_3 hzhb2_3 hshb2_3 => ?_); focus go_size)); (try (refine kept_at hb2 (w1.heap.size) ?_ (fun hchb2_4 hzhb2_4 hshb2_4 => ?_); focus go_size)); (try (refine kept_at hb2 (w1.heap.size + 1) ?_ (fun hchb2_5 hzhb2_5 hshb2_5 => ?_); focus go_size)); have b2 := kept_trans (a := w) (by go_grown) hb2; have nw2a : w.heap.size + 1 < w2.heap.size := (by omega); have nw2b : w2.heap.size ≠ w.heap.size := Nat.ne_of_gt (Nat.lt_of_succ_lt nw2a); have nw2c : w2.heap.size ≠ w.heap.size + 1 := Nat.ne_of_gt nw2a; have nw2d : w2.heap.size + 1 ≠ w.heap.size := Nat.ne_of_gt (Nat.lt_succ_of_lt (Nat.lt_of_succ_lt nw2a)); have nw2e : w2.heap.size + 1 ≠ w.heap.size + 1 := Nat.ne_of_gt (Nat.lt_succ_of_lt nw2a))
    | (go_at_call 71; refine (minus_any _ _ _ _ (by omega) (by omega) (by omega) (by omega) _).mono ?_; rintro e w1 ⟨rfl, hb1⟩; have hs1 := hb1.size; (try simp at hs1); (try (refine kept_at hb1 (w.heap.size) ?_ (fun hchb1_0 hzhb1_0 hshb1_0 => ?_); focus go_size)); (try (refine kept_at hb1 (w.heap.size + 1) ?_ (fun hchb1_1 hzhb1_1 hshb1_1 => ?_); focus go_size)); (try (refine kept_at hb1 (w.heap.size + 2) ?_ (fun hchb1_2 hzhb1_2 hshb1_2 => ?_); focus go_size)); (try (refine kept_at hb1 (w.heap.size + 3) ?_ (fun hchb1_3 hzhb1_3 hshb1_3 => ?_); focus go_size)); have b1 := kept_trans (a := w) (by go_grown) hb1; have nw1a : w.heap.size + 1 < w1.heap.size := (by omega); have nw1b : w1.heap.size ≠ w.heap.size := Nat.ne_of_gt (Nat.lt_of_succ_lt nw1a); have nw1c : w1.heap.size ≠ w.heap.size + 1 := Nat.ne_of_gt nw1a; have nw1d : w1.heap.size + 1 ≠ w.heap.size := Nat.ne_of_gt (Nat.lt_succ_of_lt (Nat.lt_of_succ_lt nw1a)); have nw1e : w1.heap.size + 1 ≠ w.heap.size + 1 := Nat.ne_of_gt (Nat.lt_succ_of_lt nw1a); have hfirst := trivial))
  all_goals
    go_wp2
    go_ret
    exact ⟨by rw [G1.out]; rfl, by go_grown⟩

theorem nextZ_any (v : Value) (zs : List (Int × Int)) (k : Nat) (w : World) (h : RdP w v zs) (hk : k < zs.length) (hn : zs.length ≤ 1000000) :
    Calls Try.prog 72 #[v, .int .i64 (k : Int)] w fun e w' => e = .returned (.agg #[.int .i64 (ptZ zs ((k + 1) % zs.length)).1, .int .i64 (ptZ zs ((k + 1) % zs.length)).2]) ∧ Below w.heap.size w w' := by
  obtain ⟨A, c, rfl, hl, r1⟩ := RdP_slice h
  clear h
  have hm : (k + 1) % zs.length < zs.length := Nat.mod_lt _ (by omega)
  have hi : ((k : Int) + 1).tmod (zs.length : Int) = (((k + 1) % zs.length : Nat) : Int) := by rw [tmod_pos _ _ (by omega)]; simp
  rw [ptZ_at zs _ hm]
  obtain ⟨b, off, rfl, hbl, hc0, hc1⟩ := r1 _ hm
  clear r1
  generalize zs[(k + 1) % zs.length].1 = x at *
  generalize zs[(k + 1) % zs.length].2 = y at *
  generalize (k + 1) % zs.length = m at *
  have h0 : ((zs.length : Int) == 0) = false := by rw [beq_eq_false_iff_ne]; omega
  go_enter Try.func72, Try.ntmps72
  go_wp2
  go_returns
  exact ⟨rfl, by go_grown⟩

theorem leftN_step (zs : List (Int × Int)) (o a : Int × Int) (k : Nat) (h : k < zs.length) : leftN (zs.take (k + 1)) o a = leftN (zs.take k) o a + if 0 < crossL o a zs[k] then 1 else 0 := by
  unfold leftN
  rw [← List.take_append_getElem h, List.countP_append]
  simp [List.countP_cons]

theorem leftN_le (zs : List (Int × Int)) (o a : Int × Int) : leftN zs o a ≤ zs.length := List.countP_le_length

theorem leftOf_any (o a : Int × Int) (v : Value) (zs : List (Int × Int)) (w : World) (h : RdP w v zs) (ho : near0 o) (ha : near0 a) (hz : ∀ k (hk : k < zs.length), near0 zs[k]) (hn : zs.length ≤ 1000000) :
    Calls Try.prog 84 #[.agg #[.int .i64 o.1, .int .i64 o.2, .int .i64 a.1, .int .i64 a.2], v] w fun e w' => e = .returned (.int .i64 (leftN zs o a : Nat)) ∧ Below w.heap.size w w' := by
  obtain ⟨A, c, rfl, hl, r1⟩ := RdP_slice h
  clear h
  have R := Lib.hid r1; clear r1
  have HS := Lib.hid (fun k (hk : k < zs.length) u => side_any o a zs[k] u ho ha (hz k hk))
  have HST := Lib.hid (fun k (hk : k < zs.length) => leftN_step zs o a k hk)
  have HLE := Lib.hid (fun k (hk : k ≤ zs.length) => show leftN (zs.take k) o a ≤ k from Nat.le_trans (leftN_le (zs.take k) o a) (by simp; omega))
  have HEND := Lib.hid (show leftN (zs.take zs.length) o a = leftN zs o a by rw [List.take_length])
  have H0 := Lib.hid (show leftN (zs.take 0) o a = 0 by simp [leftN])
  clear hz ho ha
  generalize leftN zs o a = L at *
  generalize hF : (fun k => leftN (zs.take k) o a) = F at *
  have hf : ∀ k, leftN (zs.take k) o a = F k := fun k => by rw [← hF]
  simp only [hf] at HST HLE HEND H0
  clear hF hf
  obtain ⟨o1, o2⟩ := o
  obtain ⟨a1, a2⟩ := a
  dsimp only at *
  go_enter Try.func84, Try.ntmps84
  go_wp2_with fail
  go_loopw [5, 10] (fun q i wr => ∃ k : Nat, k ≤ zs.length ∧ i = .int .i64 k ∧ q = .int .i64 (F k : Nat) ∧ (wr.cell? ⟨w.heap.size, 0, none⟩ = some (.int .i64 o1) ∧ wr.cell? ⟨w.heap.size, 1, none⟩ = some (.int .i64 o2) ∧ wr.cell? ⟨w.heap.size, 2, none⟩ = some (.int .i64 a1) ∧ wr.cell? ⟨w.heap.size, 3, none⟩ = some (.int .i64 a2)) ∧ w.heap.size < wr.heap.size ∧ Below w.heap.size w wr) (fun _ i _ => zs.length - (intOf i).toNat)
  case atStart => exact ⟨0, by omega, rfl, by rw [H0.out]; rfl, by simp, by simp, by go_grown⟩
  case round =>
    obtain ⟨k, hk, rfl, rfl, ⟨f0, f1, f2, f3⟩, hlw, hb⟩ := hrel
    by_cases hlt : k < zs.length
    · obtain ⟨b, off, rfl, hbl, hc0, hc1⟩ := R.out k hlt
      rw [← kept_cell hb b _ hbl] at hc0 hc1
      have hst := HST.out k hlt
      have hle := HLE.out k hk
      have HSS := Lib.hid (HS.out k hlt)
      generalize crossL (o1, o2) (a1, a2) zs[k] = D at *
      generalize zs[k].1 = x at *
      generalize zs[k].2 = y at *
      generalize F k = m at *
      by_cases hd : 0 < D
      all_goals
        simp only [hd, if_true, if_false] at hst
        have HT := Lib.hid hst; clear hst
        go_wp2_with fail
        refine (HSS.out _).mono ?_
        rintro e w1 ⟨rfl, hb1⟩
        refine kept_at hb1 w.heap.size (by go_size) fun c1 z1 s1 => ?_
        have b1 := kept_trans (a := w) (by go_grown) hb1
        go_wp2
        go_roundw
        case rel => exact ⟨k + 1, by omega, by go_num, by rw [HT.out]; go_num, ⟨by rw [c1]; simp [World.cell?_alloc_past, *], by rw [c1]; simp [World.cell?_alloc_past, *], by rw [c1]; simp [World.cell?_alloc_past, *], by rw [c1]; simp [World.cell?_alloc_past, *]⟩, s1, b1⟩
        case measure => simp [intOf]; omega
    · have : k = zs.length := by omega
      subst this
      rw [HEND.out]
      go_wp2
      go_ret
      exact ⟨rfl, hb⟩

/-- The first place at which p holds; -1 if there is none. -/
def idxL {α : Type} (p : α → Bool) (zs : List α) : Int := if zs.findIdx p < zs.length then (zs.findIdx p : Int) else -1

theorem idxL_is {α : Type} {p : α → Bool} {zs : List α} {k : Nat} (h : k < zs.length) (hk : p zs[k] = true) (hb : ∀ j (hj : j < zs.length), j < k → p zs[j] = false) : idxL p zs = (k : Int) := by
  unfold idxL
  have e : zs.findIdx p = k := by
    rw [List.findIdx_eq h]
    exact ⟨hk, fun j hj => hb j (by omega) hj⟩
  rw [e, if_pos h]

theorem idxL_none {α : Type} {p : α → Bool} {zs : List α} (hb : ∀ j (hj : j < zs.length), p zs[j] = false) : idxL p zs = -1 := by
  unfold idxL
  have e : zs.findIdx p = zs.length := by
    rw [List.findIdx_eq_length]
    intro x hx
    obtain ⟨i, hi, rfl⟩ := List.mem_iff_getElem.1 hx
    exact hb i hi
  rw [e, if_neg (by omega)]

theorem idxL_any {α : Type} (p : α → Bool) (zs : List α) : decide (0 ≤ idxL p zs) = zs.any p := by
  unfold idxL
  by_cases h : zs.findIdx p < zs.length
  · rw [if_pos h]
    have := List.findIdx_lt_length.1 h
    simp
    obtain ⟨x, hx, hp⟩ := this
    exact ⟨x, hx, hp⟩
  · rw [if_neg h]
    have : ¬ ∃ x ∈ zs, p x = true := fun hx => h (List.findIdx_lt_length.2 hx)
    simp at this ⊢
    exact this

theorem idxL_bd {α : Type} (p : α → Bool) (zs : List α) : -1 ≤ idxL p zs ∧ idxL p zs ≤ zs.length := by
  unfold idxL
  split <;> omega

set_option maxRecDepth 100000 in
theorem indexFuncP_any (v : Value) (zs : List (Int × Int)) (g : FuncId) (he : Enters Try.prog g) (cap : Array Value) (p : Int × Int → Bool) (w : World) (h : RdP w v zs)
    (hf : ∀ k (hk : k < zs.length) w1, Below w.heap.size w w1 → Calls Try.prog g (#[.agg #[.int .i64 zs[k].1, .int .i64 zs[k].2]] ++ cap) w1 fun e w2 => e = .returned (.bool (p zs[k])) ∧ Below w1.heap.size w1 w2) :
    Calls Try.prog 87 #[v, .func (.func g) #[] cap] w fun e w' => e = .returned (.int .i64 (idxL p zs)) ∧ Below w.heap.size w w' := by
  obtain ⟨A, c, rfl, hl, r1⟩ := RdP_slice h
  clear h
  have R := Lib.hid r1; clear r1
  have Hf := Lib.hid hf; clear hf
  have HIS := Lib.hid (fun k (h : k < zs.length) => @idxL_is _ p zs k h)
  have HNO := Lib.hid (@idxL_none _ p zs)
  generalize idxL p zs = G at *
  go_enter Try.func87, Try.ntmps87
  go_wp2_with fail
  go_loopw [8] (fun i wr => ∃ k : Nat, k ≤ zs.length ∧ i = .int .i64 k ∧ (∀ j (hj : j < zs.length), j < k → p zs[j] = false) ∧ Below w.heap.size w wr) (fun i _ => zs.length - (intOf i).toNat)
  case atStart => exact ⟨0, by omega, rfl, fun j _ h => by omega, Below.refl _ _⟩
  case round =>
    obtain ⟨k, hk, rfl, hall, hb⟩ := hrel
    by_cases hlt : k < zs.length
    · obtain ⟨b, off, rfl, hbl, hc0, hc1⟩ := R.out k hlt
      rw [← kept_cell hb b _ hbl] at hc0 hc1
      have hc := Hf.out k hlt wr hb
      cases hp : p zs[k]
      · have hnx : ∀ j (hj : j < zs.length), j < k + 1 → p zs[j] = false := fun j hj hjk => by
          rcases Nat.lt_or_ge j k with h1 | h1
          · exact hall j hj h1
          · obtain rfl : j = k := by omega
            exact hp
        rw [hp] at hc
        have HNX := Lib.hid hnx; clear hnx hall hp
        have Hc := Lib.hid hc; clear hc
        generalize zs[k].1 = x at *
        generalize zs[k].2 = y at *
        go_wp2_with fail
        rw [he, Oper.upon_enter]
        refine Hc.out.mono ?_
        rintro e w1 ⟨rfl, hb1⟩
        go_wp2
        go_roundw
        case rel => exact ⟨k + 1, by omega, by go_num, HNX.out, kept_trans hb hb1⟩
        case measure => simp [intOf]; omega
      · have hE := HIS.out k hlt hp hall
        subst hE
        rw [hp] at hc
        have Hc := Lib.hid hc; clear hc hall hp
        generalize zs[k].1 = x at *
        generalize zs[k].2 = y at *
        go_wp2_with fail
        rw [he, Oper.upon_enter]
        refine Hc.out.mono ?_
        rintro e w1 ⟨rfl, hb1⟩
        go_wp2
        go_ret
        exact ⟨rfl, kept_trans hb hb1⟩
    · have : k = zs.length := by omega
      subst this
      have hE := HNO.out (fun j hj => hall j hj hj)
      clear hall
      subst hE
      go_wp2
      go_ret
      exact ⟨rfl, hb⟩

theorem containsFuncP_any (v : Value) (zs : List (Int × Int)) (g : FuncId) (he : Enters Try.prog g) (cap : Array Value) (p : Int × Int → Bool) (w : World) (h : RdP w v zs)
    (hf : ∀ k (hk : k < zs.length) w1, Below w.heap.size w w1 → Calls Try.prog g (#[.agg #[.int .i64 zs[k].1, .int .i64 zs[k].2]] ++ cap) w1 fun e w2 => e = .returned (.bool (p zs[k])) ∧ Below w1.heap.size w1 w2) :
    Calls Try.prog 80 #[v, .func (.func g) #[] cap] w fun e w' => e = .returned (.bool (zs.any p)) ∧ Below w.heap.size w w' := by
  have H := Lib.hid (indexFuncP_any v zs g he cap p w h hf)
  obtain ⟨A, c, rfl, hl, r1⟩ := RdP_slice h
  clear h hf r1
  have hbd := idxL_bd p zs
  rw [← idxL_any]
  generalize idxL p zs = G at *
  go_enter Try.func80, Try.ntmps80
  go_wp2_with fail
  refine H.out.mono ?_
  rintro e w1 ⟨rfl, hb1⟩
  go_wp2
  go_ret
  exact ⟨rfl, hb1⟩

/-- A line, cell by cell. -/
def encL (z : (Int × Int) × (Int × Int)) : List Value := [.int .i64 z.1.1, .int .i64 z.1.2, .int .i64 z.2.1, .int .i64 z.2.2]

def flatL (zs : List ((Int × Int) × (Int × Int))) : List Value := zs.flatMap encL

theorem flatL_len (zs : List ((Int × Int) × (Int × Int))) : (flatL zs).length = zs.length * 4 := flat_len (enc := encL) (fun _ => rfl) zs

theorem flatL_at (zs : List ((Int × Int) × (Int × Int))) (k j : Nat) (h : k < zs.length) (hj : j < 4) : (flatL zs)[k * 4 + j]? = (encL zs[k])[j]? := flat_at (enc := encL) (sz := 4) (fun _ => rfl) zs k j h hj

/-- The slice value reads as a list of lines. -/
def RdL (w : World) (v : Value) (zs : List ((Int × Int) × (Int × Int))) : Prop := RdF w v zs.length 4 (flatL zs)

theorem RdL_slice {w : World} {v : Value} {zs : List ((Int × Int) × (Int × Int))} (h : RdL w v zs) : ∃ A c, v = .slice A zs.length c ∧ zs.length ≤ 9223372036854775807 ∧
    ∀ k, (hk : k < zs.length) → ∃ b off, A = some ⟨b, off, none⟩ ∧ b < w.heap.size ∧ w.cell? ⟨b, off + k * 4, none⟩ = some (.int .i64 zs[k].1.1) ∧ w.cell? ⟨b, off + k * 4 + 1, none⟩ = some (.int .i64 zs[k].1.2) ∧ w.cell? ⟨b, off + k * 4 + 2, none⟩ = some (.int .i64 zs[k].2.1) ∧ w.cell? ⟨b, off + k * 4 + 3, none⟩ = some (.int .i64 zs[k].2.2) := by
  obtain ⟨hl, hx, A, c, rfl, hr⟩ := h
  refine ⟨A, c, rfl, hl, fun k hk => ?_⟩
  obtain ⟨b, off, rfl, hlt, h0⟩ := hr (k * 4) (by omega)
  have at_ : ∀ j, j < 4 → w.cell? ⟨b, off + (k * 4 + j), none⟩ = (encL zs[k])[j]? := by
    intro j hj
    obtain ⟨b', off', e, _, h1⟩ := hr (k * 4 + j) (by omega)
    simp only [Option.some.injEq, Addr.mk.injEq, and_true] at e
    obtain ⟨rfl, rfl⟩ := e
    rw [h1, flatL_at zs k j hk hj]
  exact ⟨b, off, rfl, hlt, at_ 0 (by omega), at_ 1 (by omega), at_ 2 (by omega), at_ 3 (by omega)⟩

theorem info_line : (Try.prog.info? 64).map (fun i => (i.zero, i.size, i.bytes)) = some (some (.agg #[.int .i64 0, .int .i64 0, .int .i64 0, .int .i64 0]), 4, 32) := by kernel_rfl

theorem make_lines (n : Nat) (h : n ≤ 4000000) (w : World) :
    (Instr.makeSlice 61 (.int .i64 (n : Int)) (.int .i64 (n : Int))).run Try.prog w = .ok (.slice (some ⟨w.heap.size, 0, none⟩) n n) (w.alloc (.cells (madeCells #[.int .i64 0, .int .i64 0, .int .i64 0, .int .i64 0] (n * 4)) 64)) := by
  obtain ⟨i, hi, hz, hs, hb⟩ := info_parts info_line
  have hb' : (i.bytes : Int) * (n : Int) ≤ 281474976710656 := by rw [hb]; omega
  have hr := run_make (P := Try.prog) w 61 64 i (.agg #[.int .i64 0, .int .i64 0, .int .i64 0, .int .i64 0]) Try.underlying61 hi hz .i64 .i64 n n (by omega) (Int.le_refl _) hb' (by omega)
  simp only [Int.toNat_natCast, hs] at hr
  exact hr

def zeroL : (Int × Int) × (Int × Int) := ((0, 0), (0, 0))

theorem madeL_flat (n : Nat) : (madeCells #[.int .i64 0, .int .i64 0, .int .i64 0, .int .i64 0] (n * 4)).toList = flatL (List.replicate n zeroL) := by
  apply List.ext_getElem?
  intro j
  by_cases hj : j < n * 4
  · have h := flatL_at (List.replicate n zeroL) (j / 4) (j % 4) (by simp; omega) (by omega)
    rw [show j / 4 * 4 + j % 4 = j by omega, List.getElem_replicate] at h
    rw [h]
    have hm := Nat.mod_lt j (show 0 < 4 by omega)
    rcases (show j % 4 = 0 ∨ j % 4 = 1 ∨ j % 4 = 2 ∨ j % 4 = 3 by omega) with hp | hp | hp | hp <;> simp [madeCells, hj, hp, encL, zeroL]
  · rw [List.getElem?_eq_none (by rw [Array.length_toList, size_madeCells]; omega), List.getElem?_eq_none (by rw [flatL_len]; simp; omega)]

theorem flatL_set (L : List ((Int × Int) × (Int × Int))) (j : Nat) (p : (Int × Int) × (Int × Int)) :
    (((((flatL L).set (j * 4) (.int .i64 p.1.1)).set (j * 4 + 1) (.int .i64 p.1.2)).set (j * 4 + 2) (.int .i64 p.2.1)).set (j * 4 + 3) (.int .i64 p.2.2)) = flatL (L.set j p) := by
  induction L generalizing j with
  | nil => simp [flatL]
  | cons z L ih =>
    cases j with
    | zero => simp [flatL, encL]
    | succ j =>
      have := ih j
      simp only [flatL, encL, List.flatMap_cons, List.cons_append, List.nil_append, Nat.succ_mul, List.set_cons_succ] at this ⊢
      rw [← this]

/-- A line is stored in a row, cell by cell. -/
def setL4 (w : World) (g o : Nat) (p : (Int × Int) × (Int × Int)) : World :=
  ((((w.setCell ⟨g, o, none⟩ (.int .i64 p.1.1)).setCell ⟨g, o + 1, none⟩ (.int .i64 p.1.2)).setCell ⟨g, o + 2, none⟩ (.int .i64 p.2.1)).setCell ⟨g, o + 3, none⟩ (.int .i64 p.2.2))

theorem row_setL4 {w : World} {base g n cap : Nat} {L : List ((Int × Int) × (Int × Int))} (h : w.ownsRow base 64 4 (.slice (some ⟨g, 0, none⟩) n cap) n (flatL L)) (j : Nat) (p : (Int × Int) × (Int × Int)) :
    (setL4 w g (j * 4) p).ownsRow base 64 4 (.slice (some ⟨g, 0, none⟩) n cap) n (flatL (L.set j p)) ∧ w.grownBy (setL4 w g (j * 4) p) (some g) := by
  have h0 := h.stored (j * 4) (.int .i64 p.1.1)
  have h1 := h0.1.stored (j * 4 + 1) (.int .i64 p.1.2)
  have h2 := h1.1.stored (j * 4 + 2) (.int .i64 p.2.1)
  have h3 := h2.1.stored (j * 4 + 3) (.int .i64 p.2.2)
  rw [flatL_set] at h3
  exact ⟨h3.1, grown_step h0.2 (grown_step h1.2 (grown_step h2.2 h3.2))⟩

theorem row_cellsL {w : World} {base g n cap : Nat} {L : List ((Int × Int) × (Int × Int))} (h : w.ownsRow base 64 4 (.slice (some ⟨g, 0, none⟩) n cap) n (flatL L)) (j : Nat) (hj : j < n) :
    ∃ u0 u1 u2 u3, w.cell? ⟨g, j * 4, none⟩ = some u0 ∧ w.cell? ⟨g, j * 4 + 1, none⟩ = some u1 ∧ w.cell? ⟨g, j * 4 + 2, none⟩ = some u2 ∧ w.cell? ⟨g, j * 4 + 3, none⟩ = some u3 := by
  have hl : (flatL L).length = n * 4 := h.1
  have at_ : ∀ o, o < n * 4 → ∃ u, w.cell? ⟨g, o, none⟩ = some u := fun o ho => ⟨_, by rw [h.cellAt o ho]; exact List.getElem?_eq_getElem (by omega)⟩
  obtain ⟨u0, h0⟩ := at_ (j * 4) (by omega)
  obtain ⟨u1, h1⟩ := at_ (j * 4 + 1) (by omega)
  obtain ⟨u2, h2⟩ := at_ (j * 4 + 2) (by omega)
  obtain ⟨u3, h3⟩ := at_ (j * 4 + 3) (by omega)
  exact ⟨u0, u1, u2, u3, h0, h1, h2, h3⟩

set_option maxRecDepth 100000 in
set_option maxHeartbeats 4000000 in
theorem sidesOf_any (v : Value) (zs : List (Int × Int)) (w : World) (h : RdP w v zs) (hn : zs.length ≤ 1000000) :
    Calls Try.prog 43 #[v] w fun e w' => ∃ v', e = .returned v' ∧ RowF 64 4 w' w.heap.size w'.heap.size v' (sidesL zs).length (flatL (sidesL zs)) ∧ Below w.heap.size w w' := by
  obtain ⟨A, c, rfl, hl, r1⟩ := RdP_slice h
  clear h
  have R := Lib.hid r1; clear r1
  have hSl := sidesL_len zs
  have hmk := make_lines zs.length (by omega)
  have hcap : zs.length ≤ maxLen := by unfold maxLen; omega
  have hrow0 : (w.alloc (.cells (madeCells #[.int .i64 0, .int .i64 0, .int .i64 0, .int .i64 0] (zs.length * 4)) 64)).ownsRow w.heap.size 64 4 (.slice (some ⟨w.heap.size, 0, none⟩) zs.length zs.length) zs.length (flatL ((sidesL zs).take 0 ++ List.replicate (zs.length - 0) zeroL)) := by
    have := World.ownsRow_lit w (e := 64) (size := 4) (madeCells #[.int .i64 0, .int .i64 0, .int .i64 0, .int .i64 0] (zs.length * 4)) zs.length (Nat.le_refl w.heap.size) hcap (size_madeCells _ _)
    rw [madeL_flat] at this
    simpa using this
  have Hrow := Lib.hid hrow0; clear hrow0
  have hat : ∀ k (hk : k < (sidesL zs).length) (hk2 : k < zs.length), (sidesL zs)[k] = (zs[k], ptZ zs ((k + 1) % zs.length)) := fun k hk hk2 => by rw [sidesL_at, ptZ_at zs k hk2]
  have HAT := Lib.hid hat; clear hat
  have HFS := Lib.hid (fun k (hk : k < (sidesL zs).length) => fill_step (sidesL zs) zeroL k hk)
  generalize sidesL zs = T at *
  rw [hSl]
  have HSL := Lib.hid hSl; clear hSl
  go_enter Try.func43, Try.ntmps43
  go_wp2_with fail
  go_loopw [11] (fun i wr => ∃ k : Nat, k ≤ zs.length ∧ i = .int .i64 k ∧ wr.ownsRow w.heap.size 64 4 (.slice (some ⟨w.heap.size, 0, none⟩) zs.length zs.length) zs.length (flatL (T.take k ++ List.replicate (zs.length - k) zeroL)) ∧ Below w.heap.size w wr) (fun i _ => zs.length - (intOf i).toNat)
  case atStart => exact ⟨0, by omega, rfl, Hrow.out, by go_grown⟩
  case round =>
    obtain ⟨k, hk, rfl, hown, hb⟩ := hrel
    have hsz := hb.size
    by_cases hlt : k < zs.length
    · have hTk := HAT.out k (by rw [HSL.out]; exact hlt) hlt
      have hfs := HFS.out k (by rw [HSL.out]; exact hlt)
      rw [hTk] at hfs
      have hm : (k + 1) % zs.length < zs.length := Nat.mod_lt _ (by omega)
      have hi : ((k : Int) + 1).tmod (zs.length : Int) = (((k + 1) % zs.length : Nat) : Int) := by rw [tmod_pos _ _ (by omega)]; simp
      have h0 : ((zs.length : Int) == 0) = false := by rw [beq_eq_false_iff_ne]; omega
      rw [ptZ_at zs _ hm] at hfs
      obtain ⟨b, off, rfl, hbl, hc0, hc1⟩ := R.out k hlt
      obtain ⟨b', off', e', _, hd0, hd1⟩ := R.out _ hm
      cases e'
      rw [← kept_cell hb b _ hbl] at hc0 hc1 hd0 hd1
      have hbl' := Nat.lt_of_lt_of_le hbl hsz
      generalize hx : zs[k] = x at *
      generalize hy : zs[(k + 1) % zs.length] = y at *
      generalize (k + 1) % zs.length = m at *
      have hst := row_setL4 (hown.alloc (.cells #[.int .i64 x.1, .int .i64 x.2] 38)) k (x, y)
      rw [HSL.out] at hfs
      rw [hfs] at hst
      unfold setL4 at hst
      dsimp only at hst
      obtain ⟨u0, u1, u2, u3, g0, g1, g2, g3⟩ := row_cellsL hown k hlt
      have z0 := hown.frozenAt (k * 4)
      have z1 := hown.frozenAt (k * 4 + 1)
      have z2 := hown.frozenAt (k * 4 + 2)
      have z3 := hown.frozenAt (k * 4 + 3)
      have HST := Lib.hid hst; clear hst hown hfs hTk hx hy
      obtain ⟨x1, x2⟩ := x
      obtain ⟨y1, y2⟩ := y
      dsimp only at *
      have hgl : w.heap.size < wr.heap.size := World.block_lt_of_cell? _ _ g0
      have h0a : ¬ (zs.length : Int) = 0 := by omega
      have hmI : (m : Int) < (zs.length : Int) := by omega
      have hkI : (k : Int) < (zs.length : Int) := by omega
      have hmJ : (0 : Int) ≤ (m : Int) := by omega
      have hkJ : (0 : Int) ≤ (k : Int) := by omega
      have hmN : ((m : Int)).toNat = m := by omega
      have hwk : IntKind.i64.wrap ((k : Int) + 1) = (k : Int) + 1 := IntWalk.i64_in _ (by omega)
      have hT1 : ((k : Int) + 1).tmod (zs.length : Int) < (zs.length : Int) := by rw [hi]; omega
      have hT2 : (0 : Int) ≤ ((k : Int) + 1).tmod (zs.length : Int) := by rw [hi]; omega
      have hT3 : (((k : Int) + 1).tmod (zs.length : Int)).toNat = m := by rw [hi]; omega
      have h0b : ¬ zs.length = 0 := by omega
      have h0c : (zs.length == 0) = false := by rw [beq_eq_false_iff_ne]; omega
      have h0d : zs ≠ [] := by intro h; subst h; simp at hlt
      go_wp2_with fail
      have e0 : (wr.alloc (.cells #[.int .i64 x1, .int .i64 x2] 38)).cell? ⟨wr.heap.size, 0, none⟩ = some (.int .i64 x1) := by simp
      have e1 : (wr.alloc (.cells #[.int .i64 x1, .int .i64 x2] 38)).cell? ⟨wr.heap.size, 1, none⟩ = some (.int .i64 x2) := by simp
      have e2 : (wr.alloc (.cells #[.int .i64 x1, .int .i64 x2] 38)).cell? ⟨b, off + m * 2, none⟩ = some (.int .i64 y1) := by rw [World.cell?_alloc_past _ _ _ hbl']; exact hd0
      have e3 : (wr.alloc (.cells #[.int .i64 x1, .int .i64 x2] 38)).cell? ⟨b, off + m * 2 + 1, none⟩ = some (.int .i64 y2) := by rw [World.cell?_alloc_past _ _ _ hbl']; exact hd1
      have e4 : (wr.alloc (.cells #[.int .i64 x1, .int .i64 x2] 38)).cell? ⟨w.heap.size, k * 4, none⟩ = some u0 := by rw [World.cell?_alloc_past _ _ _ hgl]; exact g0
      have e5 : (wr.alloc (.cells #[.int .i64 x1, .int .i64 x2] 38)).cell? ⟨w.heap.size, k * 4 + 1, none⟩ = some u1 := by rw [World.cell?_alloc_past _ _ _ hgl]; exact g1
      have e6 : (wr.alloc (.cells #[.int .i64 x1, .int .i64 x2] 38)).cell? ⟨w.heap.size, k * 4 + 2, none⟩ = some u2 := by rw [World.cell?_alloc_past _ _ _ hgl]; exact g2
      have e7 : (wr.alloc (.cells #[.int .i64 x1, .int .i64 x2] 38)).cell? ⟨w.heap.size, k * 4 + 3, none⟩ = some u3 := by rw [World.cell?_alloc_past _ _ _ hgl]; exact g3
      have y0' : (wr.alloc (.cells #[.int .i64 x1, .int .i64 x2] 38)).frozen? ⟨w.heap.size, k * 4, none⟩ = false := by rw [World.frozen?_alloc_past _ _ _ hgl]; exact z0
      have y1' : (wr.alloc (.cells #[.int .i64 x1, .int .i64 x2] 38)).frozen? ⟨w.heap.size, k * 4 + 1, none⟩ = false := by rw [World.frozen?_alloc_past _ _ _ hgl]; exact z1
      have y2' : (wr.alloc (.cells #[.int .i64 x1, .int .i64 x2] 38)).frozen? ⟨w.heap.size, k * 4 + 2, none⟩ = false := by rw [World.frozen?_alloc_past _ _ _ hgl]; exact z2
      have y3' : (wr.alloc (.cells #[.int .i64 x1, .int .i64 x2] 38)).frozen? ⟨w.heap.size, k * 4 + 3, none⟩ = false := by rw [World.frozen?_alloc_past _ _ _ hgl]; exact z3
      have hba : Below w.heap.size w (wr.alloc (.cells #[.int .i64 x1, .int .i64 x2] 38)) := by go_grown
      clear g0 g1 g2 g3 z0 z1 z2 z3 hd0 hd1 hc0 hc1
      generalize wr.alloc (.cells #[.int .i64 x1, .int .i64 x2] 38) = wa at *
      go_still_tail 13, (by kernel_rfl)
      go_wp2
      go_roundw
      case rel => exact ⟨k + 1, by omega, by go_num, HST.out.1.drew, below_drew (grown_below hba HST.out.2 (fun g hg => by simp at hg; omega))⟩
      case measure => simp [intOf]; omega
    · have : k = zs.length := by omega
      subst this
      have hT : T.take zs.length ++ List.replicate (zs.length - zs.length) zeroL = T := by rw [List.take_of_length_le (by rw [HSL.out]; exact Nat.le_refl _)]; simp
      rw [hT] at hown
      have Hown := Lib.hid hown; clear hown
      go_wp2
      go_ret
      exact ⟨_, rfl, ⟨Hown.out, fun g hg => by simp [Value.ownBlock] at hg; subst hg; exact ⟨Nat.le_refl _, (Hown.out.lt _ rfl).2⟩⟩, hb⟩

set_option maxRecDepth 100000 in
theorem indexFuncL_any (v : Value) (zs : List ((Int × Int) × (Int × Int))) (g : FuncId) (he : Enters Try.prog g) (cap : Array Value) (p : (Int × Int) × (Int × Int) → Bool) (w : World) (h : RdL w v zs)
    (hf : ∀ k (hk : k < zs.length) w1, Below w.heap.size w w1 → Calls Try.prog g (#[.agg #[.int .i64 zs[k].1.1, .int .i64 zs[k].1.2, .int .i64 zs[k].2.1, .int .i64 zs[k].2.2]] ++ cap) w1 fun e w2 => e = .returned (.bool (p zs[k])) ∧ Below w1.heap.size w1 w2) :
    Calls Try.prog 88 #[v, .func (.func g) #[] cap] w fun e w' => e = .returned (.int .i64 (idxL p zs)) ∧ Below w.heap.size w w' := by
  obtain ⟨A, c, rfl, hl, r1⟩ := RdL_slice h
  clear h
  have R := Lib.hid r1; clear r1
  have Hf := Lib.hid hf; clear hf
  have HIS := Lib.hid (fun k (h : k < zs.length) => @idxL_is _ p zs k h)
  have HNO := Lib.hid (@idxL_none _ p zs)
  generalize idxL p zs = G at *
  go_enter Try.func88, Try.ntmps88
  go_wp2_with fail
  go_loopw [8] (fun i wr => ∃ k : Nat, k ≤ zs.length ∧ i = .int .i64 k ∧ (∀ j (hj : j < zs.length), j < k → p zs[j] = false) ∧ Below w.heap.size w wr) (fun i _ => zs.length - (intOf i).toNat)
  case atStart => exact ⟨0, by omega, rfl, fun j _ h => by omega, Below.refl _ _⟩
  case round =>
    obtain ⟨k, hk, rfl, hall, hb⟩ := hrel
    by_cases hlt : k < zs.length
    · obtain ⟨b, off, rfl, hbl, hc0, hc1, hc2, hc3⟩ := R.out k hlt
      rw [← kept_cell hb b _ hbl] at hc0 hc1 hc2 hc3
      have hc := Hf.out k hlt wr hb
      cases hp : p zs[k]
      · have hnx : ∀ j (hj : j < zs.length), j < k + 1 → p zs[j] = false := fun j hj hjk => by
          rcases Nat.lt_or_ge j k with h1 | h1
          · exact hall j hj h1
          · obtain rfl : j = k := by omega
            exact hp
        rw [hp] at hc
        have HNX := Lib.hid hnx; clear hnx hall hp
        have Hc := Lib.hid hc; clear hc
        generalize zs[k].1.1 = x at *
        generalize zs[k].1.2 = x2 at *
        generalize zs[k].2.1 = y at *
        generalize zs[k].2.2 = y2 at *
        go_wp2_with fail
        rw [he, Oper.upon_enter]
        refine Hc.out.mono ?_
        rintro e w1 ⟨rfl, hb1⟩
        go_wp2
        go_roundw
        case rel => exact ⟨k + 1, by omega, by go_num, HNX.out, kept_trans hb hb1⟩
        case measure => simp [intOf]; omega
      · have hE := HIS.out k hlt hp hall
        subst hE
        rw [hp] at hc
        have Hc := Lib.hid hc; clear hc hall hp
        generalize zs[k].1.1 = x at *
        generalize zs[k].1.2 = x2 at *
        generalize zs[k].2.1 = y at *
        generalize zs[k].2.2 = y2 at *
        go_wp2_with fail
        rw [he, Oper.upon_enter]
        refine Hc.out.mono ?_
        rintro e w1 ⟨rfl, hb1⟩
        go_wp2
        go_ret
        exact ⟨rfl, kept_trans hb hb1⟩
    · have : k = zs.length := by omega
      subst this
      have hE := HNO.out (fun j hj => hall j hj hj)
      clear hall
      subst hE
      go_wp2
      go_ret
      exact ⟨rfl, hb⟩

theorem containsFuncL_any (v : Value) (zs : List ((Int × Int) × (Int × Int))) (g : FuncId) (he : Enters Try.prog g) (cap : Array Value) (p : (Int × Int) × (Int × Int) → Bool) (w : World) (h : RdL w v zs)
    (hf : ∀ k (hk : k < zs.length) w1, Below w.heap.size w w1 → Calls Try.prog g (#[.agg #[.int .i64 zs[k].1.1, .int .i64 zs[k].1.2, .int .i64 zs[k].2.1, .int .i64 zs[k].2.2]] ++ cap) w1 fun e w2 => e = .returned (.bool (p zs[k])) ∧ Below w1.heap.size w1 w2) :
    Calls Try.prog 82 #[v, .func (.func g) #[] cap] w fun e w' => e = .returned (.bool (zs.any p)) ∧ Below w.heap.size w w' := by
  have H := Lib.hid (indexFuncL_any v zs g he cap p w h hf)
  obtain ⟨A, c, rfl, hl, r1⟩ := RdL_slice h
  clear h hf r1
  have hbd := idxL_bd p zs
  rw [← idxL_any]
  generalize idxL p zs = G at *
  go_enter Try.func82, Try.ntmps82
  go_wp2_with fail
  refine H.out.mono ?_
  rintro e w1 ⟨rfl, hb1⟩
  go_wp2
  go_ret
  exact ⟨rfl, hb1⟩

theorem badPlace_any (p : Int × Int) (w : World) :
    Calls Try.prog 81 #[.agg #[.int .i64 p.1, .int .i64 p.2]] w fun e w' => e = .returned (.bool (!okP p.1 p.2)) ∧ Below w.heap.size w w' := by
  obtain ⟨x, y⟩ := p
  dsimp only
  go_enter Try.func81, Try.ntmps81
  go_wp2_with (go_at_call 47; refine (validPlace_any _ _ _).mono ?_; rintro e w1 ⟨rfl, hb⟩; have hs := hb.size; (try simp at hs); (try (refine kept_at hb (w.heap.size) ?_ (fun hc0 hz0 hs0 => ?_); focus go_size)); (try (refine kept_at hb (w.heap.size + 1) ?_ (fun hc1 hz1 hs1 => ?_); focus go_size)); (try (refine kept_at hb (w.heap.size + 2) ?_ (fun hc2 hz2 hs2 => ?_); focus go_size)); (try (refine kept_at hb (w.heap.size + 3) ?_ (fun hc3 hz3 hs3 => ?_); focus go_size)); (try (refine kept_at hb (w.heap.size + 4) ?_ (fun hc4 hz4 hs4 => ?_); focus go_size)); (try (refine kept_at hb (w.heap.size + 5) ?_ (fun hc5 hz5 hs5 => ?_); focus go_size)); replace hb := kept_trans (a := w) (by go_grown) hb; have hcl := kept_cell hb; have hzl := kept_frozen hb)
  go_ret
  exact ⟨by simp, by go_grown⟩

set_option maxHeartbeats 1000000 in
theorem badSide_any (s : (Int × Int) × (Int × Int)) (v : Value) (zs : List (Int × Int)) (b0 : Nat) (w : World) (h : RdP w v zs) (hb0 : b0 < w.heap.size) (hv : w.cell? ⟨b0, 0, none⟩ = some v) (h1 : near0 s.1) (h2 : near0 s.2) (hz : ∀ k (hk : k < zs.length), near0 zs[k]) (hn : zs.length ≤ 1000000) :
    Calls Try.prog 83 #[.agg #[.int .i64 s.1.1, .int .i64 s.1.2, .int .i64 s.2.1, .int .i64 s.2.2], .pointer (some ⟨b0, 0, none⟩)] w fun e w' => e = .returned (.bool (decide ((leftN zs s.1 s.2 : Int) ≠ (zs.length : Int) - 2))) ∧ Below w.heap.size w w' := by
  have HL := Lib.hid (fun u (q : RdP u v zs) => leftOf_any s.1 s.2 v zs u q h1 h2 hz hn)
  obtain ⟨A, c, rfl, hl, _⟩ := RdP_slice h
  have H := Lib.hid h; clear h
  have hle := leftN_le zs s.1 s.2
  generalize leftN zs s.1 s.2 = L at *
  obtain ⟨⟨o1, o2⟩, a1, a2⟩ := s
  dsimp only at *
  have hne : ¬ b0 = w.heap.size := by omega
  have hwz : IntKind.i64.wrap ((zs.length : Int) - 2) = (zs.length : Int) - 2 := IntWalk.i64_in _ (by omega)
  go_enter Try.func83, Try.ntmps83
  go_wp2_with fail
  go_region_held3 (fun w' => w'.cell? ⟨w.heap.size, 0, none⟩ = some (.int .i64 o1) ∧ w'.cell? ⟨w.heap.size, 1, none⟩ = some (.int .i64 o2) ∧ w'.cell? ⟨w.heap.size, 2, none⟩ = some (.int .i64 a1) ∧ w'.cell? ⟨w.heap.size, 3, none⟩ = some (.int .i64 a2) ∧ w'.cell? ⟨b0, 0, none⟩ = some (.slice A zs.length c)) (go_keep)
    ((go_at_call 84; refine (HL.out _ (RdP_kept H.out (by go_grown))).mono ?_; rintro e w1 ⟨rfl, hb1⟩; refine kept_at hb1 w.heap.size (by go_size) fun c1 z1 s1 => ?_; refine kept_at hb1 b0 (by go_size) fun c2 z2 s2 => ?_; have b1 := kept_trans (a := w) (by go_grown) hb1))
  go_wp2
  go_ret
  exact ⟨by simp [hwz]; rfl, by assumption⟩

/-- The corners are those of a zone. -/
def CornP (zs : List (Int × Int)) : Prop := (3 ≤ zs.length ∧ zs.length ≤ 12) ∧ (∀ k (hk : k < zs.length), okP zs[k].1 zs[k].2 = true) ∧ turnsP zs

open Classical in
noncomputable def cornB (zs : List (Int × Int)) : Bool := decide (CornP zs)

theorem cornB_true {zs : List (Int × Int)} (h : CornP zs) : cornB zs = true := by simp [cornB, h]

theorem cornB_false {zs : List (Int × Int)} (h : ¬ CornP zs) : cornB zs = false := by simp [cornB, h]

theorem cornB_iff {zs : List (Int × Int)} : cornB zs = true ↔ CornP zs := by simp [cornB]

theorem any_bad {α : Type} {zs : List α} {p : α → Bool} : (zs.any fun z => !p z) = false ↔ ∀ k (hk : k < zs.length), p zs[k] = true := by
  rw [List.any_eq_false]
  constructor
  · intro h k hk
    have := h zs[k] (List.getElem_mem hk)
    simpa using this
  · intro h z hz
    obtain ⟨k, hk, rfl⟩ := List.mem_iff_getElem.1 hz
    simp [h k hk]

theorem near_pt {zs : List (Int × Int)} (h : ∀ k (hk : k < zs.length), near0 zs[k]) (k : Nat) : near0 (ptZ zs k) := by
  by_cases hk : k < zs.length
  · rw [ptZ_at zs k hk]; exact h k hk
  · unfold ptZ near0
    rw [List.getD_eq_getElem?_getD, List.getElem?_eq_none (by omega)]
    simp

theorem corners_end {zs : List (Int × Int)} (h3 : 3 ≤ zs.length ∧ zs.length ≤ 12) (hok : ∀ k (hk : k < zs.length), okP zs[k].1 zs[k].2 = true) :
    (!((sidesL zs).any fun s => decide ((leftN zs s.1 s.2 : Int) ≠ (zs.length : Int) - 2))) = cornB zs := by
  have e : ∀ s : (Int × Int) × (Int × Int), decide ((leftN zs s.1 s.2 : Int) ≠ (zs.length : Int) - 2) = !decide (leftN zs s.1 s.2 = zs.length - 2) := by
    intro s
    have := leftN_le zs s.1 s.2
    by_cases h : leftN zs s.1 s.2 = zs.length - 2
    · simp [h]; omega
    · simp [h]; omega
  simp only [e]
  by_cases ht : turnsP zs
  · rw [cornB_true ⟨h3, hok, ht⟩]
    have : ((sidesL zs).any fun s => !decide (leftN zs s.1 s.2 = zs.length - 2)) = false := by
      rw [any_bad]
      intro k hk
      have := (turns_sides h3.1).1 ht _ (List.getElem_mem hk)
      simpa using this
    rw [this]
    rfl
  · rw [cornB_false (fun h => ht h.2.2)]
    have : ¬ ((sidesL zs).any fun s => !decide (leftN zs s.1 s.2 = zs.length - 2)) = false := by
      rw [any_bad]
      intro h
      refine ht ((turns_sides h3.1).2 fun s hs => ?_)
      obtain ⟨k, hk, rfl⟩ := List.mem_iff_getElem.1 hs
      simpa using h k hk
    simpa using this

set_option maxHeartbeats 1000000 in
theorem validCorners_any (v : Value) (zs : List (Int × Int)) (w : World) (h : RdP w v zs) :
    Calls Try.prog 70 #[v] w fun e w' => e = .returned (.bool (cornB zs)) ∧ Below w.heap.size w w' := by
  obtain ⟨A, c, rfl, hl, _⟩ := RdP_slice h
  by_cases g1 : zs.length < 3
  · rw [cornB_false (fun h => by have := h.1; omega)]
    clear h
    go_enter Try.func70, Try.ntmps70
    go_wp2
    go_ret
    exact ⟨rfl, by go_grown⟩
  by_cases g2 : 12 < zs.length
  · rw [cornB_false (fun h => by have := h.1; omega)]
    clear h
    go_enter Try.func70, Try.ntmps70
    go_wp2
    go_ret
    exact ⟨rfl, by go_grown⟩
  have H := Lib.hid h; clear h
  have HP := Lib.hid (fun u (q : RdP u (.slice A zs.length c) zs) => containsFuncP_any _ zs 81 (enters_of Try.func81 (by kernel_rfl) rfl) #[] (fun p => !okP p.1 p.2) u q (fun k hk w1 hb => badPlace_any zs[k] w1))
  cases hany : zs.any fun p => !okP p.1 p.2
  · have hok := any_bad.1 hany
    have hend := corners_end (by omega) hok
    have hnear : ∀ k (hk : k < zs.length), near0 zs[k] := fun k hk => near0_ok (hok k hk)
    rw [hany] at HP
    have HS := Lib.hid (fun u (q : RdP u (.slice A zs.length c) zs) => sidesOf_any _ zs u q (by omega))
    have HL := Lib.hid (fun v' b0 u (r : RdL u v' (sidesL zs)) (q : RdP u (.slice A zs.length c) zs) (hb0 : b0 < u.heap.size) (hv : u.cell? ⟨b0, 0, none⟩ = some (.slice A zs.length c)) => containsFuncL_any v' (sidesL zs) 83 (enters_of Try.func83 (by kernel_rfl) rfl) #[.pointer (some ⟨b0, 0, none⟩)] (fun s => decide ((leftN zs s.1 s.2 : Int) ≠ (zs.length : Int) - 2)) u r
      (fun k hk w1 hb => badSide_any (sidesL zs)[k] _ zs b0 w1 (RdP_kept q hb) (Nat.lt_of_lt_of_le hb0 hb.size) (by rw [kept_cell hb b0 0 hb0]; exact hv) (by rw [sidesL_at]; exact near_pt hnear _) (by rw [sidesL_at]; exact near_pt hnear _) hnear (by omega)))
    have HEND := Lib.hid hend; clear hend hany hok hnear
    generalize hX : ((sidesL zs).any fun s => decide ((leftN zs s.1 s.2 : Int) ≠ (zs.length : Int) - 2)) = X at *
    rw [← HEND.out]
    generalize sidesL zs = T at *
    clear hX
    have hmf : ∀ (fn : Fn) (first cap : Array Value) (w : World), (Instr.makeFunc fn first cap).run Try.prog w = .ok (.func fn first cap) w := fun _ _ _ _ => rfl
    go_enter Try.func70, Try.ntmps70
    go_wp2_with fail
    refine (HP.out _ (RdP_kept H.out (by go_grown))).mono ?_
    rintro e w1 ⟨rfl, hb1⟩
    refine kept_at hb1 w.heap.size (by go_size) fun c1 z1 s1 => ?_
    have b1 := kept_trans (a := w) (by go_grown) hb1
    go_wp2_with fail
    refine (HS.out _ (RdP_kept H.out b1)).mono ?_
    rintro e w2 ⟨v2, rfl, hr2, hb2⟩
    refine kept_at hb2 w.heap.size (by go_size) fun c2 z2 s2 => ?_
    have b2 := kept_trans b1 hb2
    have HR := Lib.hid (RowF_rd hr2); clear hr2
    go_wp2_with fail
    refine (HL.out v2 w.heap.size w2 HR.out (RdP_kept H.out b2) s2 (by rw [c2, c1]; simp)).mono ?_
    rintro e w3 ⟨rfl, hb3⟩
    have b3 := kept_trans b2 hb3
    go_wp2
    go_ret
    exact ⟨rfl, b3⟩
  · rw [hany] at HP
    have hno : ¬ CornP zs := fun hc => by
      have := (any_bad (zs := zs) (p := fun p : Int × Int => okP p.1 p.2)).2 hc.2.1
      rw [hany] at this
      cases this
    rw [cornB_false hno]
    clear hno hany
    go_enter Try.func70, Try.ntmps70
    go_wp2_with fail
    refine (HP.out _ (RdP_kept H.out (by go_grown))).mono ?_
    rintro e w1 ⟨rfl, hb1⟩
    have b1 := kept_trans (a := w) (by go_grown) hb1
    go_wp2
    go_ret
    exact ⟨rfl, b1⟩

/-- The numbers of a zone fit its kind. -/
def sizeB (k : Zn) : Bool := if k.kd = 1 then inB k.st 1 60 && (inB k.ea 20 60 && decide (k.st * k.ea ≤ 2000)) else (k.kd == 2 || k.kd == 3) && (decide (k.st = 0) && decide (k.ea = 0))

noncomputable def zoneB (k : Zn) : Bool := sizeB k && cornB k.cs

theorem height_any (kd st ea : Int) (A : Option Addr) (n c : Nat) (w : World) (hb : -1000000 ≤ st * ea ∧ st * ea ≤ 1000000) :
    Calls Try.prog 41 #[.agg #[.int .i64 kd, .int .i64 st, .int .i64 ea, .slice A n c]] w fun e w' => e = .returned (.int .i64 (st * ea)) ∧ Below w.heap.size w w' := by
  have hw := IntWalk.wrap64_in (st * ea) (by omega)
  have HW := Lib.hid hw; clear hw
  generalize hm : st * ea = m at *
  go_enter Try.func41, Try.ntmps41
  go_wp2
  go_ret
  exact ⟨rfl, by go_grown⟩

set_option maxHeartbeats 1000000 in
theorem validSize_any (k : Zn) (A : Option Addr) (n c : Nat) (w : World) :
    Calls Try.prog 69 #[.agg #[.int .i64 k.kd, .int .i64 k.st, .int .i64 k.ea, .slice A n c]] w fun e w' => e = .returned (.bool (sizeB k)) ∧ Below w.heap.size w w' := by
  unfold sizeB
  obtain ⟨kd, st, ea, zs⟩ := k
  dsimp only
  by_cases k1 : kd = 1
  · subst k1
    rw [if_pos rfl]
    rcases (show ¬ 1 ≤ st ∨ (1 ≤ st ∧ ¬ st ≤ 60) ∨ (1 ≤ st ∧ st ≤ 60 ∧ ¬ 20 ≤ ea) ∨ (1 ≤ st ∧ st ≤ 60 ∧ 20 ≤ ea ∧ ¬ ea ≤ 60) ∨ (1 ≤ st ∧ st ≤ 60 ∧ 20 ≤ ea ∧ ea ≤ 60) from by omega) with g | g | g | g | g
    case inr.inr.inr.inr =>
      have hp := prod_bd st ea 60 (by omega) (by omega)
      have HH := Lib.hid (fun u => height_any 1 st ea A n c u (by omega))
      rw [show (inB st 1 60 && (inB ea 20 60 && decide (st * ea ≤ 2000))) = decide (st * ea ≤ 2000) by simp [inB, g]]
      generalize st * ea = m at *
      go_enter Try.func69, Try.ntmps69
      go_wp2_with fail
      refine (HH.out _).mono ?_
      rintro e w1 ⟨rfl, hb1⟩
      have b1 := kept_trans (a := w) (by go_grown) hb1
      go_wp2
      go_ret
      exact ⟨rfl, b1⟩
    all_goals
      first
        | rw [show (inB st 1 60 && (inB ea 20 60 && decide (st * ea ≤ 2000))) = false by simp [inB]; omega]
      go_enter Try.func69, Try.ntmps69
      go_wp2
      go_ret
      exact ⟨rfl, by go_grown⟩
  · rw [if_neg k1]
    by_cases k2 : kd = 2
    · subst k2
      by_cases h1 : st = 0 <;> by_cases h2 : ea = 0
      all_goals
        (try subst h1)
        (try subst h2)
        go_enter Try.func69, Try.ntmps69
        go_wp2
        go_ret
        exact ⟨by simp [*], by go_grown⟩
    · by_cases k3 : kd = 3
      · subst k3
        by_cases h1 : st = 0 <;> by_cases h2 : ea = 0
        all_goals
          (try subst h1)
          (try subst h2)
          go_enter Try.func69, Try.ntmps69
          go_wp2
          go_ret
          exact ⟨by simp [*], by go_grown⟩
      · have e2 : (kd == 2) = false := by rw [beq_eq_false_iff_ne]; exact k2
        have e3 : (kd == 3) = false := by rw [beq_eq_false_iff_ne]; exact k3
        have e1 : (kd == 1) = false := by rw [beq_eq_false_iff_ne]; exact k1
        rw [e2, e3]
        go_enter Try.func69, Try.ntmps69
        go_wp2
        go_ret
        exact ⟨rfl, by go_grown⟩

theorem implZone_any (k : Zn) (c : Value) (w : World) (hr : RdP w c k.cs) :
    Calls Try.prog 40 #[.agg #[.int .i64 k.kd, .int .i64 k.st, .int .i64 k.ea, c]] w fun e w' => e = .returned (.bool (zoneB k)) ∧ Below w.heap.size w w' := by
  obtain ⟨A, cp, rfl, hl, _⟩ := RdP_slice hr
  have H := Lib.hid hr; clear hr
  have HS := Lib.hid (fun u => validSize_any k A k.cs.length cp u)
  have HC := Lib.hid (fun u q => validCorners_any (.slice A k.cs.length cp) k.cs u q)
  unfold zoneB
  generalize cornB k.cs = C at *
  cases hs : sizeB k
  all_goals
    rw [hs] at HS
    obtain ⟨kd, st, ea, zs⟩ := k
    dsimp only at *
    clear hs
    go_enter Try.func40, Try.ntmps40
    go_wp2_with fail
    refine (HS.out _).mono ?_
    rintro e w1 ⟨rfl, hb1⟩
    refine kept_at hb1 w.heap.size (by go_size) fun c1 z1 s1 => ?_
    have b1 := kept_trans (a := w) (by go_grown) hb1
  · go_wp2
    go_ret
    exact ⟨rfl, b1⟩
  · go_wp2_with fail
    refine (HC.out _ (RdP_kept H.out b1)).mono ?_
    rintro e w2 ⟨rfl, hb2⟩
    have b2 := kept_trans b1 hb2
    go_wp2
    go_ret
    exact ⟨by simp, b2⟩

open Classical in
noncomputable def turnB (zs : List (Int × Int)) : Bool := decide (turnsP zs)

def rowT (zs : List (Int × Int)) (k j : Nat) : Prop := ∀ i, i < zs.length → i < j → i ≠ k → i ≠ (k + 1) % zs.length → 0 < crossL (ptZ zs k) (ptZ zs ((k + 1) % zs.length)) (ptZ zs i)

theorem rowT_skip {zs : List (Int × Int)} {k j : Nat} (h : rowT zs k j) (hj : j = k ∨ j = (k + 1) % zs.length) : rowT zs k (j + 1) := by
  intro i hi hij h1 h2
  exact h i hi (by omega) h1 h2

theorem rowT_step {zs : List (Int × Int)} {k j : Nat} (h : rowT zs k j) (hj : 0 < crossL (ptZ zs k) (ptZ zs ((k + 1) % zs.length)) (ptZ zs j)) : rowT zs k (j + 1) := by
  intro i hi hij h1 h2
  rcases Nat.lt_or_ge i j with h3 | h3
  · exact h i hi h3 h1 h2
  · obtain rfl : i = j := by omega
    exact hj

set_option maxHeartbeats 4000000 in
theorem specTurns_any (v : Value) (zs : List (Int × Int)) (w : World) (h : RdP w v zs) (hz : ∀ k (hk : k < zs.length), near0 zs[k]) (hn : zs.length ≤ 1000000) :
    Calls Try.prog 68 #[v] w fun e w' => e = .returned (.bool (turnB zs)) ∧ Below w.heap.size w w' := by
  obtain ⟨A, c, rfl, hl, r1⟩ := RdP_slice h
  have H := Lib.hid h; clear h
  have R := Lib.hid r1; clear r1
  have hbad : ∀ k i, k < zs.length → i < zs.length → i ≠ k → i ≠ (k + 1) % zs.length → ¬ 0 < crossL (ptZ zs k) (ptZ zs ((k + 1) % zs.length)) (ptZ zs i) → turnB zs = false := by
    intro k i hk hi h1 h2 hno
    simp only [turnB, decide_eq_false_iff_not]
    exact fun ht => hno (ht k hk i hi h1 h2)
  have hend : (∀ k, k < zs.length → rowT zs k zs.length) → turnB zs = true := by
    intro h
    simp only [turnB, decide_eq_true_eq]
    exact fun k hk i hi h1 h2 => h k hk i hi hi h1 h2
  have HBAD := Lib.hid hbad; clear hbad
  have HEND := Lib.hid hend; clear hend
  have HN := Lib.hid (fun k (hk : k < zs.length) u (q : RdP u (.slice A zs.length c) zs) => nextZ_any _ zs k u q hk hn)
  have HC := Lib.hid (fun k i u => cross_any (ptZ zs k) (ptZ zs ((k + 1) % zs.length)) (ptZ zs i) u (near_pt hz _) (near_pt hz _) (near_pt hz _))
  clear hz
  generalize turnB zs = G at *
  go_enter Try.func68, Try.ntmps68
  go_wp2_with fail
  go_loopw [3] (fun i wr => ∃ k : Nat, k ≤ zs.length ∧ i = .int .i64 (k : Int) ∧ (∀ k', k' < k → rowT zs k' zs.length) ∧ Below w.heap.size w wr) (fun i _ => zs.length - (intOf i).toNat)
  case atStart => exact ⟨0, by omega, rfl, fun k' h => by omega, Below.refl _ _⟩
  case round =>
    obtain ⟨k, hk, rfl, hrows, hb⟩ := hrel
    have HRW := Lib.hid hrows; clear hrows
    by_cases hlt : k < zs.length
    · have hm : (k + 1) % zs.length < zs.length := Nat.mod_lt _ (by omega)
      have hi : ((k : Int) + 1).tmod (zs.length : Int) = (((k + 1) % zs.length : Nat) : Int) := by rw [tmod_pos _ _ (by omega)]; simp
      have hwk : IntKind.i64.wrap ((k : Int) + 1) = (k : Int) + 1 := IntWalk.i64_in _ (by omega)
      have h0 : ((zs.length : Int) == 0) = false := by rw [beq_eq_false_iff_ne]; omega
      have h0a : ¬ (zs.length : Int) = 0 := by omega
      have h0b : ¬ zs.length = 0 := by omega
      have h0c : (zs.length == 0) = false := by rw [beq_eq_false_iff_ne]; omega
      have h0d : zs ≠ [] := by intro h; subst h; simp at hlt
      have HNK := Lib.hid (HN.out k hlt)
      have HCK := Lib.hid (HC.out k)
      have hbd := HBAD.out k
      have hrs := fun j => @rowT_skip zs k j
      have hrt := fun j => @rowT_step zs k j
      have hr0 : rowT zs k 0 := fun i _ h => by omega
      have hrn : ∀ k', k' < k + 1 → rowT zs k zs.length → rowT zs k' zs.length := by
        intro k' h1 h2
        rcases Nat.lt_or_ge k' k with h3 | h3
        · exact HRW.out k' h3
        · obtain rfl : k' = k := by omega
          exact h2
      generalize (k + 1) % zs.length = m at *
      have HRS := Lib.hid hrs; clear hrs
      have HRT := Lib.hid hrt; clear hrt
      have HR0 := Lib.hid hr0; clear hr0
      have HRN := Lib.hid hrn; clear hrn
      have HBD := Lib.hid hbd; clear hbd
      go_wp2_with fail
      go_loopw [4] (fun i wr => ∃ j : Nat, j ≤ zs.length ∧ i = .int .i64 (j : Int) ∧ rowT zs k j ∧ Below w.heap.size w wr) (fun i _ => zs.length - (intOf i).toNat)
      case atStart => exact ⟨0, by omega, rfl, HR0.out, hb⟩
      case round =>
        obtain ⟨j, hj, rfl, hrow, hb⟩ := hrel
        by_cases hjl : j < zs.length
        · by_cases e1 : j = k
          · subst e1
            have hnx := HRS.out _ hrow (Or.inl rfl)
            have HNX := Lib.hid hnx; clear hnx hrow
            have hq : ((j : Int) != (j : Int)) = false := by simp
            go_wp2_with fail
            go_quiet (fail)
            go_wp2
            go_roundw
            case rel => exact ⟨j + 1, by omega, by go_num, HNX.out, kept_drewN hb _⟩
            case measure => simp [intOf]; omega
          · have hq : ((j : Int) != (k : Int)) = true := by simp; omega
            have hq2 : ((j : Int) == (k : Int)) = false := by rw [beq_eq_false_iff_ne]; omega
            by_cases e2 : j = m
            · subst e2
              have hnx := HRS.out _ hrow (Or.inr rfl)
              have HNX := Lib.hid hnx; clear hnx hrow
              have hq3 : ((j : Int) != (j : Int)) = false := by simp
              go_wp2_with fail
              go_quiet (fail)
              go_wp2
              go_roundw
              case rel => exact ⟨j + 1, by omega, by go_num, HNX.out, kept_drewN hb _⟩
              case measure => simp [intOf]; omega
            · have hq4 : ((j : Int) != (m : Int)) = true := by simp; omega
              have hq5 : ((j : Int) == (m : Int)) = false := by rw [beq_eq_false_iff_ne]; omega
              have hnx := HRT.out _ hrow
              have hbd := HBD.out j hlt hjl e1 e2
              obtain ⟨b, off, rfl, hbl, hc0, hc1⟩ := R.out k hlt
              obtain ⟨b', off', e', _, hd0, hd1⟩ := R.out j hjl
              cases e'
              rw [← kept_cell hb b _ hbl] at hc0 hc1 hd0 hd1
              rw [← ptZ_at zs k hlt] at hc0 hc1
              rw [← ptZ_at zs j hjl] at hd0 hd1
              have hbl' := Nat.lt_of_lt_of_le hbl hb.size
              have HCJ := Lib.hid (HCK.out j)
              generalize crossL (ptZ zs k) (ptZ zs m) (ptZ zs j) = D at *
              generalize (ptZ zs k).1 = x1 at *
              generalize (ptZ zs k).2 = x2 at *
              generalize (ptZ zs j).1 = y1 at *
              generalize (ptZ zs j).2 = y2 at *
              generalize (ptZ zs m).1 = q1 at *
              generalize (ptZ zs m).2 = q2 at *
              have HRR := Lib.hid hrow; clear hrow
              by_cases hd : 0 < D
              · have HNX := Lib.hid (hnx hd); clear hnx hbd
                have hdd : ¬ D ≤ 0 := by omega
                go_wp2_with fail
                go_region_held3 (fun w' => w'.cell? ⟨b, off + k * 2, none⟩ = some (.int .i64 x1) ∧ w'.cell? ⟨b, off + k * 2 + 1, none⟩ = some (.int .i64 x2) ∧ w'.cell? ⟨b, off + j * 2, none⟩ = some (.int .i64 y1) ∧ w'.cell? ⟨b, off + j * 2 + 1, none⟩ = some (.int .i64 y2)) (go_keep)
                  (first | (go_at_call 72; refine (HNK.out _ (RdP_kept H.out (kept_trans (a := w) hb (by go_grown)))).mono ?_; rintro e w1 ⟨rfl, hb1⟩; refine kept_at hb1 b (by go_size) fun c1 z1 s1 => ?_; have b1 := kept_trans (a := wr) (by go_grown) hb1) | (go_at_call 42; refine (HCJ.out _).mono ?_; rintro e w2 ⟨rfl, hb2⟩; refine kept_at hb2 b (by go_size) fun c2 z2 s2 => ?_; have b2 := kept_trans (a := wr) (by go_grown) hb2))
                go_wp2
                go_roundw
                case rel => exact ⟨j + 1, by omega, by go_num, HNX.out, kept_trans hb (by assumption)⟩
                case measure => simp [intOf]; omega
              · have hG := hbd (by omega)
                clear hnx hbd
                have hdd : D ≤ 0 := by omega
                go_wp2_with fail
                go_region_held3 (fun w' => w'.cell? ⟨b, off + k * 2, none⟩ = some (.int .i64 x1) ∧ w'.cell? ⟨b, off + k * 2 + 1, none⟩ = some (.int .i64 x2) ∧ w'.cell? ⟨b, off + j * 2, none⟩ = some (.int .i64 y1) ∧ w'.cell? ⟨b, off + j * 2 + 1, none⟩ = some (.int .i64 y2)) (go_keep)
                  (first | (go_at_call 72; refine (HNK.out _ (RdP_kept H.out (kept_trans (a := w) hb (by go_grown)))).mono ?_; rintro e w1 ⟨rfl, hb1⟩; refine kept_at hb1 b (by go_size) fun c1 z1 s1 => ?_; have b1 := kept_trans (a := wr) (by go_grown) hb1) | (go_at_call 42; refine (HCJ.out _).mono ?_; rintro e w2 ⟨rfl, hb2⟩; refine kept_at hb2 b (by go_size) fun c2 z2 s2 => ?_; have b2 := kept_trans (a := wr) (by go_grown) hb2))
                go_wp2
                go_ret
                exact ⟨by rw [hG]; rfl, kept_trans hb (by assumption)⟩
        · have : j = zs.length := by omega
          subst this
          have hst := fun k' h => HRN.out k' h hrow
          have HST := Lib.hid hst; clear hst hrow
          go_wp2
          go_roundw
          case rel => exact ⟨k + 1, by omega, by go_num, HST.out, hb⟩
          case measure => simp [intOf]; omega
    · have : k = zs.length := by omega
      subst this
      have hE := HEND.out HRW.out
      go_wp2
      go_ret
      exact ⟨by rw [hE]; rfl, hb⟩

/-- A zone lies at a place. -/
def ZnAt (w : World) (b o : Nat) (k : Zn) (c : Value) : Prop :=
  b < w.heap.size ∧ (w.cell? ⟨b, o, none⟩ = some (.int .i64 k.kd) ∧ w.cell? ⟨b, o + 1, none⟩ = some (.int .i64 k.st) ∧ w.cell? ⟨b, o + 2, none⟩ = some (.int .i64 k.ea) ∧ w.cell? ⟨b, o + 3, none⟩ = some c) ∧ RdP w c k.cs

theorem zone_corn {zs : List (Int × Int)} (h3 : 3 ≤ zs.length ∧ zs.length ≤ 12) (hok : ∀ k (hk : k < zs.length), okP zs[k].1 zs[k].2 = true) : cornB zs = turnB zs := by
  unfold cornB turnB CornP
  congr 1
  exact propext ⟨fun h => h.2.2, fun h => ⟨h3, hok, h⟩⟩

set_option maxHeartbeats 4000000 in
theorem specZone_any (b o : Nat) (k : Zn) (c : Value) (w : World) (h : ZnAt w b o k c) :
    Calls Try.prog 39 #[.pointer (some ⟨b, o, none⟩)] w fun e w' => e = .returned (.bool (zoneB k)) ∧ Below w.heap.size w w' := by
  have HZ := Lib.hid h
  obtain ⟨hb0, ⟨c0, c1, c2, c3⟩, hr⟩ := h
  obtain ⟨A, cp, rfl, hl, r1⟩ := RdP_slice hr
  have H := Lib.hid hr; clear hr
  have R := Lib.hid r1; clear r1
  have hzb : zoneB k = (sizeB k && cornB k.cs) := rfl
  have hsz : sizeB k = if k.kd = 1 then inB k.st 1 60 && (inB k.ea 20 60 && decide (k.st * k.ea ≤ 2000)) else (k.kd == 2 || k.kd == 3) && (decide (k.st = 0) && decide (k.ea = 0)) := rfl
  generalize zoneB k = G at *
  generalize sizeB k = SZ at *
  obtain ⟨kd, st, ea, zs⟩ := k
  dsimp only at *
  cases p1 : inB kd 1 3
  · have hS : SZ = false := by
      have := inB_false p1
      rw [hsz, if_neg (by omega)]
      have e2 : (kd == 2) = false := by rw [beq_eq_false_iff_ne]; omega
      have e3 : (kd == 3) = false := by rw [beq_eq_false_iff_ne]; omega
      rw [e2, e3]
      rfl
    have hG : G = false := by rw [hzb, hS]; rfl
    subst hG
    clear hzb hsz hS
    go_enter Try.func39, Try.ntmps39
    go_wp2_with (go_at_call 67; refine (in_any _ _ _ _).mono ?_; rintro e w1 ⟨rfl, rfl⟩)
    go_ret
    exact ⟨rfl, Below.refl _ _⟩
  cases p2 : inB (zs.length : Int) 3 12
  · have hC : cornB zs = false := cornB_false (fun h => by have := inB_false p2; have := h.1; omega)
    have hG : G = false := by rw [hzb, hC]; simp
    subst hG
    clear hzb hsz hC
    go_enter Try.func39, Try.ntmps39
    go_wp2_with (go_at_call 67; refine (in_any _ _ _ _).mono ?_; rintro e w1 ⟨rfl, rfl⟩)
    go_ret
    exact ⟨rfl, Below.refl _ _⟩
  have g1 := inB_true p1
  have g2 := inB_true p2
  have hbad : ∀ j (hj : j < zs.length), okP zs[j].1 zs[j].2 = false → G = false := by
    intro j hj hno
    rw [hzb, cornB_false (fun h => by have := h.2.1 j hj; rw [hno] at this; cases this)]
    simp
  have HBAD := Lib.hid hbad; clear hbad
  have hend : (∀ j (hj : j < zs.length), okP zs[j].1 zs[j].2 = true) → G = (SZ && turnB zs) := fun h => by rw [hzb, zone_corn (by omega) h]
  have HEND := Lib.hid hend; clear hend hzb
  have HT := Lib.hid (fun u (q : RdP u (.slice A zs.length cp) zs) (hok : ∀ j (hj : j < zs.length), okP zs[j].1 zs[j].2 = true) => specTurns_any _ zs u q (fun j hj => near0_ok (hok j hj)) (by omega))
  have HSZ := Lib.hid hsz; clear hsz
  go_enter Try.func39, Try.ntmps39
  go_wp2_with (go_at_call 67; refine (in_any _ _ _ _).mono ?_; rintro e w1 ⟨rfl, rfl⟩)
  go_loopw [3] (fun i wr => ∃ j : Nat, j ≤ zs.length ∧ i = .int .i64 (j : Int) ∧ (∀ i (hi : i < zs.length), i < j → okP zs[i].1 zs[i].2 = true) ∧ Below w.heap.size w wr) (fun i _ => zs.length - (intOf i).toNat)
  case atStart => exact ⟨0, by omega, rfl, fun i _ h => by omega, Below.refl _ _⟩
  case round =>
    obtain ⟨j, hj, rfl, hall, hb⟩ := hrel
    rw [← kept_cell hb b _ hb0] at c0 c1 c2 c3
    have hb0w := Nat.lt_of_lt_of_le hb0 hb.size
    by_cases hlt : j < zs.length
    · obtain ⟨b1, off, rfl, hbl, d0, d1⟩ := R.out j hlt
      rw [← kept_cell hb b1 _ hbl] at d0 d1
      have hbd := HBAD.out j hlt
      have hok := fun u => specOk_any zs[j].1 zs[j].2 u
      cases hp : okP zs[j].1 zs[j].2
      · have hG := hbd hp
        subst hG
        rw [hp] at hok
        have HOK := Lib.hid hok; clear hok hall hp hbd
        generalize zs[j].1 = x at *
        generalize zs[j].2 = y at *
        go_wp2_with fail
        refine (HOK.out _).mono ?_
        rintro e w1 ⟨rfl, hb1⟩
        go_wp2
        go_ret
        exact ⟨rfl, kept_trans hb hb1⟩
      · have hnx : ∀ i (hi : i < zs.length), i < j + 1 → okP zs[i].1 zs[i].2 = true := fun i hi hij => by
          rcases Nat.lt_or_ge i j with h1 | h1
          · exact hall i hi h1
          · obtain rfl : i = j := by omega
            exact hp
        rw [hp] at hok
        have HOK := Lib.hid hok
        have HNX := Lib.hid hnx
        clear hok hall hp hbd hnx
        generalize zs[j].1 = x at *
        generalize zs[j].2 = y at *
        go_wp2_with fail
        refine (HOK.out _).mono ?_
        rintro e w1 ⟨rfl, hb1⟩
        go_wp2
        go_roundw
        case rel => exact ⟨j + 1, by omega, by go_num, HNX.out, kept_trans hb hb1⟩
        case measure => simp [intOf]; omega
    · have : j = zs.length := by omega
      subst this
      have hok : ∀ i (hi : i < zs.length), okP zs[i].1 zs[i].2 = true := fun i hi => hall i hi hi
      have hG := HEND.out hok
      have HTT := Lib.hid (fun u q => HT.out u q hok)
      have hsz := HSZ.out
      clear hall hok
      subst hG
      by_cases k1 : kd = 1
      · subst k1
        rw [if_pos rfl] at hsz
        subst hsz
        have q1 : (1 != (1 : Int)) = false := by simp
        cases p3 : inB st 1 60
        · have HI := Lib.hid (fun u => (p3 ▸ in_any st 1 60 u : Calls Try.prog 67 #[.int .i64 st, .int .i64 1, .int .i64 60] u fun e w' => e = .returned (.bool false) ∧ u = w'))
          go_wp2_with fail
          go_quiet ((go_at_call 67; with_reducible (show Calls _ _ #[.int .i64 st, .int .i64 1, .int .i64 60] _ _); exact Calls.quiet_of_same ((HI.out _).mono fun e w' h => ⟨h.1, h.2.symm⟩)))
          go_wp2
          go_ret
          exact ⟨by simp [p3], kept_drewN hb _⟩
        have HI := Lib.hid (fun u => (p3 ▸ in_any st 1 60 u : Calls Try.prog 67 #[.int .i64 st, .int .i64 1, .int .i64 60] u fun e w' => e = .returned (.bool true) ∧ u = w'))
        cases p4 : inB ea 20 60
        · have HJ := Lib.hid (fun u => (p4 ▸ in_any ea 20 60 u : Calls Try.prog 67 #[.int .i64 ea, .int .i64 20, .int .i64 60] u fun e w' => e = .returned (.bool false) ∧ u = w'))
          have P3 := Lib.hid p3
          have P4 := Lib.hid p4
          clear p3 p4
          go_wp2_with fail
          go_quiet (first | (go_at_call 67; with_reducible (show Calls _ _ #[.int .i64 st, .int .i64 1, .int .i64 60] _ _); exact Calls.quiet_of_same ((HI.out _).mono fun e w' h => ⟨h.1, h.2.symm⟩)) | (go_at_call 67; with_reducible (show Calls _ _ #[.int .i64 ea, .int .i64 20, .int .i64 60] _ _); exact Calls.quiet_of_same ((HJ.out _).mono fun e w' h => ⟨h.1, h.2.symm⟩)))
          go_wp2
          go_ret
          exact ⟨by simp [P3.out, P4.out], kept_drewN hb _⟩
        have HJ := Lib.hid (fun u => (p4 ▸ in_any ea 20 60 u : Calls Try.prog 67 #[.int .i64 ea, .int .i64 20, .int .i64 60] u fun e w' => e = .returned (.bool true) ∧ u = w'))
        have hpb := prod_bd st ea 60 (by have := inB_true p3; omega) (by have := inB_true p4; omega)
        have hwm : IntKind.i64.wrap (st * ea) = st * ea := IntWalk.i64_in _ (by omega)
        have P3 := Lib.hid p3
        have P4 := Lib.hid p4
        clear p3 p4
        by_cases hm : st * ea ≤ 2000
        · have hmd : decide (st * ea ≤ 2000) = true := by simp [hm]
          go_wp2_with fail
          go_region_held3 (fun w' => w'.cell? ⟨b, o + 1, none⟩ = some (.int .i64 st) ∧ w'.cell? ⟨b, o + 2, none⟩ = some (.int .i64 ea) ∧ w'.cell? ⟨b, o + 3, none⟩ = some (.slice A zs.length cp)) (go_keep)
            (first | (go_at_call 67; with_reducible (show Calls _ _ #[.int .i64 st, .int .i64 1, .int .i64 60] _ _); refine (HI.out _).mono ?_; rintro e w1 ⟨rfl, rfl⟩) | (go_at_call 67; with_reducible (show Calls _ _ #[.int .i64 ea, .int .i64 20, .int .i64 60] _ _); refine (HJ.out _).mono ?_; rintro e w1 ⟨rfl, rfl⟩) | (go_at_call 68; refine (HTT.out _ (RdP_kept H.out (kept_trans (a := w) hb (by go_grown)))).mono ?_; rintro e w2 ⟨rfl, hb2⟩; refine kept_at hb2 b (by go_size) fun f2 z2 s2 => ?_; have b2 := kept_trans (a := wr) (by go_grown) hb2))
          go_wp2
          go_ret
          exact ⟨by simp [P3.out, P4.out, hm], kept_trans hb (by assumption)⟩
        · have hmd : decide (st * ea ≤ 2000) = false := by simp; omega
          go_wp2_with fail
          go_quiet (first | (go_at_call 67; with_reducible (show Calls _ _ #[.int .i64 st, .int .i64 1, .int .i64 60] _ _); exact Calls.quiet_of_same ((HI.out _).mono fun e w' h => ⟨h.1, h.2.symm⟩)) | (go_at_call 67; with_reducible (show Calls _ _ #[.int .i64 ea, .int .i64 20, .int .i64 60] _ _); exact Calls.quiet_of_same ((HJ.out _).mono fun e w' h => ⟨h.1, h.2.symm⟩)))
          go_wp2
          go_ret
          exact ⟨by simp [P3.out, P4.out]; intro h; exact absurd h (by omega), kept_drewN hb _⟩
      · have q1 : (kd != 1) = true := by simp [k1]
        have q2 : (kd == 2 || kd == 3) = true := by
          by_cases h2 : kd = 2
          · simp [h2]
          · have h3 : kd = 3 := by omega
            simp [h3]
        rw [if_neg k1, q2] at hsz
        subst hsz
        by_cases h1 : st = 0
        · subst h1
          by_cases h2 : ea = 0
          · subst h2
            go_wp2_with fail
            refine (HTT.out _ (RdP_kept H.out hb)).mono ?_
            rintro e w1 ⟨rfl, hb1⟩
            go_wp2
            go_ret
            exact ⟨by simp, kept_trans hb hb1⟩
          · have q3 : (ea == 0) = false := by rw [beq_eq_false_iff_ne]; exact h2
            go_wp2
            go_ret
            exact ⟨by simp [h2], hb⟩
        · have q3 : (st == 0) = false := by rw [beq_eq_false_iff_ne]; exact h1
          go_wp2
          go_ret
          exact ⟨by simp [h1], hb⟩

theorem zone_kd {k : Zn} (h : zoneB k = true) : (k.kd = 1 ∨ k.kd = 2 ∨ k.kd = 3) ∧ (0 ≤ k.st * k.ea ∧ k.st * k.ea ≤ 2000) ∧ CornP k.cs := by
  simp only [zoneB, Bool.and_eq_true] at h
  refine ⟨?_, ?_, cornB_iff.1 h.2⟩
  · have h1 := h.1
    unfold sizeB at h1
    split at h1
    · omega
    · simp at h1
      omega
  · have h1 := h.1
    unfold sizeB at h1
    split at h1
    · simp only [Bool.and_eq_true, decide_eq_true_eq] at h1
      have g1 := inB_true h1.1
      have g2 := inB_true h1.2.1
      exact ⟨Int.mul_nonneg (by omega) (by omega), h1.2.2⟩
    · simp at h1
      rw [h1.2.1, h1.2.2]
      omega

theorem corn_near {zs : List (Int × Int)} (h : CornP zs) : ∀ k (hk : k < zs.length), near0 zs[k] := fun k hk => near0_ok (h.2.1 k hk)

/-- What the sides up to j add up to. -/
def areaM (c : Nat → Int × Int) (n j : Nat) : Int := areaN c (min j (n - 1))

theorem areaM_step {c : Nat → Int × Int} {n j : Nat} (hj : j < n) : areaM c n (j + 1) = areaM c n j + sdL n c j (c 0) := by
  unfold areaM
  by_cases h : j + 1 < n
  · rw [show min (j + 1) (n - 1) = j + 1 by omega, show min j (n - 1) = j by omega, area_step h]
  · obtain rfl : j = n - 1 := by omega
    rw [area_last (by omega), show min (n - 1 + 1) (n - 1) = n - 1 by omega, Nat.min_self]
    omega

noncomputable def areaZL (k : Zn) : Int × Int := if zoneB k then (areaN (ptZ k.cs) (k.cs.length - 1), 0) else (0, 1)

theorem area_bdZ {zs : List (Int × Int)} (h : CornP zs) (j : Nat) (hj : j < zs.length) : -24000000000 ≤ areaN (ptZ zs) j ∧ areaN (ptZ zs) j ≤ 24000000000 := by
  have hn := near_pt (corn_near h)
  have := area_bd (c := ptZ zs) (n := zs.length) (fun k _ => cross_bd (hn 0) (hn k) (hn (k + 1))) j hj
  have := h.1
  omega

set_option maxHeartbeats 4000000 in
theorem specDA_loop (k : Zn) (A : Option Addr) (cp : Nat) (w : World) (H : Hid (RdP w (.slice A k.cs.length cp) k.cs)) (hc : CornP k.cs)
    (HS : Hid (∀ b o u, ZnAt u b o k (.slice A k.cs.length cp) → Calls Try.prog 39 #[.pointer (some ⟨b, o, none⟩)] u fun e w' => e = .returned (.bool true) ∧ Below u.heap.size u w')) :
    Calls Try.prog 18 #[.agg #[.int .i64 k.kd, .int .i64 k.st, .int .i64 k.ea, .slice A k.cs.length cp]] w fun e w' => e = .returned (.tuple #[.int .i64 (areaN (ptZ k.cs) (k.cs.length - 1)), .int .i64 0]) ∧ Below w.heap.size w w' := by
  have hA : ZnAt (w.alloc (.cells #[.int .i64 k.kd, .int .i64 k.st, .int .i64 k.ea, .slice A k.cs.length cp] 29)) w.heap.size 0 k (.slice A k.cs.length cp) := ⟨by simp, by simp, RdP_kept H.out (by go_grown)⟩
  have HA := Lib.hid hA; clear hA
  obtain ⟨_, _, e0, hl, r1⟩ := RdP_slice H.out
  cases e0
  have R := Lib.hid r1; clear r1
  have hlen := hc.1
  have hnear := near_pt (corn_near hc)
  have HBD := Lib.hid (fun j (hj : j < k.cs.length) => area_bdZ hc j hj)
  have HC := Lib.hid (fun j u => cross_any (ptZ k.cs 0) (ptZ k.cs j) (ptZ k.cs (j + 1)) u (hnear _) (hnear _) (hnear _))
  have HDB := Lib.hid (fun j => cross_bd (hnear 0) (hnear j) (hnear (j + 1)))
  have h1 : areaN (ptZ k.cs) 1 = 0 := area_one _
  have hst : ∀ j, areaN (ptZ k.cs) (j + 1) = areaN (ptZ k.cs) j + crossL (ptZ k.cs 0) (ptZ k.cs j) (ptZ k.cs (j + 1)) := fun j => rfl
  have H1 := Lib.hid h1; clear h1
  have HST := Lib.hid hst; clear hst
  clear hc hnear
  generalize hF : areaN (ptZ k.cs) = F at *
  clear hF
  obtain ⟨kd, st, ea, zs⟩ := k
  dsimp only at *
  go_enter Try.func18, Try.ntmps18
  go_wp2_with fail
  refine (HS.out _ _ _ HA.out).mono ?_
  rintro e w1 ⟨rfl, hb1⟩
  refine kept_at hb1 w.heap.size (by go_size) fun c1_0 z1_0 s1_0 => ?_
  have b1 := kept_trans (a := w) (by go_grown) hb1
  have hbox1 : w1.cell? ⟨w.heap.size, 3, none⟩ = some (.slice A zs.length cp) := by rw [c1_0]; simp
  clear c1_0 z1_0 HA
  go_wp2_with fail
  go_loopw [4, 5] (fun q i wr => ∃ j : Nat, 1 ≤ j ∧ j < zs.length ∧ i = .int .i64 (j : Int) ∧ q = .int .i64 (F j) ∧ wr.cell? ⟨w.heap.size, 3, none⟩ = some (.slice A zs.length cp) ∧ w.heap.size < wr.heap.size ∧ Below w.heap.size w wr) (fun _ i _ => zs.length - (intOf i).toNat)
  case atStart => exact ⟨1, by omega, by omega, rfl, by rw [H1.out], hbox1, s1_0, b1⟩
  case round =>
    obtain ⟨j, hj1, hj, rfl, rfl, hbox, hlw, hb⟩ := hrel
    by_cases hlt : j + 1 < zs.length
    · have hbd := HBD.out j hj
      have hdb := HDB.out j
      have hst := HST.out j
      have HCJ := Lib.hid (HC.out j)
      obtain ⟨b, off, rfl, hbl, a0, a1⟩ := R.out 0 (by omega)
      obtain ⟨_, _, ej, _, d0, d1⟩ := R.out j hj
      cases ej
      obtain ⟨_, _, ek, _, g0, g1⟩ := R.out (j + 1) hlt
      cases ek
      rw [← kept_cell hb b _ hbl] at a0 a1 d0 d1 g0 g1
      rw [← ptZ_at zs 0 (by omega)] at a0 a1
      rw [← ptZ_at zs j hj] at d0 d1
      rw [← ptZ_at zs (j + 1) hlt] at g0 g1
      simp only [Nat.zero_mul, Nat.add_zero] at a0 a1
      have hblw := Nat.lt_of_lt_of_le hbl hb.size
      generalize crossL (ptZ zs 0) (ptZ zs j) (ptZ zs (j + 1)) = D at *
      generalize (ptZ zs 0).1 = x1 at *
      generalize (ptZ zs 0).2 = x2 at *
      generalize (ptZ zs j).1 = y1 at *
      generalize (ptZ zs j).2 = y2 at *
      generalize (ptZ zs (j + 1)).1 = q1 at *
      generalize (ptZ zs (j + 1)).2 = q2 at *
      generalize F j = fj at *
      have hwk : IntKind.i64.wrap ((j : Int) + 1) = (j : Int) + 1 := IntWalk.i64_in _ (by omega)
      have hws : IntKind.i64.wrap (fj + D) = fj + D := IntWalk.i64_in _ (by omega)
      have hi1 : (j : Int) + 1 < (zs.length : Int) := by omega
      have hi2 : (0 : Int) < (zs.length : Int) := by omega
      have hi3 : (j : Int) < (zs.length : Int) := by omega
      have hi4 : (0 : Int) ≤ (j : Int) + 1 := by omega
      have hi5 : (0 : Int) ≤ (j : Int) := by omega
      have hne : zs ≠ [] := by intro h; rw [h] at hlt; simp at hlt
      have hp1 : 0 < zs.length := by omega
      have hp2 : (zs.length == 0) = false := by simp [hne]
      have hp3 : ¬ zs.length = 0 := by omega
      have hp4 : ¬ zs.length ≤ 0 := by omega
      have hp5 : ¬ (zs.length : Int) ≤ 0 := by omega
      have HT := Lib.hid hst; clear hst
      go_wp2_with fail
      go_region_held3 (fun w' => w'.cell? ⟨w.heap.size, 3, none⟩ = some (.slice (some ⟨b, off, none⟩) zs.length cp) ∧ w'.cell? ⟨b, off, none⟩ = some (.int .i64 x1) ∧ w'.cell? ⟨b, off + 1, none⟩ = some (.int .i64 x2) ∧ w'.cell? ⟨b, off + j * 2, none⟩ = some (.int .i64 y1) ∧ w'.cell? ⟨b, off + j * 2 + 1, none⟩ = some (.int .i64 y2) ∧ w'.cell? ⟨b, off + (j + 1) * 2, none⟩ = some (.int .i64 q1) ∧ w'.cell? ⟨b, off + (j + 1) * 2 + 1, none⟩ = some (.int .i64 q2)) (go_keep)
        ((go_at_call 42; refine (HCJ.out _).mono ?_; rintro e w2 ⟨rfl, hb2⟩; refine kept_at hb2 b (by go_size) fun cc2 z2 s2 => ?_; refine kept_at hb2 w.heap.size (by go_size) fun ce2 ze2 se2 => ?_; have b2' := kept_trans (a := wr) (by go_grown) hb2))
      all_goals
        rename_i gh
        obtain ⟨g3, _⟩ := gh
        (try go_wp2)
        go_roundw
        case rel => exact ⟨j + 1, by omega, hlt, by go_num, by rw [HT.out], g3, by assumption, kept_trans hb (by assumption)⟩
        case measure => simp [intOf]; omega
    · obtain rfl : j = zs.length - 1 := by omega
      have hd : ¬ ((zs.length - 1 : Nat) : Int) + 1 < (zs.length : Int) := by omega
      go_wp2
      go_ret2
      exact ⟨rfl, hb⟩

set_option maxHeartbeats 4000000 in
theorem implDA_loop (k : Zn) (A : Option Addr) (cp : Nat) (w : World) (H : Hid (RdP w (.slice A k.cs.length cp) k.cs)) (hc : CornP k.cs)
    (HV : Hid (∀ u, RdP u (.slice A k.cs.length cp) k.cs → Calls Try.prog 40 #[.agg #[.int .i64 k.kd, .int .i64 k.st, .int .i64 k.ea, .slice A k.cs.length cp]] u fun e w' => e = .returned (.bool true) ∧ Below u.heap.size u w')) :
    Calls Try.prog 19 #[.agg #[.int .i64 k.kd, .int .i64 k.st, .int .i64 k.ea, .slice A k.cs.length cp]] w fun e w' => e = .returned (.tuple #[.int .i64 (areaN (ptZ k.cs) (k.cs.length - 1)), .int .i64 0]) ∧ Below w.heap.size w w' := by
  have hnear := near_pt (corn_near hc)
  have hlen := hc.1
  obtain ⟨_, _, e0, hl, r1⟩ := RdP_slice H.out
  cases e0
  have R := Lib.hid r1; clear r1
  have HBD := Lib.hid (fun j (hj : j < k.cs.length) => area_bdZ hc j hj)
  have HSD := Lib.hid (fun u (q : RdP u (.slice A k.cs.length cp) k.cs) => sidesOf_any _ k.cs u q (by omega))
  have hsl := sidesL_len k.cs
  have HSA := Lib.hid (fun j (hj : j < (sidesL k.cs).length) u => (by
    have := side_any (sidesL k.cs)[j].1 (sidesL k.cs)[j].2 (ptZ k.cs 0) u (by rw [sidesL_at]; exact hnear _) (by rw [sidesL_at]; exact hnear _) (hnear 0)
    rw [show crossL (sidesL k.cs)[j].1 (sidesL k.cs)[j].2 (ptZ k.cs 0) = sdL k.cs.length (ptZ k.cs) j (ptZ k.cs 0) by rw [sidesL_at]; rfl] at this
    exact this : Calls Try.prog 44 #[.agg #[.int .i64 (sidesL k.cs)[j].1.1, .int .i64 (sidesL k.cs)[j].1.2, .int .i64 (sidesL k.cs)[j].2.1, .int .i64 (sidesL k.cs)[j].2.2], .agg #[.int .i64 (ptZ k.cs 0).1, .int .i64 (ptZ k.cs 0).2]] u fun e w' => e = .returned (.int .i64 (sdL k.cs.length (ptZ k.cs) j (ptZ k.cs 0))) ∧ Below u.heap.size u w'))
  have hdb : ∀ j, -2000000000 ≤ sdL k.cs.length (ptZ k.cs) j (ptZ k.cs 0) ∧ sdL k.cs.length (ptZ k.cs) j (ptZ k.cs 0) ≤ 2000000000 := fun j => cross_bd (hnear _) (hnear _) (hnear _)
  have hst : ∀ j, j < k.cs.length → areaM (ptZ k.cs) k.cs.length (j + 1) = areaM (ptZ k.cs) k.cs.length j + sdL k.cs.length (ptZ k.cs) j (ptZ k.cs 0) := fun j hj => areaM_step hj
  have h0 : areaM (ptZ k.cs) k.cs.length 0 = 0 := by simp [areaM, areaN]
  have hN : areaM (ptZ k.cs) k.cs.length k.cs.length = areaN (ptZ k.cs) (k.cs.length - 1) := by unfold areaM; rw [Nat.min_eq_right (by omega)]
  have hMb : ∀ j, -24000000000 ≤ areaM (ptZ k.cs) k.cs.length j ∧ areaM (ptZ k.cs) k.cs.length j ≤ 24000000000 := fun j => HBD.out _ (by omega)
  rw [← hN]
  have HDB := Lib.hid hdb; clear hdb
  have HST := Lib.hid hst; clear hst
  have H0 := Lib.hid h0; clear h0
  have HMB := Lib.hid hMb; clear hMb
  clear hN hc hnear HBD
  generalize k.cs = zs at *
  generalize hF : areaM (ptZ zs) zs.length = F at *
  generalize hD : (fun j => sdL zs.length (ptZ zs) j (ptZ zs 0)) = D at *
  have hd : ∀ j, sdL zs.length (ptZ zs) j (ptZ zs 0) = D j := fun j => by rw [← hD]
  simp only [hd] at HSA HDB HST
  clear hF hD hd
  generalize sidesL zs = T at *
  have HTL := Lib.hid hsl; clear hsl
  obtain ⟨kd, st, ea, zs0⟩ := k
  dsimp only at *
  go_enter Try.func19, Try.ntmps19
  go_wp2_with fail
  refine (HV.out _ (RdP_kept H.out (by go_grown))).mono ?_
  rintro e w1 ⟨rfl, hb1⟩
  refine kept_at hb1 w.heap.size (by go_size) fun c1_0 z1_0 s1_0 => ?_
  have b1 := kept_trans (a := w) (by go_grown) hb1
  go_wp2_with fail
  refine (HSD.out _ (RdP_kept H.out b1)).mono ?_
  rintro e w3 ⟨v3, rfl, hr3, hb3⟩
  refine kept_at hb3 w.heap.size (by go_size) fun c3_0 z3_0 s3_0 => ?_
  have b3 := kept_trans b1 hb3
  obtain ⟨A3, cp3, e3, hl3, r3⟩ := RdL_slice (RowF_rd hr3)
  rw [HTL.out] at e3
  subst e3
  have R3 := Lib.hid r3; clear r3 hr3
  have hbox3 : w3.cell? ⟨w.heap.size, 3, none⟩ = some (.slice A zs.length cp) := by rw [c3_0, c1_0]; simp
  clear c3_0 c1_0 z3_0 z1_0
  go_wp2_with fail
  go_loopw [4, 14] (fun q i wr => ∃ j : Nat, j ≤ zs.length ∧ i = .int .i64 (j : Int) ∧ q = .int .i64 (F j) ∧ wr.cell? ⟨w.heap.size, 3, none⟩ = some (.slice A zs.length cp) ∧ Below w3.heap.size w3 wr) (fun _ i _ => zs.length - (intOf i).toNat)
  case atStart => exact ⟨0, by omega, rfl, by rw [H0.out], hbox3, Below.refl _ _⟩
  case round =>
    obtain ⟨j, hj, rfl, rfl, hbox, hb⟩ := hrel
    have hsz := hb.size
    have hlw := Nat.lt_of_lt_of_le s3_0 hsz
    by_cases hlt : j < zs.length
    · have hjT : j < T.length := by rw [HTL.out]; exact hlt
      have HAJ := Lib.hid (HSA.out j hjT)
      have hdb := HDB.out j
      have hst := HST.out j hlt
      have hmb := HMB.out j
      obtain ⟨b, off, rfl, hbl, a0, a1⟩ := R.out 0 (by omega)
      have b3r := kept_trans b3 hb
      rw [← kept_cell b3r b _ hbl] at a0 a1
      rw [← ptZ_at zs 0 (by omega)] at a0 a1
      simp only [Nat.zero_mul, Nat.add_zero] at a0 a1
      have hblw := Nat.lt_of_lt_of_le hbl b3r.size
      obtain ⟨b1', off', rfl, hbl', d0, d1, d2, d3⟩ := R3.out j hjT
      rw [← kept_cell hb b1' _ hbl'] at d0 d1 d2 d3
      have hblw' := Nat.lt_of_lt_of_le hbl' hsz
      generalize D j = Dj at *
      generalize F j = fj at *
      generalize T[j].1.1 = x1 at *
      generalize T[j].1.2 = x2 at *
      generalize T[j].2.1 = x3 at *
      generalize T[j].2.2 = x4 at *
      generalize (ptZ zs 0).1 = y1 at *
      generalize (ptZ zs 0).2 = y2 at *
      have hws : IntKind.i64.wrap (fj + Dj) = fj + Dj := IntWalk.i64_in _ (by omega)
      have hi2 : (0 : Int) < (zs.length : Int) := by omega
      have hne : zs ≠ [] := by intro h; rw [h] at hlt; simp at hlt
      have hp1 : 0 < zs.length := by omega
      have hp2 : (zs.length == 0) = false := by simp [hne]
      have hp3 : ¬ zs.length = 0 := by omega
      have hp4 : ¬ zs.length ≤ 0 := by omega
      have hp5 : ¬ (zs.length : Int) ≤ 0 := by omega
      have hn1 : wr.heap.size ≠ w.heap.size := by omega
      have hn2 : wr.heap.size ≠ b := by omega
      have HT := Lib.hid hst; clear hst
      go_wp2_with fail
      go_region_held3 (fun w' => w'.cell? ⟨w.heap.size, 3, none⟩ = some (.slice (some ⟨b, off, none⟩) zs.length cp) ∧ w'.cell? ⟨b, off, none⟩ = some (.int .i64 y1) ∧ w'.cell? ⟨b, off + 1, none⟩ = some (.int .i64 y2) ∧ w'.cell? ⟨wr.heap.size, 0, none⟩ = some (.int .i64 x1) ∧ w'.cell? ⟨wr.heap.size, 1, none⟩ = some (.int .i64 x2) ∧ w'.cell? ⟨wr.heap.size, 2, none⟩ = some (.int .i64 x3) ∧ w'.cell? ⟨wr.heap.size, 3, none⟩ = some (.int .i64 x4)) (go_keep)
        ((go_at_call 44; refine (HAJ.out _).mono ?_; rintro e w4 ⟨rfl, hb4⟩; refine kept_at hb4 b (by go_size) fun cc4 z4 s4 => ?_; refine kept_at hb4 w.heap.size (by go_size) fun ce4 ze4 se4 => ?_; refine kept_at hb4 wr.heap.size (by go_size) fun cf4 zf4 sf4 => ?_; have b4 := kept_trans (a := w3) (by go_grown) hb4))
      rename_i gh
      obtain ⟨g3, _⟩ := gh
      go_wp2
      go_roundw
      case rel => exact ⟨j + 1, by omega, by go_num, by rw [HT.out], g3, by assumption⟩
      case measure => simp [intOf]; omega
    · have : j = zs.length := by omega
      subst this
      go_wp2
      go_ret2
      exact ⟨rfl, kept_trans b3 hb⟩

theorem specDA_any (k : Zn) (c : Value) (w : World) (hr : RdP w c k.cs) :
    Calls Try.prog 18 #[.agg #[.int .i64 k.kd, .int .i64 k.st, .int .i64 k.ea, c]] w fun e w' => e = .returned (.tuple #[.int .i64 (areaZL k).1, .int .i64 (areaZL k).2]) ∧ Below w.heap.size w w' := by
  obtain ⟨A, cp, rfl, _, _⟩ := RdP_slice hr
  have H := Lib.hid hr; clear hr
  have hS := (fun b o u (q : ZnAt u b o k (.slice A k.cs.length cp)) => specZone_any b o k _ u q)
  have hA : ZnAt (w.alloc (.cells #[.int .i64 k.kd, .int .i64 k.st, .int .i64 k.ea, .slice A k.cs.length cp] 29)) w.heap.size 0 k (.slice A k.cs.length cp) := ⟨by simp, by simp, RdP_kept H.out (by go_grown)⟩
  have HA := Lib.hid hA; clear hA
  unfold areaZL
  cases hz : zoneB k
  · rw [hz] at hS
    have HS := Lib.hid hS; clear hS
    go_enter Try.func18, Try.ntmps18
    go_wp2_with fail
    refine (HS.out _ _ _ HA.out).mono ?_
    rintro e w1 ⟨rfl, hb1⟩
    have b1 := kept_trans (a := w) (by go_grown) hb1
    go_wp2
    go_ret2
    exact ⟨rfl, b1⟩
  · rw [hz] at hS
    exact specDA_loop k A cp w H (zone_kd hz).2.2 (Lib.hid hS)

theorem implDA_any (k : Zn) (c : Value) (w : World) (hr : RdP w c k.cs) :
    Calls Try.prog 19 #[.agg #[.int .i64 k.kd, .int .i64 k.st, .int .i64 k.ea, c]] w fun e w' => e = .returned (.tuple #[.int .i64 (areaZL k).1, .int .i64 (areaZL k).2]) ∧ Below w.heap.size w w' := by
  obtain ⟨A, cp, rfl, _, _⟩ := RdP_slice hr
  have H := Lib.hid hr; clear hr
  have hS := (fun u (q : RdP u (.slice A k.cs.length cp) k.cs) => implZone_any k _ u q)
  unfold areaZL
  cases hz : zoneB k
  · rw [hz] at hS
    have HS := Lib.hid hS; clear hS
    go_enter Try.func19, Try.ntmps19
    go_wp2_with fail
    refine (HS.out _ (RdP_kept H.out (by go_grown))).mono ?_
    rintro e w1 ⟨rfl, hb1⟩
    have b1 := kept_trans (a := w) (by go_grown) hb1
    go_wp2
    go_ret2
    exact ⟨rfl, b1⟩
  · rw [hz] at hS
    exact implDA_loop k A cp w H (zone_kd hz).2.2 (Lib.hid hS)

set_option maxHeartbeats 4000000 in
theorem walk_FnExactDoubleAreaOf (w : World) (k : Zn) (c : Value) (hr : RdP w c k.cs) (hk : wfZ k) :
    Calls Try.prog 5 #[.agg #[.int .i64 k.kd, .int .i64 k.st, .int .i64 k.ea, c]] w fun e w' => e = .returned (.bool true) ∧ Below w.heap.size w w' := by
  obtain ⟨A, cp, rfl, _, _⟩ := RdP_slice hr
  have H := Lib.hid hr; clear hr hk
  by_cases hfit : (k.cs.length : Int) ≤ 1000000
  case neg =>
    have HZ := Lib.hid (fun u q => szZ_over k (.slice A k.cs.length cp) u q hfit)
    obtain ⟨kd, st, ea, zs⟩ := k
    dsimp only at *
    go_enter Try.func5, Try.ntmps5
    go_wp2_with fail
    refine (HZ.out _ (RdP_kept H.out (by go_grown))).mono ?_
    rintro e w1 ⟨rfl, b1⟩
    replace b1 := kept_trans (a := w) (by go_grown) b1
    have l1 := kept_cell b1
    have zz1 := b1.size
    go_wp2
    go_ret
    exact ⟨rfl, b1⟩
  have HZ := Lib.hid (fun u q => szZ_fit k (.slice A k.cs.length cp) u q hfit)
  have HF := Lib.hid (fun u (q : RdP u (.slice A k.cs.length cp) k.cs) => toZ_false k _ u q (by omega))
  have HT := Lib.hid (fun u (q : RdP u (.slice A k.cs.length cp) k.cs) => toZ_true k _ u q (by omega))
  have HS := Lib.hid (fun c u (q : RdP u c k.cs) => specDA_any k c u q)
  have HV := Lib.hid (fun c u (q : RdP u c k.cs) => implDA_any k c u q)
  have HX := Lib.hid (fun c1 c2 lo1 hi1 lo2 hi2 u h1 h2 => intactZ_same k c1 c2 lo1 hi1 lo2 hi2 u h1 h2)
  have hle : (0 : Int) ≤ 1000000 - k.cs.length := by omega
  generalize areaZL k = R at *
  obtain ⟨ra, rb⟩ := R
  obtain ⟨kd, st, ea, zs⟩ := k
  dsimp only at *
  go_enter Try.func5, Try.ntmps5
  go_wp2_with fail
  refine (HZ.out _ (RdP_kept H.out (by go_grown))).mono ?_
  rintro e w1 ⟨rfl, b1⟩
  refine kept_at b1 (w.heap.size) (by go_size) fun c1_0 z1_0 s1_0 => ?_
  replace b1 := kept_trans (a := w) (by go_grown) b1
  have l1 := kept_cell b1
  have zz1 := b1.size
  go_wp2_with fail
  refine (HF.out _ (RdP_kept H.out b1)).mono ?_
  rintro e w2 ⟨c2, rfl, hc2, hb2⟩
  refine kept_at hb2 w.heap.size (by go_size) fun c2_0 z2_0 s2_0 => ?_
  have b2 := kept_trans b1 hb2
  obtain ⟨A2, cp2, rfl, _, _⟩ := RdP_slice (CopyN_rd hc2)
  have hc2 := CopyN_rd hc2
  go_wp2_with fail
  refine (HS.out _ _ hc2).mono ?_
  rintro e w3 ⟨rfl, hb3⟩
  refine kept_at hb3 w.heap.size (by go_size) fun c3_0 z3_0 s3_0 => ?_
  have b3 := kept_trans b2 hb3
  clear hc2
  go_wp2_with fail
  refine (HF.out _ (RdP_kept H.out b3)).mono ?_
  rintro e w4 ⟨c4, rfl, hc4, hb4⟩
  obtain ⟨A4, cp4, rfl, _, _⟩ := RdP_slice (CopyN_rd hc4)
  refine kept_at hb4 w.heap.size (by go_size) fun c4_0 z4_0 s4_0 => ?_
  have b4 := kept_trans b3 hb4
  have HC4 := Lib.hid hc4; clear hc4
  go_wp2_with fail
  refine (HV.out _ _ (RdP_kept (CopyN_rd HC4.out) (by go_grown))).mono ?_
  rintro e w5 ⟨rfl, hb5⟩
  refine kept_at hb5 w.heap.size (by go_size) fun c5_0 z5_0 s5_0 => ?_
  refine kept_at hb5 w4.heap.size (by go_size) fun c5_1 z5_1 s5_1 => ?_
  have k5 := kept_trans (a := w4) (by go_grown) hb5
  have b5 := kept_trans b4 k5
  replace HC4 := Lib.hid (CopyN_kept HC4.out k5)
  go_wp2_with fail
  first
    | go_region_with (first
        | (go_at_call 13; refine (HF.out _ (RdP_kept H.out (by go_grown))).mono ?_; rintro e w6 ⟨c6, rfl, hc6, hb6⟩; refine kept_at hb6 w.heap.size (by go_size) fun c6_0 z6_0 s6_0 => ?_; refine kept_at hb6 w4.heap.size (by go_size) fun c6_1 z6_1 s6_1 => ?_; have k6 := kept_trans (a := w5) (by go_grown) hb6; have b6 := kept_trans b5 k6)
        | (go_at_call 15; refine (HX.out _ _ _ _ _ _ _ (CopyN_kept HC4.out k6) hc6).mono ?_; rintro e w7 ⟨rfl, hb7⟩; refine kept_at hb7 w.heap.size (by go_size) fun c7_0 z7_0 s7_0 => ?_; have b7 := kept_trans b6 hb7))
    | fail
  all_goals
    go_wp2_with fail
    refine (HT.out _ (RdP_kept H.out b7)).mono ?_
    rintro e w8 ⟨c8, rfl, hc8, hb8⟩
    have b8 := kept_trans b7 hb8
    obtain ⟨A8, cp8, rfl, _, _⟩ := RdP_slice (RowF_rd hc8)
    go_wp2_with fail
    refine (HV.out _ _ (RowF_rd hc8)).mono ?_
    rintro e w9 ⟨rfl, hb9⟩
    have b9 := kept_trans b8 hb9
    go_wp2
    go_ret
    exact ⟨rfl, b9⟩

end Go.Proofs.Ytonhndiflhbkiab
namespace Go.Proofs.Ytonhndiflhbkiab.fnExactDoubleAreaOf
open Go.ChangeShapes Go.WideShapes Go.ChangeAt Go.RowKit
set_option linter.unusedVariables false
set_option linter.unusedSimpArgs false
open Go.Joins Go.ChangeMaps
set_option maxRecDepth 100000 in
theorem lifted (os : Os) (started : os.Started) (H : Type) (enc : TypeId × Value → H) :
    ReturnsInHanded {} Try.checked os 5 .any (Rows.fnExactDoubleAreaOfSpec.pre6 enc Try.prog Try.f5 Rows.fnExactDoubleAreaOfRow.domain false) (Rows.fnExactDoubleAreaOfSpec.post enc Try.prog Try.f5 false true false false) := by
  refine returnsInHanded_of_change (C := Try.checked) (show ownKnob Try.prog.godebug = none by kernel_rfl) started (by kernel_rfl) Try.func5
    (ChangeSpec.witness6 (enc := enc) (C := Try.checked) false ⟨#[], #[.agg #[.int .i64 0, .int .i64 0, .int .i64 0, .slice none 0 0]], []⟩ 8 (by kernel_rfl) (by kernel_rfl) (by kernel_rfl) (by kernel_rfl)) ?_
  intro W base args ds gs before hval0 hW hcnd _
  have hval : ∀ (j : Nat) t v, Try.f5.params[j]? = some t → args[j]? = some v → Value.okWide Try.prog W .any base t v := hval0
  have hW' := hW
  obtain ⟨p, q, hA0, hV, rfl, hfz, hnd⟩ := hW
  have hA : DataW.TrodAll enc Try.prog W 0 (fun _ => true) true Try.f5.params.toList args.toList ds p := hA0
  rw [Try.params5] at hA hval
  obtain ⟨v0, vs0, d0, ds0, p0, q0, hargs, rfl, rfl, h0, r0⟩ := trodAll_cons hA
  obtain ⟨rfl, rfl, rfl⟩ := trodAll_nil r0
  obtain rfl : args = #[v0] := by cases args; simp_all
  obtain ⟨rfl, rfl⟩ := trodVars_none hV
  obtain ⟨k0, k0_c, rfl, hr0, wf0⟩ := open_zone (hval 0 24 v0 rfl rfl) h0
  clear hA0 hval0
  refine (walk_FnExactDoubleAreaOf (w := W) k0 k0_c hr0 wf0).mono fun e W' ⟨he, hb⟩ => ?_
  subst he
  exact ⟨_, rfl, law_post (B := 4) (by kernel_rfl) (by kernel_rfl) rfl Try.underlying4 rfl hW' rfl hb⟩

/-- The statement: for every input the law returns true, and the arguments read afterwards as before. -/
theorem proved : Rows.FnExactDoubleAreaOfSaid :=
  OpenClaim.holds_of_wide 5 Try.f5 rfl rfl rfl rfl rfl rfl rfl ⟨rfl, rfl, rfl, rfl, rfl⟩ rfl rfl rfl rfl rfl (by kernel_rfl) Try.func5 (by kernel_rfl)
    (of_decide_eq_true (by kernel_rfl)) (by unfold Func.isWrapper; first | (rw [if_pos (by decide +kernel)]; kernel_rfl) | (rw [if_neg (by decide +kernel)]; exact ⟨rfl, rfl⟩))
    (fun os started H enc _ => lifted os started H enc)
end Go.Proofs.Ytonhndiflhbkiab.fnExactDoubleAreaOf
