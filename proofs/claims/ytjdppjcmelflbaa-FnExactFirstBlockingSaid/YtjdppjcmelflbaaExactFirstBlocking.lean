/- Proved: for every input the law FnExactFirstBlocking returns true, and each argument reads afterwards as it read before; no condition beside those of the given row. -/
import Derived.Test.YtjdppjcmelflbaaRows
import Derived.WalkKit
import Derived.ProofKit
import Derived.OpenShut
import Derived.Lib.Hide
import Derived.Handy
import Derived.BigQuiet
import Derived.BigRegion
import Derived.Carry
import Derived.ChangeAlike
import Derived.Deep.DeepCutAuto
import Derived.Deep.QuietTactic
import Derived.Deep.RegionHeld3
import Derived.Deep.SlicePairs
import Derived.Lib.SmallJoins
import Derived.RegionTactic
import Derived.Shelf.Abstract
import Derived.StillTailTactics
import Derived.Lib.SmallJoins
import Derived.ChangeMaps5
namespace Go.Proofs.Ytjdppjcmelflbaa
open Go.ChangeShapes Go.WideShapes Go.ChangeAt Go.RowKit
set_option linter.unusedVariables false
set_option linter.unusedSimpArgs false

theorem tmod_pos (n k : Int) (h : 0 ≤ n) : n.tmod k = n % k := Int.tmod_eq_emod_of_nonneg h

theorem trodAll_stay {H : Type} {enc : TypeId × Value → H} {P : Program} (hl : laidOutB P = true) {W W' : World} (hb : Below W.heap.size W W') :
    ∀ (ts : List TypeId) (vs : List Value) (ds : List (DataW H)) (ps : List MemPlace), ts.all (fun t => P.readableRec t && decide (t < P.types.size)) = true →
      DataW.TrodAll enc P W 0 (fun _ => true) true ts vs ds ps → (∀ x ∈ ps, x.block < W.heap.size) →
      DataW.TrodAll enc P W' 0 (fun b => decide (b < W.heap.size)) true ts vs ds ps := by
  intro ts
  induction ts with
  | nil => intro vs ds ps _ h _; obtain ⟨rfl, rfl, rfl⟩ := trodAll_nil h; exact rfl
  | cons t ts ih =>
    intro vs ds ps hr h hlt
    simp only [List.all_cons, Bool.and_eq_true, decide_eq_true_eq] at hr
    obtain ⟨v, vs', d, ds', p, q, rfl, rfl, rfl, h0, h1⟩ := trodAll_cons h
    exact ⟨p, q, Below.trod hl hr.1.1 hr.1.2 h0 hb (fun x hx => hlt x (by simp [hx])), ih _ _ _ hr.2 h1 (fun x hx => hlt x (by simp [hx])), rfl⟩

/-- A law's row at its end: it returned true, and of what was there nothing has turned. -/
theorem law_post {H : Type} {enc : TypeId × Value → H} {P : Program} {f : Func} {s : ChangeSpec} {W W' : World} {args : Array Value} {ds gs : List (DataW H)} {before : List MemPlace} {B : TypeId}
    (hl : laidOutB P = true) (hr : f.params.toList.all (fun t => P.readableRec t && decide (t < P.types.size)) = true)
    (hres : f.resultTypes = #[B]) (hB : P.underlying B = some .bool) (hv : s.vars = [])
    (hW : DataW.Whole enc P f.params.toList s.vars false W args.toList ds gs before)
    (hfn : s.fn H (ds ++ gs) = { results := [.lit (.bool true)], args := ds }) (hb : Below W.heap.size W W') :
    s.post enc P f false true false false W args (.bool true) W' := by
  have hlt : ∀ p ∈ before, p.block < W.heap.size := fun p hp => hW.lt p hp
  have hW' := hW
  obtain ⟨p, q, hA, hV, rfl, _, _⟩ := hW'
  rw [hv] at hV
  obtain ⟨rfl, rfl⟩ := trodVars_none hV
  refine ⟨ds, [], p ++ [], [], p, [], hW, ?_, ?_, ?_, hb.frame _, fun h => by cases h⟩
  · rw [hfn, hres]
    exact trodAll_cons_mk (shut_bool hB _) trodAll_mk0
  · rw [hfn]
    exact trodAll_stay hl hb _ _ _ _ hr hA (fun x hx => hlt x (by simp [hx]))
  · rw [hfn, hv]
    exact rfl

theorem kept_cell {W w1 : World} (hb : Below W.heap.size W w1) (b o : Nat) (h : b < W.heap.size) : w1.cell? ⟨b, o, none⟩ = W.cell? ⟨b, o, none⟩ := hb.cell (p := ⟨b, o, none⟩) h

theorem kept_frozen {W w1 : World} (hb : Below W.heap.size W w1) (b o : Nat) (h : b < W.heap.size) : w1.frozen? ⟨b, o, none⟩ = W.frozen? ⟨b, o, none⟩ := hb.frozen (p := ⟨b, o, none⟩) h

theorem kept {W w1 : World} (hb : Below W.heap.size W w1) :
    (∀ b o, b < W.heap.size → w1.cell? ⟨b, o, none⟩ = W.cell? ⟨b, o, none⟩) ∧ (∀ b o, b < W.heap.size → w1.frozen? ⟨b, o, none⟩ = W.frozen? ⟨b, o, none⟩) ∧ W.heap.size ≤ w1.heap.size :=
  ⟨kept_cell hb, kept_frozen hb, hb.size⟩

theorem kept_trans {a b c : World} (h : Below a.heap.size a b) (k : Below b.heap.size b c) : Below a.heap.size a c := h.trans (k.mono h.size)

theorem kept_at {W w1 : World} (hb : Below W.heap.size W w1) (b : Nat) {G : Prop} (h : b < W.heap.size)
    (k : (∀ o, w1.cell? ⟨b, o, none⟩ = W.cell? ⟨b, o, none⟩) → (∀ o, w1.frozen? ⟨b, o, none⟩ = W.frozen? ⟨b, o, none⟩) → b < w1.heap.size → G) : G :=
  k (fun o => kept_cell hb b o h) (fun o => kept_frozen hb b o h) (Nat.lt_of_lt_of_le h hb.size)

theorem kept_drewN {B : Nat} {a w : World} (h : Below B a w) (n : Nat) : Below B a (w.drewN n) := { os := h.os, tape := h.tape, output := h.output, size := h.size, block := h.block }

theorem grown_step {a b c : World} {row : Option Nat} (h : a.grownBy b row) (k : b.grownBy c row) : a.grownBy c row :=
  ⟨k.os.trans h.os, k.tape.trans h.tape, k.output.trans h.output, Nat.le_trans h.size k.size, fun i hi hne => (k.block i (Nat.lt_of_lt_of_le hi h.size) hne).trans (h.block i hi hne)⟩

theorem grown_below {a b c : World} {row : Option Nat} (h : Below a.heap.size a b) (k : b.grownBy c row) (hr : ∀ g, row = some g → a.heap.size ≤ g) : Below a.heap.size a c := h.grown k h.size hr

theorem results_cell1 {fn : Func} {p : Tmp} {ty : TypeId} (h : fn.results = #[.cell p ty]) (tmps : Array Value) (P : Program) (w : World) :
    (results fn tmps).run P w = ((asAddr (tmps.getD p undef)).run P w).andThen fun a w₁ => (loadVar ty a).run P w₁ := by
  simp only [results, h]
  simp [Sem.run_bind, Result.andThen]

theorem grown_set (w : World) (a : Addr) (u : Value) : w.grownBy (w.setCell a u) (some a.block) :=
  ⟨rfl, rfl, rfl, by simp, fun k _ hk => heap_setCell_other w a k u (fun e => hk (by rw [e]))⟩

def inB (n low high : Int) : Bool := decide (low ≤ n) && decide (n ≤ high)

theorem in_any (n low high : Int) (w : World) :
    Calls Try.prog 84 #[.int .i64 n, .int .i64 low, .int .i64 high] w fun e w' => e = .returned (.bool (inB n low high)) ∧ w = w' := by
  unfold inB
  by_cases h1 : low ≤ n <;> by_cases h2 : n ≤ high <;>
  · go_enter Try.func84, Try.ntmps84
    go_wp2
    go_ret
    exact ⟨by simp [*], rfl⟩

theorem inB_true {n a b : Int} (h : inB n a b = true) : a ≤ n ∧ n ≤ b := by simpa [inB] using h

theorem inB_false {n a b : Int} (h : inB n a b = false) : ¬ (a ≤ n ∧ n ≤ b) := by simpa [inB] using h

def okP (x y : Int) : Bool := inB x (-10000) 10000 && inB y (-10000) 10000

theorem okP_true {x y : Int} (h : okP x y = true) : (-10000 ≤ x ∧ x ≤ 10000) ∧ -10000 ≤ y ∧ y ≤ 10000 := by
  simp only [okP, Bool.and_eq_true] at h
  exact ⟨inB_true h.1, inB_true h.2⟩

theorem specOk_any (x y : Int) (w : World) :
    Calls Try.prog 68 #[.agg #[.int .i64 x, .int .i64 y]] w fun e w' => e = .returned (.bool (okP x y)) ∧ Below w.heap.size w w' := by
  unfold okP
  cases h1 : inB x (-10000) 10000 <;>
  · go_enter Try.func68, Try.ntmps68
    go_wp2_with (go_at_call 84; refine (in_any _ _ _ _).mono ?_; rintro e w' ⟨rfl, rfl⟩)
    go_ret
    exact ⟨by simp, by go_grown⟩

theorem validPlace_any (x y : Int) (w : World) :
    Calls Try.prog 76 #[.agg #[.int .i64 x, .int .i64 y]] w fun e w' => e = .returned (.bool (okP x y)) ∧ Below w.heap.size w w' := by
  unfold okP inB
  rcases (show ¬ -10000 ≤ x ∨ (-10000 ≤ x ∧ ¬ x ≤ 10000) ∨ (-10000 ≤ x ∧ x ≤ 10000 ∧ ¬ -10000 ≤ y) ∨ (-10000 ≤ x ∧ x ≤ 10000 ∧ -10000 ≤ y ∧ ¬ y ≤ 10000) ∨ (-10000 ≤ x ∧ x ≤ 10000 ∧ -10000 ≤ y ∧ y ≤ 10000) from by omega) with h1 | ⟨h1, h2⟩ | ⟨h1, h2, h3⟩ | ⟨h1, h2, h3, h4⟩ | ⟨h1, h2, h3, h4⟩
  all_goals
    go_enter Try.func76, Try.ntmps76
    go_wp2
    go_ret
    exact ⟨by simp [*] <;> omega, by go_grown⟩

theorem toPoint_any (x y : Int) (w : World) :
    Calls Try.prog 29 #[.agg #[.int .i64 x, .int .i64 y]] w fun e w' => e = .returned (.agg #[.int .i64 x, .int .i64 y]) ∧ Below w.heap.size w w' := by
  go_enter Try.func29, Try.ntmps29
  go_wp2
  go_returns
  exact ⟨rfl, by go_grown⟩

theorem minus_any (x y u v : Int) (h1 : -20000 ≤ x ∧ x ≤ 20000) (h2 : -20000 ≤ y ∧ y ≤ 20000) (h3 : -20000 ≤ u ∧ u ≤ 20000) (h4 : -20000 ≤ v ∧ v ≤ 20000) (w : World) :
    Calls Try.prog 143 #[.agg #[.int .i64 x, .int .i64 y], .agg #[.int .i64 u, .int .i64 v]] w fun e w' => e = .returned (.agg #[.int .i64 (x - u), .int .i64 (y - v)]) ∧ Below w.heap.size w w' := by
  go_enter Try.func143, Try.ntmps143
  go_wp2
  go_returns
  exact ⟨rfl, by go_grown⟩

theorem own_kept {W w1 : World} {base : Nat} {e : TypeId} {size : Nat} {v : Value} {n : Nat} {xs : List Value} (h : W.ownsRow base e size v n xs) (hb : Below W.heap.size W w1) : w1.ownsRow base e size v n xs := by
  refine ⟨h.1, ?_⟩
  rcases h.2 with h2 | ⟨g, cap, cur, hv, hg, hh, r⟩
  · exact Or.inl h2
  · refine Or.inr ⟨g, cap, cur, hv, hg, ?_, r⟩
    rw [hb.block g (h.lt g (by rw [hv]; rfl)).2]
    exact hh

theorem eqPoint_same (x y : Int) (w : World) :
    Calls Try.prog 144 #[.agg #[.int .i64 x, .int .i64 y], .agg #[.int .i64 x, .int .i64 y]] w fun e w' => e = .returned (.bool true) ∧ Below w.heap.size w w' := by
  go_enter Try.func144, Try.ntmps144
  go_wp2
  go_ret
  exact ⟨rfl, by go_grown⟩

theorem flat_len {α : Type} {enc : α → List Value} {sz : Nat} (h : ∀ z, (enc z).length = sz) (zs : List α) : (zs.flatMap enc).length = zs.length * sz := by
  induction zs with
  | nil => simp
  | cons z zs ih => rw [List.flatMap_cons, List.length_append, ih, h, List.length_cons, Nat.add_mul]; omega

theorem flat_at {α : Type} {enc : α → List Value} {sz : Nat} (h : ∀ z, (enc z).length = sz) (zs : List α) (k j : Nat) (hk : k < zs.length) (hj : j < sz) : (zs.flatMap enc)[k * sz + j]? = (enc zs[k])[j]? := by
  induction zs generalizing k with
  | nil => simp at hk
  | cons z zs ih =>
    cases k with
    | zero => rw [List.flatMap_cons, List.getElem?_append_left (by rw [h]; omega)]; simp
    | succ k =>
      have e : (k + 1) * sz + j - (enc z).length = k * sz + j := by rw [h, Nat.add_mul]; omega
      rw [List.flatMap_cons, List.getElem?_append_right (by rw [h, Nat.add_mul]; omega), e, ih k (by simpa using hk)]
      simp

/-- The slice value reads as n elements of sz cells each, cell for cell. -/
def RdF (w : World) (v : Value) (n sz : Nat) (xs : List Value) : Prop :=
  n ≤ 9223372036854775807 ∧ xs.length = n * sz ∧ ∃ A c, v = .slice A n c ∧ ∀ i, i < n * sz → ∃ b off, A = some ⟨b, off, none⟩ ∧ b < w.heap.size ∧ w.cell? ⟨b, off + i, none⟩ = xs[i]?

theorem RdF_kept {W w1 : World} {v : Value} {n sz : Nat} {xs : List Value} (h : RdF W v n sz xs) (hb : Below W.heap.size W w1) : RdF w1 v n sz xs := by
  obtain ⟨hl, hx, A, c, rfl, hr⟩ := h
  refine ⟨hl, hx, A, c, rfl, fun k hk => ?_⟩
  obtain ⟨b, off, e, hlt, hc⟩ := hr k hk
  exact ⟨b, off, e, Nat.lt_of_lt_of_le hlt hb.size, by rw [kept_cell hb b _ hlt]; exact hc⟩

/-- A row of elements of the call's own (type e, sz cells each), in a block from lo on and below hi. -/
def RowF (e sz : Nat) (w : World) (lo hi : Nat) (v : Value) (n : Nat) (xs : List Value) : Prop :=
  w.ownsRow lo e sz v n xs ∧ ∀ g, v.ownBlock = some g → lo ≤ g ∧ g < hi

theorem RowF_nil (e sz : Nat) (w : World) (lo hi : Nat) : RowF e sz w lo hi (.slice none 0 0) 0 [] := ⟨World.ownsRow_nil _ _ _ _, fun g h => by simp [Value.ownBlock] at h⟩

theorem RowF_form {e sz : Nat} {w : World} {lo hi : Nat} {v : Value} {n : Nat} {xs : List Value} (h : RowF e sz w lo hi v n xs) :
    (n = 0 ∧ xs = [] ∧ v = .slice none 0 0) ∨ ∃ g cap, v = .slice (some ⟨g, 0, none⟩) n cap ∧ lo ≤ g ∧ g < hi ∧ g < w.heap.size ∧ n ≤ cap ∧ cap ≤ maxLen := by
  rcases h.1.2 with ⟨h1, h2⟩ | ⟨g, cap, cur, rfl, hg, hh, h3, h4, _⟩
  · exact Or.inl ⟨h2, List.eq_nil_of_length_eq_zero (by rw [h.1.1, h2, Nat.zero_mul]), h1⟩
  · exact Or.inr ⟨g, cap, rfl, hg, (h.2 g rfl).2, (h.1.lt g rfl).2, h3, h4⟩

theorem RowF_rd {e sz : Nat} {w : World} {lo hi : Nat} {v : Value} {n : Nat} {xs : List Value} (h : RowF e sz w lo hi v n xs) : RdF w v n sz xs := by
  rcases RowF_form h with ⟨rfl, rfl, rfl⟩ | ⟨g, cap, rfl, _, _, hlt, h3, h4⟩
  · exact ⟨by simp, by simp, none, 0, rfl, fun k hk => by simp at hk⟩
  · unfold maxLen at h4
    refine ⟨by omega, h.1.1, some ⟨g, 0, none⟩, cap, rfl, fun k hk => ⟨g, 0, rfl, hlt, ?_⟩⟩
    rw [Nat.zero_add, h.1.cellAt k hk]

theorem RowF_kept {e sz : Nat} {W w1 : World} {lo hi : Nat} {v : Value} {n : Nat} {xs : List Value} (h : RowF e sz W lo hi v n xs) (hb : Below W.heap.size W w1) : RowF e sz w1 lo hi v n xs := ⟨own_kept h.1 hb, h.2⟩

theorem RowF_far {e sz : Nat} {W w1 : World} {lo hi : Nat} {v : Value} {n : Nat} {xs : List Value} {row : Option Nat} (h : RowF e sz W lo hi v n xs) (hg : W.grownBy w1 row) (hr : ∀ g, row = some g → g < lo ∨ hi ≤ g) : RowF e sz w1 lo hi v n xs := by
  refine ⟨h.1.kept hg ?_, h.2⟩
  rcases hv : v.ownBlock with _ | g
  · exact Or.inl rfl
  · refine Or.inr (fun e => ?_)
    have h1 := h.2 g hv
    have h2 := hr g e.symm
    omega

/-- The first elements of a row. -/
theorem RowF_short {e sz : Nat} {w : World} {lo hi g cap m n : Nat} {xs : List Value} (h : RowF e sz w lo hi (.slice (some ⟨g, 0, none⟩) m cap) m xs) (hn : n ≤ m) :
    RowF e sz w lo hi (.slice (some ⟨g, 0, none⟩) n cap) n (xs.take (n * sz)) := by
  refine ⟨⟨?_, ?_⟩, fun g' hg' => h.2 g' hg'⟩
  · rw [List.length_take, h.1.1]
    have := Nat.mul_le_mul_right sz hn
    omega
  · rcases h.1.2 with ⟨h1, h2⟩ | ⟨g', cap', cur, h1, hg, hh, h3, h4, h5, h6⟩
    · simp at h1
    · simp only [Value.slice.injEq, Option.some.injEq, Addr.mk.injEq, and_true, true_and] at h1
      obtain ⟨rfl, rfl⟩ := h1
      refine Or.inr ⟨g, cap, cur, rfl, hg, hh, by omega, h4, h5, ?_⟩
      rw [← h6, List.take_take]
      congr 1
      have := Nat.mul_le_mul_right sz hn
      omega

theorem RowF_lo {e sz : Nat} {w : World} {lo lo' hi hi' : Nat} {v : Value} {n : Nat} {xs : List Value} (h : RowF e sz w lo hi v n xs) (hl : lo' ≤ lo) (hh : hi ≤ hi') : RowF e sz w lo' hi' v n xs :=
  ⟨Joins.ownsRow_le h.1 hl, fun g hg => ⟨by have := (h.2 g hg).1; omega, by have := (h.2 g hg).2; omega⟩⟩

theorem RowF_set {e sz : Nat} {w : World} {lo hi b o n : Nat} {v u : Value} {xs : List Value} (h : RowF e sz w lo hi v n xs) (hb : b < lo) : RowF e sz (w.setCell ⟨b, o, none⟩ u) lo hi v n xs :=
  RowF_far h (grown_set _ _ _) (fun g hg => by simp at hg; omega)

/-- A pair of numbers, cell by cell. -/
def encP (z : Int × Int) : List Value := [.int .i64 z.1, .int .i64 z.2]

def flatP (zs : List (Int × Int)) : List Value := zs.flatMap encP

theorem flatP_len (zs : List (Int × Int)) : (flatP zs).length = zs.length * 2 := flat_len (enc := encP) (fun _ => rfl) zs

theorem flatP_at (zs : List (Int × Int)) (k : Nat) (h : k < zs.length) : (flatP zs)[k * 2]? = some (.int .i64 zs[k].1) ∧ (flatP zs)[k * 2 + 1]? = some (.int .i64 zs[k].2) :=
  ⟨flat_at (enc := encP) (sz := 2) (fun _ => rfl) zs k 0 h (by omega), flat_at (enc := encP) (sz := 2) (fun _ => rfl) zs k 1 h (by omega)⟩

/-- The slice value reads as a list of pairs of numbers. -/
def RdP (w : World) (v : Value) (zs : List (Int × Int)) : Prop := RdF w v zs.length 2 (flatP zs)

theorem RdP_kept {W w1 : World} {v : Value} {zs : List (Int × Int)} (h : RdP W v zs) (hb : Below W.heap.size W w1) : RdP w1 v zs := RdF_kept h hb

theorem RdP_slice {w : World} {v : Value} {zs : List (Int × Int)} (h : RdP w v zs) : ∃ A c, v = .slice A zs.length c ∧ zs.length ≤ 9223372036854775807 ∧
    ∀ k, (hk : k < zs.length) → ∃ b off, A = some ⟨b, off, none⟩ ∧ b < w.heap.size ∧ w.cell? ⟨b, off + k * 2, none⟩ = some (.int .i64 zs[k].1) ∧ w.cell? ⟨b, off + k * 2 + 1, none⟩ = some (.int .i64 zs[k].2) := by
  obtain ⟨hl, hx, A, c, rfl, hr⟩ := h
  refine ⟨A, c, rfl, hl, fun k hk => ?_⟩
  obtain ⟨b, off, rfl, hlt, h0⟩ := hr (k * 2) (by omega)
  obtain ⟨b', off', e, _, h1⟩ := hr (k * 2 + 1) (by omega)
  simp only [Option.some.injEq, Addr.mk.injEq, and_true] at e
  obtain ⟨rfl, rfl⟩ := e
  rw [(flatP_at zs k hk).1] at h0
  rw [(flatP_at zs k hk).2, ← Nat.add_assoc] at h1
  exact ⟨b, off, rfl, hlt, h0, h1⟩

def roomL (n : Nat) : Nat := if n % 6 = 5 then 0 else if n % 3 = 0 then 1 else n

theorem roomL_le (n : Nat) : roomL n ≤ n + 1 := by
  unfold roomL
  split
  · omega
  · split <;> omega

theorem room_any (n : Nat) (hn : n ≤ 9223372036854775807) (w : World) :
    Calls Try.prog 72 #[.int .i64 n] w fun e w' => e = .returned (.int .i64 (roomL n : Nat)) ∧ w = w' := by
  unfold roomL
  have e6 : (n : Int).tmod 6 = ((n % 6 : Nat) : Int) := by rw [tmod_pos _ _ (by omega)]; omega
  have e3 : (n : Int).tmod 3 = ((n % 3 : Nat) : Int) := by rw [tmod_pos _ _ (by omega)]; omega
  by_cases h6 : n % 6 = 5
  · rw [h6] at e6
    go_enter Try.func72, Try.ntmps72
    go_wp2
    go_ret
    exact ⟨by simp [h6], rfl⟩
  · have d6 : ((n : Int).tmod 6 == 5) = false := by rw [e6]; simp; omega
    by_cases h3 : n % 3 = 0
    · rw [h3] at e3
      go_enter Try.func72, Try.ntmps72
      go_wp2
      go_ret
      exact ⟨by simp [h6, h3], rfl⟩
    · have d3 : ((n : Int).tmod 3 == 0) = false := by rw [e3]; simp; omega
      go_enter Try.func72, Try.ntmps72
      go_wp2
      go_ret
      exact ⟨by simp [h6, h3], rfl⟩

def fillP : Int × Int := (-7000000000000000101, -7000000000000000101)

theorem flatP_set (l : List (Int × Int)) (j : Nat) (x y : Int) : ((flatP l).set (j * 2) (.int .i64 x)).set (j * 2 + 1) (.int .i64 y) = flatP (l.set j (x, y)) := by
  induction l generalizing j with
  | nil => simp [flatP]
  | cons z l ih =>
    cases j with
    | zero => simp [flatP, encP]
    | succ j =>
      have := ih j
      simp only [flatP, encP, List.flatMap_cons, List.cons_append, List.nil_append, Nat.succ_mul, List.set_cons_succ] at this ⊢
      rw [this]

theorem fill_step {α : Type} (T : List α) (z : α) (j : Nat) (h : j < T.length) : (T.take j ++ List.replicate (T.length - j) z).set j T[j] = T.take (j + 1) ++ List.replicate (T.length - (j + 1)) z := by
  obtain ⟨m, hm⟩ : ∃ m, T.length - j = m + 1 := ⟨T.length - j - 1, by omega⟩
  rw [hm, show T.length - (j + 1) = m by omega, List.replicate_succ, List.set_append, if_neg (by simp; omega), List.length_take, Nat.min_eq_left (by omega), Nat.sub_self, List.set_cons_zero, ← List.take_append_getElem h, List.append_assoc]
  rfl

/-- What a copy's block holds: the list, and behind it the filler. -/
def copyT (zs : List (Int × Int)) : List (Int × Int) := zs ++ List.replicate (roomL zs.length) fillP

theorem copyT_len (zs : List (Int × Int)) : (copyT zs).length = zs.length + roomL zs.length := by simp [copyT]

theorem made_flat (n : Nat) : (madeCells #[.int .i64 0, .int .i64 0] (n * 2)).toList = flatP (List.replicate n (0, 0)) := by
  apply List.ext_getElem?
  intro j
  by_cases hj : j < n * 2
  · have h := flatP_at (List.replicate n ((0 : Int), (0 : Int))) (j / 2) (by simp; omega)
    simp only [List.getElem_replicate] at h
    rcases Nat.mod_two_eq_zero_or_one j with hp | hp
    · rw [show j / 2 * 2 = j by omega] at h
      rw [h.1]
      simp [madeCells, hj, hp]
    · rw [show j / 2 * 2 + 1 = j by omega] at h
      rw [h.2]
      simp [madeCells, hj, hp]
  · rw [List.getElem?_eq_none (by rw [Array.length_toList, size_madeCells]; omega), List.getElem?_eq_none (by rw [flatP_len]; simp; omega)]

theorem copyT_at (zs : List (Int × Int)) (j : Nat) : (h : j < zs.length) → (copyT zs)[j]'(by rw [copyT_len]; omega) = zs[j] := by
  intro h
  simp [copyT, h]

theorem copyT_fill (zs : List (Int × Int)) (j : Nat) (h : zs.length ≤ j) : (h2 : j < (copyT zs).length) → (copyT zs)[j] = fillP := by
  intro h2
  simp [copyT, h]

theorem below_drew {B : Nat} {a w : World} (h : Below B a w) : Below B a w.drew := { os := h.os, tape := h.tape, output := h.output, size := h.size, block := h.block }

/-- Cells that read as a slice of structs of two numbers. -/
theorem open_pairsC {H : Type} {enc : TypeId × Value → H} {P : Program} {W : World} {t e : TypeId} {f0 f1 : Field} {base fuel : Nat} {sp : Nat → Bool} {held : Bool} {cs : List Value} {z : DataW H × List MemPlace}
    (ht : P.underlying t = some (.slice e)) (he : P.underlying e = some (.struct #[f0, f1])) (i0 : P.underlying f0.type = some (.int .i64)) (i1 : P.underlying f1.type = some (.int .i64))
    (ce : P.cellsOf e = 2) (o0 : f0.offset = 0) (o1 : f1.offset = 1) (c0 : P.cellsOf f0.type = 1) (c1 : P.cellsOf f1.type = 1)
    (h : DataW.trod enc P W base sp held fuel t cs = some z) :
    ∃ (v : Value) (zs : List (Int × Int)), cs = [v] ∧ RdP W v zs := by
  rcases Deep.open_slice_pairs ht he ce o0 o1 c0 c1 h with ⟨hcs, hx⟩ | ⟨a, len, cap, m, n, V0, V1, D0, D1, P0, P1, hcs, _, hl, hm, hmm, hx, hi⟩
  · exact ⟨_, [], hcs, ⟨by simp, rfl, none, 0, rfl, fun i hi => by simp at hi⟩⟩
  · have hlm : len ≤ m := by rw [hmm]; split <;> omega
    have each : ∀ i, i < len → ∃ q : Int × Int, V0 i = .int .i64 q.1 ∧ V1 i = .int .i64 q.2 := by
      intro i hlt
      obtain ⟨_, _, g0, g1⟩ := hi i (by omega)
      obtain ⟨x, e0, _, w0⟩ := DataW.trod_int i0 g0
      obtain ⟨y, e1, _, w1⟩ := DataW.trod_int i1 g1
      simp at e0 e1
      exact ⟨(x, y), e0, e1⟩
    obtain ⟨q, hq⟩ := Deep.choose_lt each
    obtain ⟨b, off, spot⟩ := a
    refine ⟨_, (List.range len).map q, hcs, ⟨by simp; unfold maxLen at hm; omega, by rw [flatP_len], some ⟨b, off, spot⟩, cap, by simp, fun j hj => ?_⟩⟩
    simp only [List.length_map, List.length_range] at hj
    obtain ⟨h0, h1, _, _⟩ := hi (j / 2) (by omega)
    have hspot : spot = none := by simpa [Addr.add] using World.cell?_spot (hi 0 (by omega)).1
    subst hspot
    rw [add_plain] at h0 h1
    have hat := flatP_at ((List.range len).map q) (j / 2) (by simp; omega)
    simp only [List.getElem_map, List.getElem_range] at hat
    rw [← (hq (j / 2) (by omega)).1, ← (hq (j / 2) (by omega)).2] at hat
    refine ⟨b, off, rfl, World.block_lt_of_cell? _ _ h0, ?_⟩
    rcases Nat.mod_two_eq_zero_or_one j with hp | hp
    · have e : j / 2 * 2 = j := by omega
      rw [e] at hat h0
      rw [hat.1, ← h0]
    · have e : j / 2 * 2 + 1 = j := by omega
      rw [e] at hat h1
      rw [hat.2, ← h1]

/-- A datum that is a list of n elements. -/
def DataLen {H : Type} (d : DataW H) (n : Nat) : Prop := (d = .nil ∧ n = 0) ∨ ∃ es rs, d = .slice es rs ∧ es.length = n

theorem szN_any (A : Option Addr) (n c : Nat) (left : Int) (h : 0 ≤ left ∧ left ≤ 1000000) (hn : n ≤ 9223372036854775807) (w : World) :
    Calls Try.prog 104 #[.slice A n c, .int .i64 left] w fun e w' => e = .returned (.int .i64 (if (n : Int) ≤ left then left - n else -1)) ∧ w = w' := by
  by_cases h1 : (n : Int) ≤ left
  · rw [if_pos h1]
    go_enter Try.func104, Try.ntmps104
    go_wp2
    go_ret
    exact ⟨rfl, rfl⟩
  · rw [if_neg h1]
    go_enter Try.func104, Try.ntmps104
    go_wp2
    go_ret
    exact ⟨rfl, rfl⟩

theorem fillPtN_any (w : World) :
    Calls Try.prog 110 #[] w fun e w' => e = .returned (.agg #[.int .i64 fillP.1, .int .i64 fillP.2]) ∧ Below w.heap.size w w' := by
  unfold fillP
  go_enter Try.func110, Try.ntmps110
  go_wp2
  go_returns
  exact ⟨rfl, by go_grown⟩

theorem info_point : (Try.prog.info? 56).map (fun i => (i.zero, i.size, i.bytes)) = some (some (.agg #[.int .i64 0, .int .i64 0]), 2, 16) := by kernel_rfl

theorem eqN_same (v1 v2 : Value) (zs : List (Int × Int)) (w : World) (h1 : RdP w v1 zs) (h2 : RdP w v2 zs) :
    Calls Try.prog 135 #[v1, v2] w fun e w' => e = .returned (.bool true) ∧ Below w.heap.size w w' := by
  obtain ⟨A, c, rfl, hl, r1⟩ := RdP_slice h1
  obtain ⟨A2, c2, rfl, _, r2⟩ := RdP_slice h2
  clear h1 h2
  have R1 := Lib.hid r1; clear r1
  have R2 := Lib.hid r2; clear r2
  go_enter Try.func135, Try.ntmps135
  go_wp2_with fail
  go_loopw [5] (fun i wr => ∃ k : Nat, k ≤ zs.length ∧ i = .int .i64 k ∧ Below w.heap.size w wr) (fun i _ => zs.length - (intOf i).toNat)
  case atStart => exact ⟨0, by omega, rfl, Below.refl _ _⟩
  case round =>
    obtain ⟨k, hk, rfl, hb⟩ := hrel
    by_cases hlt : k < zs.length
    · obtain ⟨b, off, rfl, hbl, hc0, hc1⟩ := R1.out k hlt
      obtain ⟨b2, off2, rfl, hbl2, hd0, hd1⟩ := R2.out k hlt
      rw [← kept_cell hb b _ hbl] at hc0 hc1
      rw [← kept_cell hb b2 _ hbl2] at hd0 hd1
      generalize zs[k].1 = x at *
      generalize zs[k].2 = y at *
      have hsz := hb.size
      have hbl' := Nat.lt_of_lt_of_le hbl hsz
      have hbl2' := Nat.lt_of_lt_of_le hbl2 hsz
      go_wp2_with fail
      go_region_held3 (fun w' => w'.cell? ⟨b, off + k * 2, none⟩ = some (.int .i64 x) ∧ w'.cell? ⟨b, off + k * 2 + 1, none⟩ = some (.int .i64 y) ∧ w'.cell? ⟨b2, off2 + k * 2, none⟩ = some (.int .i64 x) ∧ w'.cell? ⟨b2, off2 + k * 2 + 1, none⟩ = some (.int .i64 y)) (go_keep)
        ((go_at_call 144; refine (eqPoint_same _ _ _).mono ?_; rintro e w1 ⟨rfl, hb1⟩; replace hb1 := kept_trans (a := wr) (by go_grown) hb1; have hcl := kept_cell hb1))
      go_wp2
      go_roundw
      case rel => exact ⟨k + 1, by omega, by go_num, kept_trans hb (by assumption)⟩
      case measure => simp [intOf]; omega
    · have : k = zs.length := by omega
      subst this
      go_wp2
      go_ret
      exact ⟨rfl, hb⟩

/-- A copy of a list of steps that the law made: the whole block is a row of the call's own. -/
def CopyN (w : World) (lo hi : Nat) (v : Value) (zs : List (Int × Int)) : Prop :=
  zs.length ≤ 1000000 ∧ ∃ g, v = .slice (some ⟨g, 0, none⟩) zs.length (copyT zs).length ∧ RowF 56 2 w lo hi (.slice (some ⟨g, 0, none⟩) (copyT zs).length (copyT zs).length) (copyT zs).length (flatP (copyT zs))

theorem CopyN_kept {W w1 : World} {lo hi : Nat} {v : Value} {zs : List (Int × Int)} (h : CopyN W lo hi v zs) (hb : Below W.heap.size W w1) : CopyN w1 lo hi v zs := by
  obtain ⟨hl, g, e, hr⟩ := h
  exact ⟨hl, g, e, RowF_kept hr hb⟩

theorem CopyN_row {w : World} {lo hi : Nat} {v : Value} {zs : List (Int × Int)} (h : CopyN w lo hi v zs) : RowF 56 2 w lo hi v zs.length (flatP zs) := by
  obtain ⟨hl, g, rfl, hr⟩ := h
  have := RowF_short hr (n := zs.length) (by rw [copyT_len]; omega)
  have e : (flatP (copyT zs)).take (zs.length * 2) = flatP zs := by
    rw [show flatP (copyT zs) = flatP zs ++ flatP (List.replicate (roomL zs.length) fillP) by simp [flatP, copyT]]
    rw [← flatP_len, List.take_left]
  rwa [e] at this

theorem CopyN_rd {w : World} {lo hi : Nat} {v : Value} {zs : List (Int × Int)} (h : CopyN w lo hi v zs) : RdP w v zs := RowF_rd (CopyN_row h)

theorem make_points (n : Nat) (h : n ≤ 4000000) (w : World) :
    (Instr.makeSlice 98 (.int .i64 (n : Int)) (.int .i64 (n : Int))).run Try.prog w = .ok (.slice (some ⟨w.heap.size, 0, none⟩) n n) (w.alloc (.cells (madeCells #[.int .i64 0, .int .i64 0] (n * 2)) 56)) := by
  obtain ⟨i, hi, hz, hs, hb⟩ := info_parts info_point
  have hb' : (i.bytes : Int) * (n : Int) ≤ 281474976710656 := by rw [hb]; omega
  have hr := run_make (P := Try.prog) w 98 56 i (.agg #[.int .i64 0, .int .i64 0]) Try.underlying98 hi hz .i64 .i64 n n (by omega) (Int.le_refl _) hb' (by omega)
  simp only [Int.toNat_natCast, hs] at hr
  exact hr

theorem toN_row (v : Value) (zs : List (Int × Int)) (bare : Bool) (w : World) (h : RdP w v zs) (hn : zs.length ≤ 1000000) (hbare : bare = false ∨ zs ≠ []) :
    Calls Try.prog 109 #[v, .bool bare] w fun e w' => ∃ v', e = .returned v' ∧ CopyN w' w.heap.size w'.heap.size v' zs ∧ Below w.heap.size w w' := by
  obtain ⟨A, c, rfl, hl, r1⟩ := RdP_slice h
  clear h
  have R := Lib.hid r1; clear r1
  have hN := copyT_len zs
  have hr := roomL_le zs.length
  have hmk : ∀ w : World, (Instr.makeSlice 98 (.int .i64 ((zs.length : Int) + (roomL zs.length : Int))) (.int .i64 ((zs.length : Int) + (roomL zs.length : Int)))).run Try.prog w = .ok (.slice (some ⟨w.heap.size, 0, none⟩) (copyT zs).length (copyT zs).length) (w.alloc (.cells (madeCells #[.int .i64 0, .int .i64 0] ((copyT zs).length * 2)) 56)) := by
    intro w
    have := make_points (copyT zs).length (by omega) w
    rwa [show (((copyT zs).length : Nat) : Int) = (zs.length : Int) + (roomL zs.length : Int) by omega] at this
  have hcap : (copyT zs).length ≤ maxLen := by unfold maxLen; omega
  have hrow0 : ∀ wa : World, w.heap.size ≤ wa.heap.size → (wa.alloc (.cells (madeCells #[.int .i64 0, .int .i64 0] ((copyT zs).length * 2)) 56)).ownsRow w.heap.size 56 2 (.slice (some ⟨wa.heap.size, 0, none⟩) (copyT zs).length (copyT zs).length) (copyT zs).length (flatP ((copyT zs).take 0 ++ List.replicate ((copyT zs).length - 0) (0, 0))) := by
    intro wa hwa
    have := World.ownsRow_lit wa (e := 56) (size := 2) (madeCells #[.int .i64 0, .int .i64 0] ((copyT zs).length * 2)) (copyT zs).length hwa hcap (size_madeCells _ _)
    rw [made_flat] at this
    simpa using this
  have Hrow := Lib.hid hrow0; clear hrow0
  have hb0 : bare = true → ((zs.length : Int) == 0) = false := by
    intro hb
    have : zs.length ≠ 0 := fun h => by
      rcases hbare with h1 | h1
      · rw [hb] at h1; cases h1
      · exact h1 (List.eq_nil_of_length_eq_zero h)
    simpa using this
  clear hbare
  generalize hNN : (copyT zs).length = N at *
  have HNN := Lib.hid hNN; clear hNN
  have hNb : N ≤ 2000002 ∧ zs.length ≤ N := by omega
  have HN := Lib.hid hN; clear hN
  cases bare
  all_goals
    have hbn := hb0
    simp only [forall_const, reduceCtorEq, false_implies, Bool.false_eq_true] at hbn
    clear hb0
    go_enter Try.func109, Try.ntmps109
    go_wp2_with (go_at_call 72; refine (room_any _ (by omega) _).mono ?_; rintro e w1 ⟨rfl, rfl⟩)
    go_loopw [6] (fun i wr => ∃ j : Nat, j ≤ zs.length ∧ i = .int .i64 j ∧ wr.ownsRow w.heap.size 56 2 (.slice (some ⟨w.heap.size, 0, none⟩) N N) N (flatP ((copyT zs).take j ++ List.replicate (N - j) (0, 0))) ∧ Below w.heap.size w wr) (fun i _ => zs.length - (intOf i).toNat)
    case atStart => exact ⟨0, by omega, rfl, Hrow.out w (Nat.le_refl _), by go_grown⟩
    case round =>
      obtain ⟨j, hj, rfl, hown, hb⟩ := hrel
      have hsz := hb.size
      by_cases hlt : j < zs.length
      · obtain ⟨b, off, rfl, hbl, hc0, hc1⟩ := R.out j hlt
        rw [← kept_cell hb b _ hbl] at hc0 hc1
        go_wp2_with fail
        refine (toPoint_any _ _ _).mono ?_
        rintro e w1 ⟨rfl, hb1⟩
        have hown1 := own_kept hown hb1
        have hlen : (flatP ((copyT zs).take j ++ List.replicate (N - j) (0, 0))).length = N * 2 := hown.1
        obtain ⟨u0, hu0⟩ : ∃ u, w1.cell? ⟨w.heap.size, j * 2, none⟩ = some u := by
          rw [hown1.cellAt _ (by omega)]
          exact ⟨_, List.getElem?_eq_getElem (by omega)⟩
        obtain ⟨u1, hu1⟩ : ∃ u, w1.cell? ⟨w.heap.size, j * 2 + 1, none⟩ = some u := by
          rw [hown1.cellAt _ (by omega)]
          exact ⟨_, List.getElem?_eq_getElem (by omega)⟩
        have hz0 := hown1.frozenAt (j * 2)
        have hz1 := hown1.frozenAt (j * 2 + 1)
        have hs0 := hown1.stored (j * 2) (.int .i64 zs[j].1)
        have hs1 := hs0.1.stored (j * 2 + 1) (.int .i64 zs[j].2)
        rw [flatP_set] at hs1
        have hstep := fill_step (copyT zs) (0, 0) j (by rw [HNN.out]; omega)
        rw [copyT_at zs j hlt, HNN.out] at hstep
        rw [show ((zs[j].1, zs[j].2) : Int × Int) = zs[j] from rfl, hstep] at hs1
        have Hs := Lib.hid hs1.1
        have Hg := Lib.hid (grown_step hs0.2 hs1.2)
        clear hs0 hs1 hstep hown hown1 hlen
        go_wp2
        go_roundw
        case rel => exact ⟨j + 1, by omega, by go_num, Hs.out, grown_below (kept_trans hb hb1) Hg.out (fun g hg => by simp at hg; omega)⟩
        case measure => simp [intOf]; omega
      · have : j = zs.length := by omega
        subst this
        go_wp2_with fail
        go_loopw [7] (fun i wr => ∃ j : Nat, zs.length ≤ j ∧ j ≤ N ∧ i = .int .i64 j ∧ wr.ownsRow w.heap.size 56 2 (.slice (some ⟨w.heap.size, 0, none⟩) N N) N (flatP ((copyT zs).take j ++ List.replicate (N - j) (0, 0))) ∧ Below w.heap.size w wr) (fun i _ => N - (intOf i).toNat)
        case atStart => exact ⟨zs.length, by omega, by omega, rfl, hown, hb⟩
        case round =>
          obtain ⟨j, hj0, hj, rfl, hown, hb⟩ := hrel
          have hsz := hb.size
          by_cases hlt : j < N
          · go_wp2_with fail
            refine (fillPtN_any _).mono ?_
            rintro e w1 ⟨rfl, hb1⟩
            have hown1 := own_kept hown hb1
            have hlen : (flatP ((copyT zs).take j ++ List.replicate (N - j) (0, 0))).length = N * 2 := hown.1
            obtain ⟨u0, hu0⟩ : ∃ u, w1.cell? ⟨w.heap.size, j * 2, none⟩ = some u := by
              rw [hown1.cellAt _ (by omega)]
              exact ⟨_, List.getElem?_eq_getElem (by omega)⟩
            obtain ⟨u1, hu1⟩ : ∃ u, w1.cell? ⟨w.heap.size, j * 2 + 1, none⟩ = some u := by
              rw [hown1.cellAt _ (by omega)]
              exact ⟨_, List.getElem?_eq_getElem (by omega)⟩
            have hz0 := hown1.frozenAt (j * 2)
            have hz1 := hown1.frozenAt (j * 2 + 1)
            have hs0 := hown1.stored (j * 2) (.int .i64 fillP.1)
            have hs1 := hs0.1.stored (j * 2 + 1) (.int .i64 fillP.2)
            rw [flatP_set] at hs1
            have hstep := fill_step (copyT zs) (0, 0) j (by rw [HNN.out]; omega)
            rw [copyT_fill zs j hj0 (by rw [HNN.out]; omega), HNN.out] at hstep
            rw [show ((fillP.1, fillP.2) : Int × Int) = fillP from rfl, hstep] at hs1
            have Hs := Lib.hid hs1.1
            have Hg := Lib.hid (grown_step hs0.2 hs1.2)
            clear hs0 hs1 hstep hown hown1 hlen
            go_wp2
            go_roundw
            case rel => exact ⟨j + 1, by omega, by omega, by go_num, Hs.out, grown_below (kept_trans hb hb1) Hg.out (fun g hg => by simp at hg; omega)⟩
            case measure => simp [intOf]; omega
          · have : j = N := by omega
            subst this
            have Hown := Lib.hid hown; clear hown
            go_wp2
            go_ret
            have hT : (copyT zs).take j ++ List.replicate (j - j) (0, 0) = copyT zs := by rw [List.take_of_length_le (by rw [HNN.out]; exact Nat.le_refl _)]; simp
            refine ⟨_, rfl, ⟨hn, w.heap.size, by rw [HNN.out]; rfl, ?_⟩, hb⟩
            rw [HNN.out, ← hT]
            exact ⟨Hown.out, fun g hg => by simp [Value.ownBlock] at hg; subst hg; exact ⟨Nat.le_refl _, (Hown.out.lt _ rfl).2⟩⟩

theorem toN_false (v : Value) (zs : List (Int × Int)) (w : World) (h : RdP w v zs) (hn : zs.length ≤ 1000000) :
    Calls Try.prog 109 #[v, .bool false] w fun e w' => ∃ v', e = .returned v' ∧ CopyN w' w.heap.size w'.heap.size v' zs ∧ Below w.heap.size w w' := toN_row v zs false w h hn (Or.inl rfl)

theorem intactN_same (v1 v2 : Value) (zs : List (Int × Int)) (lo1 hi1 lo2 hi2 : Nat) (w : World) (h1 : CopyN w lo1 hi1 v1 zs) (h2 : CopyN w lo2 hi2 v2 zs) :
    Calls Try.prog 116 #[v1, v2] w fun e w' => e = .returned (.bool true) ∧ Below w.heap.size w w' := by
  obtain ⟨hn, g1, rfl, r1⟩ := h1
  obtain ⟨_, g2, rfl, r2⟩ := h2
  have q1 : RdP w _ (copyT zs) := RowF_rd r1
  have q2 : RdP w _ (copyT zs) := RowF_rd r2
  clear r1 r2
  have hN := copyT_len zs
  have hr := roomL_le zs.length
  generalize hT : copyT zs = T at *
  clear hT
  have Q1 := Lib.hid q1; clear q1
  have Q2 := Lib.hid q2; clear q2
  generalize hTl : T.length = N at *
  have hN' : (zs.length : Int) + (roomL zs.length : Int) = (N : Int) := by omega
  have hcap : zs.length ≤ N := by omega
  clear hN
  go_enter Try.func116, Try.ntmps116
  go_wp2_with (go_at_call 72; refine (room_any _ (by omega) _).mono ?_; rintro e w1 ⟨rfl, rfl⟩)
  go_region_held3 (fun _ => True) (trivial)
    ((go_at_call 135; refine (eqN_same _ _ T _ (by exact Q1.out) (by exact Q2.out)).mono ?_; rintro e w1 ⟨rfl, hb1⟩; replace hb1 := kept_trans (a := w) (by go_grown) hb1))
  go_wp2
  go_ret
  exact ⟨rfl, by assumption⟩

theorem szN_fit (A : Option Addr) (n c : Nat) (left : Int) (h : (n : Int) ≤ left ∧ left ≤ 1000000) (w : World) :
    Calls Try.prog 104 #[.slice A n c, .int .i64 left] w fun e w' => e = .returned (.int .i64 (left - n)) ∧ w = w' := by
  have := szN_any A n c left (by omega) (by omega) w
  rwa [if_pos h.1] at this

theorem szN_over (A : Option Addr) (n c : Nat) (left : Int) (h : 0 ≤ left ∧ left ≤ 1000000) (hn : n ≤ 9223372036854775807) (hlt : left < n) (w : World) :
    Calls Try.prog 104 #[.slice A n c, .int .i64 left] w fun e w' => e = .returned (.int .i64 (-1)) ∧ w = w' := by
  have := szN_any A n c left h hn w
  rwa [if_neg (by omega)] at this

theorem CopyN_set {w : World} {lo hi b o : Nat} {v u : Value} {zs : List (Int × Int)} (h : CopyN w lo hi v zs) (hb : b < lo) : CopyN (w.setCell ⟨b, o, none⟩ u) lo hi v zs := by
  obtain ⟨hl, g, e, hr⟩ := h
  exact ⟨hl, g, e, RowF_far hr (grown_set _ _ _) (fun g hg => by simp at hg; omega)⟩

theorem CopyN_lo {w : World} {lo lo' hi hi' : Nat} {v : Value} {zs : List (Int × Int)} (h : CopyN w lo hi v zs) (hl : lo' ≤ lo) (hh : hi ≤ hi') : CopyN w lo' hi' v zs := by
  obtain ⟨hn, g, e, hr⟩ := h
  exact ⟨hn, g, e, RowF_lo hr hl hh⟩

theorem toN_bare (v : Value) (zs : List (Int × Int)) (w : World) (h : RdP w v zs) (hn : zs.length ≤ 1000000) :
    Calls Try.prog 109 #[v, .bool true] w fun e w' => ∃ v', e = .returned v' ∧ RowF 56 2 w' w.heap.size w'.heap.size v' zs.length (flatP zs) ∧ Below w.heap.size w w' := by
  by_cases hz : zs = []
  · subst hz
    obtain ⟨A, c, rfl, hl, _⟩ := RdP_slice h
    clear h
    go_enter Try.func109, Try.ntmps109
    go_wp2
    go_ret
    exact ⟨_, rfl, RowF_nil _ _ _ _ _, Below.refl _ _⟩
  · exact (toN_row v zs true w h hn (Or.inr hz)).mono fun e w' ⟨v', he, hc, hb⟩ => ⟨v', he, CopyN_row hc, hb⟩

theorem fillPoint_any (w : World) :
    Calls Try.prog 110 #[] w fun e w' => e = .returned (.agg #[.int .i64 (-7000000000000000101), .int .i64 (-7000000000000000101)]) ∧ Below w.heap.size w w' := by
  go_enter Try.func110, Try.ntmps110
  go_wp2
  go_returns
  exact ⟨rfl, by go_grown⟩

/-- The block of a slice. -/
def blkOf : Value → Nat
  | .slice (some a) _ _ => a.block
  | _ => 0

theorem set_mid {α : Type} (T : List α) (z p : α) (m : Nat) : (T ++ List.replicate (m + 1) z).set T.length p = (T ++ [p]) ++ List.replicate m z := by
  rw [List.set_append_right _ _ (Nat.le_refl _), Nat.sub_self, List.replicate_succ, List.set_cons_zero, List.append_assoc]
  rfl

def blkLt (c c' : Value) : Prop := blkOf c < blkOf c'

theorem prod_bd (a b k : Int) (h1 : -k ≤ a ∧ a ≤ k) (h2 : -k ≤ b ∧ b ≤ k) : -(k * k) ≤ a * b ∧ a * b ≤ k * k := by
  have e1 : 0 ≤ (k - a) * (k + b) := Int.mul_nonneg (by omega) (by omega)
  have e2 : 0 ≤ (k + a) * (k - b) := Int.mul_nonneg (by omega) (by omega)
  have e3 : 0 ≤ (k - a) * (k - b) := Int.mul_nonneg (by omega) (by omega)
  have e4 : 0 ≤ (k + a) * (k + b) := Int.mul_nonneg (by omega) (by omega)
  have d1 : (k - a) * (k + b) = k * k + k * b - k * a - a * b := by grind
  have d2 : (k + a) * (k - b) = k * k - k * b + k * a - a * b := by grind
  have d3 : (k - a) * (k - b) = k * k - k * b - k * a + a * b := by grind
  have d4 : (k + a) * (k + b) = k * k + k * b + k * a + a * b := by grind
  omega

/-- The cross product of the vectors from o to a and to b. -/
def crossL (o a b : Int × Int) : Int := (a.1 - o.1) * (b.2 - o.2) - (a.2 - o.2) * (b.1 - o.1)

theorem cross_end (o a : Int × Int) : crossL o a a = 0 := by unfold crossL; grind

theorem cross_beg (o a : Int × Int) : crossL o a o = 0 := by unfold crossL; grind

def ptZ (zs : List (Int × Int)) (k : Nat) : Int × Int := zs.getD k (0, 0)

theorem zs_range (zs : List (Int × Int)) : zs = (List.range zs.length).map (ptZ zs) := by
  apply List.ext_getElem
  · simp
  · intro i h1 h2; simp [ptZ, h1]

theorem count_two (n a b : Nat) (hab : a ≠ b) (ha : a < n) (hb : b < n) (p : Nat → Bool) (pa : p a = false) (pb : p b = false) :
    (List.range n).countP p = n - 2 ↔ ∀ i, i < n → i ≠ a → i ≠ b → p i = true := by
  have h0 : (List.range n).length = (List.range n).countP p + (List.range n).countP (fun i => !p i) := by
    have := List.length_eq_countP_add_countP p (l := List.range n)
    simpa using this
  have m1 : a ∈ List.range n := by simpa using ha
  have nd : (List.range n).Nodup := List.nodup_range
  have m2 : b ∈ (List.range n).erase a := by rw [nd.mem_erase_iff]; exact ⟨fun h => hab h.symm, by simpa using hb⟩
  have h1 := (List.perm_cons_erase m1).countP_eq (fun i => !p i)
  have h2 := (List.perm_cons_erase m2).countP_eq (fun i => !p i)
  rw [List.countP_cons] at h1 h2
  simp only [pa, pb, Bool.not_false, if_true] at h1 h2
  have hz : ((((List.range n).erase a).erase b).countP (fun i => !p i) = 0) ↔ ∀ i, i < n → i ≠ a → i ≠ b → p i = true := by
    rw [List.countP_eq_zero]
    constructor
    · intro h i hi h1 h2
      have := h i (by rw [(nd.erase a).mem_erase_iff, nd.mem_erase_iff]; exact ⟨h2, h1, by simpa using hi⟩)
      simpa using this
    · intro h i hi
      rw [(nd.erase a).mem_erase_iff, nd.mem_erase_iff] at hi
      simp [h i (by simpa using hi.2.2) hi.2.1 hi.1]
  rw [← hz]
  rw [List.length_range] at h0
  omega

/-- The corners, one after the other; each other corner is on the left of each side. -/
def Conv (n : Nat) (c : Nat → Int × Int) : Prop := 3 ≤ n ∧ ∀ k, k < n → ∀ i, i < n → i ≠ k → i ≠ (k + 1) % n → 0 < crossL (c k) (c ((k + 1) % n)) (c i)

/-- The side k at a point. -/
def sdL (n : Nat) (c : Nat → Int × Int) (k : Nat) (p : Int × Int) : Int := crossL (c k) (c ((k + 1) % n)) p

/-- The point at the part u / d of the way is in the zone. -/
def Feas (n : Nat) (c : Nat → Int × Int) (a b : Int × Int) (m : Nat) (u d : Int) : Prop := ∀ k, k < m → 0 ≤ (d - u) * sdL n c k a + u * sdL n c k b

def HitL (n : Nat) (c : Nat → Int × Int) (a b : Int × Int) : Prop := ∃ u d, 0 < d ∧ 0 ≤ u ∧ u ≤ d ∧ Feas n c a b n u d

theorem conv_ge {n : Nat} {c : Nat → Int × Int} (h : Conv n c) (k i : Nat) (hk : k < n) (hi : i < n) : 0 ≤ sdL n c k (c i) := by
  unfold sdL
  by_cases h1 : i = k
  · subst h1; rw [cross_beg]; exact Int.le_refl _
  · by_cases h2 : i = (k + 1) % n
    · rw [h2, cross_end]; exact Int.le_refl _
    · exact Int.le_of_lt (h.2 k hk i hi h1 h2)

/-- where a line crosses another one -/
theorem cross_meet (a b c d e f : Int × Int) :
    crossL c d b * crossL e f a - crossL c d a * crossL e f b = crossL a b c * crossL e f d - crossL a b d * crossL e f c := by
  unfold crossL; grind

theorem cross_diff (a b c d : Int × Int) : crossL c d b - crossL c d a = crossL a b c - crossL a b d := by unfold crossL; grind

theorem le_of_mul {x y z : Int} (hz : 0 < z) (h : x * z ≤ y * z) : x ≤ y := Int.le_of_mul_le_mul_right h hz

theorem pos_of_mul {x y : Int} (hy : 0 < y) (h : 0 ≤ x * y) : 0 ≤ x := by
  rcases Int.lt_or_le x 0 with h1 | h1
  · have := Int.mul_neg_of_neg_of_pos h1 hy; omega
  · exact h1

/-- min, max box -/
def boxB (a b p : Int × Int) : Prop := (min a.1 b.1 ≤ p.1 ∧ p.1 ≤ max a.1 b.1) ∧ min a.2 b.2 ≤ p.2 ∧ p.2 ≤ max a.2 b.2

/-- A point on a straight line between two points. -/
theorem on_line (a b p : Int × Int) (h0 : crossL a b p = 0) (hb : boxB a b p) :
    ∃ u d, 0 < d ∧ 0 ≤ u ∧ u ≤ d ∧ ∀ e f, d * crossL e f p = (d - u) * crossL e f a + u * crossL e f b := by
  obtain ⟨a1, a2⟩ := a
  obtain ⟨b1, b2⟩ := b
  obtain ⟨p1, p2⟩ := p
  unfold crossL boxB at *
  dsimp only at *
  rcases Int.lt_trichotomy a1 b1 with h | h | h
  · refine ⟨p1 - a1, b1 - a1, by omega, by omega, by omega, fun e f => ?_⟩
    grind
  · subst h
    rcases Int.lt_trichotomy a2 b2 with h | h | h
    · refine ⟨p2 - a2, b2 - a2, by omega, by omega, by omega, fun e f => ?_⟩
      have : p1 = a1 := by omega
      subst this
      grind
    · subst h
      refine ⟨0, 1, by omega, by omega, by omega, fun e f => ?_⟩
      have : p1 = a1 := by omega
      have : p2 = a2 := by omega
      subst p1 p2
      grind
    · refine ⟨a2 - p2, a2 - b2, by omega, by omega, by omega, fun e f => ?_⟩
      have : p1 = a1 := by omega
      subst this
      grind
  · refine ⟨a1 - p1, a1 - b1, by omega, by omega, by omega, fun e f => ?_⟩
    grind

def signL (n : Int) : Int := if 0 < n then 1 else if n < 0 then -1 else 0

/-- Two straight lines have a point in common, by signs. -/
def linesP (a b c d : Int × Int) : Prop :=
  (signL (crossL a b c) * signL (crossL a b d) < 0 ∧ signL (crossL c d a) * signL (crossL c d b) < 0) ∨ (signL (crossL a b c) = 0 ∧ boxB a b c) ∨ (signL (crossL a b d) = 0 ∧ boxB a b d) ∨ (signL (crossL c d a) = 0 ∧ boxB c d a) ∨ (signL (crossL c d b) = 0 ∧ boxB c d b)

theorem sign_zero {x : Int} : signL x = 0 ↔ x = 0 := by unfold signL; split <;> (try split) <;> omega

theorem sign_mul {x y : Int} : signL x * signL y < 0 ↔ (0 < x ∧ y < 0) ∨ (x < 0 ∧ 0 < y) := by unfold signL; split <;> split <;> (try split) <;> (try split) <;> omega

def inAll (n : Nat) (c : Nat → Int × Int) (p : Int × Int) : Prop := ∀ k, k < n → 0 ≤ sdL n c k p

theorem feas_of {n : Nat} {c : Nat → Int × Int} {a b p : Int × Int} (hp : inAll n c p) (h0 : crossL a b p = 0) (hb : boxB a b p) : HitL n c a b := by
  obtain ⟨u, d, hd, hu, hud, he⟩ := on_line a b p h0 hb
  refine ⟨u, d, hd, hu, hud, fun k hk => ?_⟩
  unfold sdL
  rw [← he]
  exact Int.mul_nonneg (by omega) (hp k hk)

theorem in_of {n : Nat} {c : Nat → Int × Int} (hc : Conv n c) {k : Nat} (hk : k < n) {p : Int × Int} (h0 : crossL (c k) (c ((k + 1) % n)) p = 0) (hb : boxB (c k) (c ((k + 1) % n)) p) : inAll n c p := by
  obtain ⟨u, d, hd, hu, hud, he⟩ := on_line _ _ p h0 hb
  intro j hj
  have hn : (k + 1) % n < n := Nat.mod_lt _ (by omega)
  have g1 := conv_ge hc j k hj hk
  have g2 := conv_ge hc j _ hj hn
  have := he (c j) (c ((j + 1) % n))
  unfold sdL at *
  refine pos_of_mul hd ?_
  rw [Int.mul_comm, this]
  exact Int.add_nonneg (Int.mul_nonneg (by omega) g1) (Int.mul_nonneg hu g2)

theorem hit_in {n : Nat} {c : Nat → Int × Int} {a b : Int × Int} (h : inAll n c a) : HitL n c a b := ⟨0, 1, by omega, by omega, by omega, fun k hk => by have := h k hk; simp; omega⟩

theorem hit_in2 {n : Nat} {c : Nat → Int × Int} {a b : Int × Int} (h : inAll n c b) : HitL n c a b := ⟨1, 1, by omega, by omega, by omega, fun k hk => by have := h k hk; simp; omega⟩

def specHit (n : Nat) (c : Nat → Int × Int) (a b : Int × Int) : Prop := inAll n c a ∨ inAll n c b ∨ ∃ k, k < n ∧ linesP a b (c k) (c ((k + 1) % n))

theorem hit_lines {n : Nat} {c : Nat → Int × Int} (hc : Conv n c) {a b : Int × Int} {k : Nat} (hk : k < n) (h : linesP a b (c k) (c ((k + 1) % n))) : HitL n c a b := by
  have hn : (k + 1) % n < n := Nat.mod_lt _ (by omega)
  rcases h with ⟨h1, h2⟩ | ⟨h1, h2⟩ | ⟨h1, h2⟩ | ⟨h1, h2⟩ | ⟨h1, h2⟩
  · rw [sign_mul] at h1 h2
    have hd := cross_diff a b (c k) (c ((k + 1) % n))
    have hm : ∀ j, _ := fun j => cross_meet a b (c k) (c ((k + 1) % n)) (c j) (c ((j + 1) % n))
    have g1 : ∀ j, j < n → 0 ≤ crossL (c j) (c ((j + 1) % n)) (c k) := fun j hj => conv_ge hc j k hj hk
    have g2 : ∀ j, j < n → 0 ≤ crossL (c j) (c ((j + 1) % n)) (c ((k + 1) % n)) := fun j hj => conv_ge hc j _ hj hn
    generalize crossL a b (c k) = A at *
    generalize crossL a b (c ((k + 1) % n)) = B at *
    generalize hS : crossL (c k) (c ((k + 1) % n)) a = S at *
    generalize hE : crossL (c k) (c ((k + 1) % n)) b = E at *
    rcases h2 with h2 | h2
    · refine ⟨S, S - E, by omega, by omega, by omega, fun j hj => ?_⟩
      have h3 : A < 0 ∧ 0 < B := by omega
      have e := hm j
      have p1 := Int.mul_nonneg (show 0 ≤ B by omega) (g1 j hj)
      have p2 := Int.mul_nonneg (show 0 ≤ -A by omega) (g2 j hj)
      unfold sdL
      rw [show S - E - S = -E by omega, Int.neg_mul]
      rw [Int.neg_mul] at p2
      omega
    · refine ⟨-S, E - S, by omega, by omega, by omega, fun j hj => ?_⟩
      have h3 : 0 < A ∧ B < 0 := by omega
      have e := hm j
      have p1 := Int.mul_nonneg (show 0 ≤ -B by omega) (g1 j hj)
      have p2 := Int.mul_nonneg (show 0 ≤ A by omega) (g2 j hj)
      unfold sdL
      rw [show E - S - -S = E by omega, Int.neg_mul]
      rw [Int.neg_mul] at p1
      omega
  · exact feas_of (fun j hj => conv_ge hc j k hj hk) (sign_zero.1 h1) h2
  · exact feas_of (fun j hj => conv_ge hc j _ hj hn) (sign_zero.1 h1) h2
  · exact hit_in (in_of hc hk (sign_zero.1 h1) h2)
  · exact hit_in2 (in_of hc hk (sign_zero.1 h1) h2)

theorem hit_of_spec {n : Nat} {c : Nat → Int × Int} (hc : Conv n c) {a b : Int × Int} (h : specHit n c a b) : HitL n c a b := by
  rcases h with h | h | ⟨k, hk, h⟩
  · exact hit_in h
  · exact hit_in2 h
  · exact hit_lines hc hk h

/-- The beginning of the part that is left. -/
def FirstIs (n : Nat) (c : Nat → Int × Int) (a b : Int × Int) (m : Nat) (f : Int × Int) : Prop := f = (0, 1) ∨ ∃ k, k < m ∧ sdL n c k a < 0 ∧ 0 ≤ sdL n c k b ∧ f = (-sdL n c k a, sdL n c k b - sdL n c k a)

theorem mod_pred (n k : Nat) (hn : 0 < n) (hk : k < n) : ∃ j, j < n ∧ (j + 1) % n = k := by
  by_cases h : k = 0
  · exact ⟨n - 1, by omega, by rw [show n - 1 + 1 = n by omega, Nat.mod_self]; exact h.symm⟩
  · exact ⟨k - 1, by omega, by rw [show k - 1 + 1 = k by omega]; exact Nat.mod_eq_of_lt hk⟩

theorem next_next (n k : Nat) (hn : 3 ≤ n) (hk : k < n) : k ≠ (k + 1) % n ∧ k ≠ ((k + 1) % n + 1) % n := by
  by_cases h : k + 1 < n
  · rw [Nat.mod_eq_of_lt h]
    by_cases h2 : k + 1 + 1 < n
    · rw [Nat.mod_eq_of_lt h2]; omega
    · rw [show k + 1 + 1 = n by omega, Nat.mod_self]; omega
  · rw [show k + 1 = n by omega, Nat.mod_self, Nat.mod_eq_of_lt (by omega)]; omega

theorem cross_pt (a b c d : Int × Int) :
    crossL c d b * a.1 - crossL c d a * b.1 = (crossL c d b - crossL c d a) * c.1 + crossL a b c * (d.1 - c.1) ∧
    crossL c d b * a.2 - crossL c d a * b.2 = (crossL c d b - crossL c d a) * c.2 + crossL a b c * (d.2 - c.2) := by
  unfold crossL; constructor <;> grind

theorem cross_pt2 (a b c d : Int × Int) :
    crossL c d b * a.1 - crossL c d a * b.1 = (crossL c d b - crossL c d a) * d.1 + crossL a b d * (d.1 - c.1) ∧
    crossL c d b * a.2 - crossL c d a * b.2 = (crossL c d b - crossL c d a) * d.2 + crossL a b d * (d.2 - c.2) := by
  unfold crossL; constructor <;> grind

theorem btw {p q x a b : Int} (hp : 0 < p) (hq : 0 < q) (h : p * a + q * b = (p + q) * x) : min a b ≤ x ∧ x ≤ max a b := by
  rw [Int.add_mul] at h
  constructor
  · rcases Int.lt_or_le x (min a b) with h1 | h1
    · have g1 := Int.mul_lt_mul_of_pos_left (show x < a by omega) hp
      have g2 := Int.mul_lt_mul_of_pos_left (show x < b by omega) hq
      omega
    · exact h1
  · rcases Int.lt_or_le (max a b) x with h1 | h1
    · have g1 := Int.mul_lt_mul_of_pos_left (show a < x by omega) hp
      have g2 := Int.mul_lt_mul_of_pos_left (show b < x by omega) hq
      omega
    · exact h1

theorem spec_of_first {n : Nat} {c : Nat → Int × Int} (hc : Conv n c) {a b : Int × Int} {f : Int × Int} (hf : FirstIs n c a b n f) (h : Feas n c a b n f.1 f.2) : specHit n c a b := by
  rcases hf with rfl | ⟨k, hk, hS, hE, rfl⟩
  · left
    intro j hj
    have := h j hj
    simp at this
    omega
  by_cases hE0 : sdL n c k b = 0
  · right; left
    intro j hj
    have := h j hj
    dsimp only at this
    rw [hE0, show 0 - sdL n c k a - -sdL n c k a = 0 by omega, Int.zero_mul, Int.zero_add] at this
    rw [Int.mul_comm] at this
    exact pos_of_mul (by omega) this
  right; right
  refine ⟨k, hk, ?_⟩
  have hn3 := hc.1
  have hn : (k + 1) % n < n := Nat.mod_lt _ (by omega)
  obtain ⟨p, hp, hpk⟩ := mod_pred n k (by omega) hk
  have nn := next_next n k hn3 hk
  have np := next_next n p hn3 hp
  rw [hpk] at np
  -- the next side and the one before
  have q1 : 0 < sdL n c ((k + 1) % n) (c k) := hc.2 _ hn k hk nn.1 nn.2
  have q2 : 0 < sdL n c p (c ((k + 1) % n)) := by
    refine hc.2 p hp _ hn (fun e => np.2 e.symm) (fun e => ?_)
    rw [hpk] at e
    exact nn.1 e.symm
  have z1 : sdL n c ((k + 1) % n) (c ((k + 1) % n)) = 0 := cross_beg _ _
  have z2 : sdL n c p (c k) = 0 := by unfold sdL; rw [hpk]; exact cross_end _ _
  have m1 := cross_meet a b (c k) (c ((k + 1) % n)) (c ((k + 1) % n)) (c (((k + 1) % n + 1) % n))
  have m2 := cross_meet a b (c k) (c ((k + 1) % n)) (c p) (c ((p + 1) % n))
  have f1 := h _ hn
  have f2 := h p hp
  have hd := cross_diff a b (c k) (c ((k + 1) % n))
  have t1 := cross_pt a b (c k) (c ((k + 1) % n))
  have t2 := cross_pt2 a b (c k) (c ((k + 1) % n))
  unfold sdL at *
  dsimp only at f1 f2
  rw [z1, Int.mul_zero] at m1
  rw [z2, Int.mul_zero] at m2
  generalize hA : crossL a b (c k) = A at *
  generalize hB : crossL a b (c ((k + 1) % n)) = B at *
  generalize hSS : crossL (c k) (c ((k + 1) % n)) a = S at *
  generalize hEE : crossL (c k) (c ((k + 1) % n)) b = E at *
  rw [show E - S - -S = E by omega, Int.neg_mul] at f1 f2
  have hB0 : 0 ≤ -B := by
    refine pos_of_mul q1 ?_
    rw [Int.neg_mul]
    omega
  have hA0 : 0 ≤ A := by
    refine pos_of_mul q2 ?_
    omega
  by_cases a0 : A = 0
  · right; left
    refine ⟨sign_zero.2 (by omega), ?_⟩
    rw [a0, Int.zero_mul, Int.zero_mul, Int.add_zero, Int.add_zero] at t1
    exact ⟨btw (p := E) (q := -S) (by omega) (by omega) (by rw [Int.neg_mul, ← Int.sub_eq_add_neg, ← Int.sub_eq_add_neg]; exact t1.1), btw (p := E) (q := -S) (by omega) (by omega) (by rw [Int.neg_mul, ← Int.sub_eq_add_neg, ← Int.sub_eq_add_neg]; exact t1.2)⟩
  by_cases b0 : B = 0
  · right; right; left
    refine ⟨sign_zero.2 (by omega), ?_⟩
    rw [b0, Int.zero_mul, Int.zero_mul, Int.add_zero, Int.add_zero] at t2
    exact ⟨btw (p := E) (q := -S) (by omega) (by omega) (by rw [Int.neg_mul, ← Int.sub_eq_add_neg, ← Int.sub_eq_add_neg]; exact t2.1), btw (p := E) (q := -S) (by omega) (by omega) (by rw [Int.neg_mul, ← Int.sub_eq_add_neg, ← Int.sub_eq_add_neg]; exact t2.2)⟩
  left
  rw [sign_mul, sign_mul]
  omega

/-- What the clipping keeps: just the parts of the way from f to l are in the first m half planes. -/
def ClipI (n : Nat) (c : Nat → Int × Int) (a b : Int × Int) (m : Nat) (f l : Int × Int) : Prop :=
  0 < f.2 ∧ 0 < l.2 ∧ 0 ≤ f.1 ∧ f.1 ≤ f.2 ∧ 0 ≤ l.1 ∧ l.1 ≤ l.2 ∧ FirstIs n c a b m f ∧ ∀ u d, 0 < d → 0 ≤ u → u ≤ d → (Feas n c a b m u d ↔ f.1 * d ≤ u * f.2 ∧ u * l.2 ≤ l.1 * d)

theorem clip_start (n : Nat) (c : Nat → Int × Int) (a b : Int × Int) : ClipI n c a b 0 (0, 1) (1, 1) := by
  refine ⟨by decide, by decide, by decide, by decide, by decide, by decide, Or.inl rfl, fun u d h1 h2 h3 => ⟨fun _ => ?_, fun _ k hk => by omega⟩⟩
  dsimp only
  omega

theorem feas_succ {n : Nat} {c : Nat → Int × Int} {a b : Int × Int} {m : Nat} {u d : Int} : Feas n c a b (m + 1) u d ↔ Feas n c a b m u d ∧ 0 ≤ (d - u) * sdL n c m a + u * sdL n c m b := by
  refine ⟨fun h => ⟨fun k hk => h k (by omega), h m (by omega)⟩, fun h k hk => ?_⟩
  rcases Nat.lt_or_ge k m with h1 | h1
  · exact h.1 k h1
  · obtain rfl : k = m := by omega
    exact h.2

theorem clip_out {n : Nat} {c : Nat → Int × Int} {a b : Int × Int} {m : Nat} (hm : m < n) (hS : sdL n c m a < 0) (hE : sdL n c m b < 0) : ¬ HitL n c a b := by
  rintro ⟨u, d, h1, h2, h3, hf⟩
  have := hf m hm
  generalize sdL n c m a = S at *
  generalize sdL n c m b = E at *
  have g1 := Int.mul_nonneg (show 0 ≤ d - u by omega) (show 0 ≤ -S by omega)
  have g2 := Int.mul_nonneg h2 (show 0 ≤ -E by omega)
  rw [Int.mul_neg] at g1 g2
  rcases Int.lt_or_le 0 u with h4 | h4
  · have := Int.mul_pos h4 (show 0 < -E by omega)
    rw [Int.mul_neg] at this
    omega
  · obtain rfl : u = 0 := by omega
    have := Int.mul_pos (show 0 < d - 0 by omega) (show 0 < -S by omega)
    rw [Int.mul_neg] at this
    omega

theorem clip_in {n : Nat} {c : Nat → Int × Int} {a b f l : Int × Int} {m : Nat} (h : ClipI n c a b m f l) (hS : 0 ≤ sdL n c m a) (hE : 0 ≤ sdL n c m b) : ClipI n c a b (m + 1) f l := by
  obtain ⟨h1, h2, h3, h4, h5, h6, h7, h8⟩ := h
  refine ⟨h1, h2, h3, h4, h5, h6, ?_, fun u d g1 g2 g3 => ?_⟩
  · rcases h7 with h | ⟨k, hk, h⟩
    · exact Or.inl h
    · exact Or.inr ⟨k, by omega, h⟩
  · rw [feas_succ, ← h8 u d g1 g2 g3]
    exact ⟨fun h => h.1, fun h => ⟨h, Int.add_nonneg (Int.mul_nonneg (by omega) hS) (Int.mul_nonneg g2 hE)⟩⟩

/-- fractions with positive denominators are in order -/
theorem frac_lt_trans {a b c d u v : Int} (hb : 0 < b) (hd : 0 < d) (hv : 0 < v) (h1 : a * d < c * b) (h2 : c * v ≤ u * d) : a * v ≤ u * b := by
  have g1 := Int.mul_lt_mul_of_pos_right h1 hv
  have g2 := Int.mul_le_mul_of_nonneg_right h2 (Int.le_of_lt hb)
  refine le_of_mul hd ?_
  have e1 : a * d * v = a * v * d := by grind
  have e2 : c * b * v = c * v * b := by grind
  have e3 : u * d * b = u * b * d := by grind
  omega

theorem frac_le_trans {a b c d u v : Int} (hb : 0 < b) (hd : 0 < d) (hv : 0 < v) (h1 : a * d ≤ c * b) (h2 : c * v ≤ u * d) : a * v ≤ u * b := by
  have g1 := Int.mul_le_mul_of_nonneg_right h1 (Int.le_of_lt hv)
  have g2 := Int.mul_le_mul_of_nonneg_right h2 (Int.le_of_lt hb)
  refine le_of_mul hd ?_
  have e1 : a * d * v = a * v * d := by grind
  have e2 : c * b * v = c * v * b := by grind
  have e3 : u * d * b = u * b * d := by grind
  omega

theorem clip_first {n : Nat} {c : Nat → Int × Int} {a b f l : Int × Int} {m : Nat} (h : ClipI n c a b m f l) (hS : sdL n c m a < 0) (hE : 0 ≤ sdL n c m b) :
    ClipI n c a b (m + 1) (if f.1 * (sdL n c m b - sdL n c m a) < -sdL n c m a * f.2 then (-sdL n c m a, sdL n c m b - sdL n c m a) else f) l := by
  obtain ⟨h1, h2, h3, h4, h5, h6, h7, h8⟩ := h
  have key : ∀ u d : Int, (0 ≤ (d - u) * sdL n c m a + u * sdL n c m b ↔ -sdL n c m a * d ≤ u * (sdL n c m b - sdL n c m a)) := by
    intro u d
    have e : (d - u) * sdL n c m a + u * sdL n c m b = u * (sdL n c m b - sdL n c m a) - -sdL n c m a * d := by grind
    omega
  have hk : m < m + 1 := by omega
  split
  · rename_i hb
    refine ⟨by dsimp only; omega, h2, by dsimp only; omega, by dsimp only; omega, h5, h6, Or.inr ⟨m, hk, hS, hE, rfl⟩, fun u d g1 g2 g3 => ?_⟩
    rw [feas_succ, h8 u d g1 g2 g3, key]
    dsimp only
    exact ⟨fun h => ⟨h.2, h.1.2⟩, fun h => ⟨⟨frac_lt_trans h1 (by omega) g1 hb h.1, h.2⟩, h.1⟩⟩
  · rename_i hb
    refine ⟨h1, h2, h3, h4, h5, h6, ?_, fun u d g1 g2 g3 => ?_⟩
    · rcases h7 with h | ⟨k, hk, h⟩
      · exact Or.inl h
      · exact Or.inr ⟨k, by omega, h⟩
    · rw [feas_succ, h8 u d g1 g2 g3, key]
      exact ⟨fun h => h.1, fun h => ⟨h, frac_le_trans (by omega) h1 g1 (by omega) h.1⟩⟩

theorem clip_last {n : Nat} {c : Nat → Int × Int} {a b f l : Int × Int} {m : Nat} (h : ClipI n c a b m f l) (hS : 0 ≤ sdL n c m a) (hE : sdL n c m b < 0) :
    ClipI n c a b (m + 1) f (if sdL n c m a * l.2 < l.1 * (sdL n c m a - sdL n c m b) then (sdL n c m a, sdL n c m a - sdL n c m b) else l) := by
  obtain ⟨h1, h2, h3, h4, h5, h6, h7, h8⟩ := h
  have key : ∀ u d : Int, (0 ≤ (d - u) * sdL n c m a + u * sdL n c m b ↔ u * (sdL n c m a - sdL n c m b) ≤ sdL n c m a * d) := by
    intro u d
    have e : (d - u) * sdL n c m a + u * sdL n c m b = sdL n c m a * d - u * (sdL n c m a - sdL n c m b) := by grind
    omega
  have h7' : FirstIs n c a b (m + 1) f := by
    rcases h7 with h | ⟨k, hk, h⟩
    · exact Or.inl h
    · exact Or.inr ⟨k, by omega, h⟩
  split
  · rename_i hb
    refine ⟨h1, by dsimp only; omega, h3, h4, hS, by dsimp only; omega, h7', fun u d g1 g2 g3 => ?_⟩
    rw [feas_succ, h8 u d g1 g2 g3, key]
    dsimp only
    refine ⟨fun h => ⟨h.1.1, h.2⟩, fun h => ⟨⟨h.1, ?_⟩, h.2⟩⟩
    exact frac_le_trans g1 (by omega) h2 h.2 (Int.le_of_lt hb)
  · rename_i hb
    refine ⟨h1, h2, h3, h4, h5, h6, h7', fun u d g1 g2 g3 => ?_⟩
    rw [feas_succ, h8 u d g1 g2 g3, key]
    exact ⟨fun h => h.1, fun h => ⟨h, frac_le_trans g1 h2 (by omega) h.2 (by omega)⟩⟩

theorem clip_end {n : Nat} {c : Nat → Int × Int} {a b f l : Int × Int} (hc : Conv n c) (h : ClipI n c a b n f l) : specHit n c a b ↔ ¬ l.1 * f.2 < f.1 * l.2 := by
  obtain ⟨h1, h2, h3, h4, h5, h6, h7, h8⟩ := h
  constructor
  · intro hs hlt
    obtain ⟨u, d, g1, g2, g3, hf⟩ := hit_of_spec hc hs
    rw [h8 u d g1 g2 g3] at hf
    have := frac_le_trans (a := f.1) (b := f.2) (c := u) (d := d) (u := l.1) (v := l.2) h1 g1 h2 hf.1 hf.2
    omega
  · intro hle
    refine spec_of_first hc h7 ?_
    rw [h8 f.1 f.2 h1 h3 h4]
    exact ⟨Int.le_refl _, by omega⟩

theorem clip_not {n : Nat} {c : Nat → Int × Int} {a b : Int × Int} {m : Nat} (hc : Conv n c) (hm : m < n) (hS : sdL n c m a < 0) (hE : sdL n c m b < 0) : ¬ specHit n c a b := fun h => clip_out hm hS hE (hit_of_spec hc h)

/-- Where a point is, by the first j sides: 0 outside, 1 on the border, 2 inside. -/
def whN (f : Nat → Int) : Nat → Int
  | 0 => 2
  | j + 1 => if whN f j = 0 ∨ f j < 0 then 0 else if f j = 0 then 1 else whN f j

theorem wh_zero {f : Nat → Int} {j m : Nat} (h : whN f j = 0) (hm : j ≤ m) : whN f m = 0 := by
  induction m with
  | zero => obtain rfl : j = 0 := by omega
            exact h
  | succ m ih =>
    rcases Nat.lt_or_ge j (m + 1) with h1 | h1
    · simp only [whN]
      rw [if_pos (Or.inl (ih (by omega)))]
    · obtain rfl : j = m + 1 := by omega
      exact h

theorem wh_out {f : Nat → Int} {j n : Nat} (h : f j < 0) (hj : j < n) : whN f n = 0 := wh_zero (j := j + 1) (by simp [whN, h]) (by omega)

theorem wh_pos {f : Nat → Int} {n : Nat} : (0 < whN f n ↔ ∀ k, k < n → 0 ≤ f k) ∧ 0 ≤ whN f n ∧ whN f n ≤ 2 := by
  induction n with
  | zero => simp [whN]
  | succ n ih =>
    simp only [whN]
    obtain ⟨h1, h2, h3⟩ := ih
    refine ⟨?_, ?_, ?_⟩
    · constructor
      · intro h k hk
        split at h
        · omega
        · rename_i hx
          rcases Nat.lt_or_ge k n with h4 | h4
          · exact h1.1 (by omega) k h4
          · obtain rfl : k = n := by omega
            omega
      · intro h
        have := h1.2 (fun k hk => h k (by omega))
        have := h n (by omega)
        rw [if_neg (by omega)]
        split <;> omega
    · split
      · omega
      · split <;> omega
    · split
      · omega
      · split <;> omega

theorem wh_step {f : Nat → Int} {j : Nat} (h0 : whN f j ≠ 0) (h : 0 ≤ f j) : whN f (j + 1) = if f j = 0 then 1 else whN f j := by
  simp only [whN]
  rw [if_neg (by omega)]

theorem ptZ_at (zs : List (Int × Int)) (k : Nat) (h : k < zs.length) : ptZ zs k = zs[k] := by simp [ptZ, h]

/-- Each other corner is on the left of each side. -/
def turnsP (zs : List (Int × Int)) : Prop := ∀ k, k < zs.length → ∀ i, i < zs.length → i ≠ k → i ≠ (k + 1) % zs.length → 0 < crossL (ptZ zs k) (ptZ zs ((k + 1) % zs.length)) (ptZ zs i)

/-- How many points are on the left of a line. -/
def leftN (zs : List (Int × Int)) (o a : Int × Int) : Nat := zs.countP fun p => decide (0 < crossL o a p)

theorem left_turns {zs : List (Int × Int)} (h3 : 3 ≤ zs.length) {k : Nat} (hk : k < zs.length) :
    leftN zs (ptZ zs k) (ptZ zs ((k + 1) % zs.length)) = zs.length - 2 ↔ ∀ i, i < zs.length → i ≠ k → i ≠ (k + 1) % zs.length → 0 < crossL (ptZ zs k) (ptZ zs ((k + 1) % zs.length)) (ptZ zs i) := by
  have hm : (k + 1) % zs.length < zs.length := Nat.mod_lt _ (by omega)
  have hne : k ≠ (k + 1) % zs.length := by
    by_cases h : k + 1 < zs.length
    · rw [Nat.mod_eq_of_lt h]; omega
    · rw [show k + 1 = zs.length by omega, Nat.mod_self]; omega
  have e : leftN zs (ptZ zs k) (ptZ zs ((k + 1) % zs.length)) = (List.range zs.length).countP (fun i => decide (0 < crossL (ptZ zs k) (ptZ zs ((k + 1) % zs.length)) (ptZ zs i))) := by
    unfold leftN
    generalize hf : (fun p => decide (0 < crossL (ptZ zs k) (ptZ zs ((k + 1) % zs.length)) p)) = f
    rw [show (fun i => decide (0 < crossL (ptZ zs k) (ptZ zs ((k + 1) % zs.length)) (ptZ zs i))) = fun i => f (ptZ zs i) by subst hf; rfl]
    have := List.countP_map (p := f) (f := ptZ zs) (l := List.range zs.length)
    rw [← zs_range] at this
    exact this
  rw [e, count_two zs.length k ((k + 1) % zs.length) hne hk hm _ (by simp [cross_beg]) (by simp [cross_end])]
  simp only [decide_eq_true_eq]

/-- The sides, each a line from a corner to the next one. -/
def sidesL (zs : List (Int × Int)) : List ((Int × Int) × (Int × Int)) := (List.range zs.length).map fun k => (ptZ zs k, ptZ zs ((k + 1) % zs.length))

theorem sidesL_len (zs : List (Int × Int)) : (sidesL zs).length = zs.length := by simp [sidesL]

theorem sidesL_at (zs : List (Int × Int)) (k : Nat) (h : k < (sidesL zs).length) : (sidesL zs)[k] = (ptZ zs k, ptZ zs ((k + 1) % zs.length)) := by simp [sidesL]

theorem turns_sides {zs : List (Int × Int)} (h3 : 3 ≤ zs.length) : turnsP zs ↔ ∀ s ∈ sidesL zs, leftN zs s.1 s.2 = zs.length - 2 := by
  constructor
  · intro h s hs
    obtain ⟨k, hk, rfl⟩ := List.mem_iff_getElem.1 hs
    rw [sidesL_at]
    rw [sidesL_len] at hk
    exact (left_turns h3 hk).2 (h k hk)
  · intro h k hk
    have hk' : k < (sidesL zs).length := by rw [sidesL_len]; exact hk
    have := h (sidesL zs)[k] (List.getElem_mem hk')
    rw [sidesL_at] at this
    exact (left_turns h3 hk).1 this

/-- A zone's fields. -/
structure Zn where
  kd : Int
  st : Int
  ea : Int
  cs : List (Int × Int)

def wfZ (k : Zn) : Prop := (Lit.int .i64 k.kd).wf = true ∧ (Lit.int .i64 k.st).wf = true ∧ (Lit.int .i64 k.ea).wf = true

/-- A zone, cell by cell; c: its corners' slice. -/
def encZ (p : Zn × Value) : List Value := [.int .i64 p.1.kd, .int .i64 p.1.st, .int .i64 p.1.ea, p.2]

set_option maxRecDepth 100000 in
/-- Cells that read as a zone. -/
theorem open_zoneC {H : Type} {enc : TypeId × Value → H} {W : World} {base fuel : Nat} {sp : Nat → Bool} {held : Bool} {cs : List Value} {z : DataW H × List MemPlace}
    (h : DataW.trod enc Try.prog W base sp held fuel 93 cs = some z) : ∃ (k : Zn) (c : Value), cs = encZ (k, c) ∧ RdP W c k.cs ∧ wfZ k := by
  obtain ⟨xs, n, _, _, hl, hlen, hf⟩ := DataW.trod_struct Try.underlying93 h
  have hl4 : cs.length = 4 := hl.trans (by kernel_rfl)
  have h0 : DataW.trod enc Try.prog W base sp held n 2 ((cs.drop 0).take (Try.prog.cellsOf 2)) = xs[0]? := hf 0 _ rfl
  have h1 : DataW.trod enc Try.prog W base sp held n 2 ((cs.drop 1).take (Try.prog.cellsOf 2)) = xs[1]? := hf 1 _ rfl
  have h2 : DataW.trod enc Try.prog W base sp held n 2 ((cs.drop 2).take (Try.prog.cellsOf 2)) = xs[2]? := hf 2 _ rfl
  have h3 : DataW.trod enc Try.prog W base sp held n 91 ((cs.drop 3).take (Try.prog.cellsOf 91)) = xs[3]? := hf 3 _ rfl
  have z2 : Try.prog.cellsOf 2 = 1 := by kernel_rfl
  have z3 : Try.prog.cellsOf 91 = 1 := by kernel_rfl
  match cs, hl4 with
  | [c0, c1, c2, c3], _ =>
    have i0 : xs[0]? = some (xs[0]'(by rw [hlen]; decide)) := List.getElem?_eq_getElem _
    have i1 : xs[1]? = some (xs[1]'(by rw [hlen]; decide)) := List.getElem?_eq_getElem _
    have i2 : xs[2]? = some (xs[2]'(by rw [hlen]; decide)) := List.getElem?_eq_getElem _
    have i3 : xs[3]? = some (xs[3]'(by rw [hlen]; decide)) := List.getElem?_eq_getElem _
    simp only [i0, i1, i2, i3, z2, z3, List.drop_succ_cons, List.drop_zero, List.take_succ_cons, List.take_zero] at h0 h1 h2 h3
    obtain ⟨a, e0, _, w0⟩ := DataW.trod_int Try.underlying2 h0
    obtain ⟨b, e1, _, w1⟩ := DataW.trod_int Try.underlying2 h1
    obtain ⟨d, e2, _, w2⟩ := DataW.trod_int Try.underlying2 h2
    obtain ⟨c, zs, e3, hr⟩ := open_pairsC Try.underlying91 Try.underlying51 Try.underlying2 Try.underlying2 (by kernel_rfl) rfl rfl (by kernel_rfl) (by kernel_rfl) h3
    simp only [List.cons.injEq, and_true] at e0 e1 e2 e3
    subst e0 e1 e2 e3
    exact ⟨⟨a, b, d, zs⟩, _, rfl, hr, w0, w1, w2⟩

theorem szZ_any (k : Zn) (c : Value) (left : Int) (h : 0 ≤ left ∧ left ≤ 1000000) (w : World) (hr : RdP w c k.cs) :
    Calls Try.prog 66 #[.agg #[.int .i64 k.kd, .int .i64 k.st, .int .i64 k.ea, c], .int .i64 left] w fun e w' => e = .returned (.int .i64 (if (k.cs.length : Int) ≤ left then left - k.cs.length else -1)) ∧ Below w.heap.size w w' := by
  obtain ⟨A, cp, rfl, hl, _⟩ := RdP_slice hr
  clear hr
  obtain ⟨kd, st, ea, zs⟩ := k
  dsimp only at *
  by_cases h1 : (zs.length : Int) ≤ left
  · rw [if_pos h1]
    go_enter Try.func66, Try.ntmps66
    go_wp2_with (go_at_call 104; refine ((szN_fit _ _ _ _ (by omega) _)).mono ?_; rintro e w1 ⟨rfl, rfl⟩)
    go_ret
    exact ⟨rfl, by go_grown⟩
  · rw [if_neg h1]
    go_enter Try.func66, Try.ntmps66
    go_wp2_with (go_at_call 104; refine ((szN_over _ _ _ _ (by omega) (by omega) (by omega) _)).mono ?_; rintro e w1 ⟨rfl, rfl⟩)
    go_ret
    exact ⟨rfl, by go_grown⟩

theorem toZ_false (k : Zn) (c : Value) (w : World) (hr : RdP w c k.cs) (hn : k.cs.length ≤ 1000000) :
    Calls Try.prog 73 #[.agg #[.int .i64 k.kd, .int .i64 k.st, .int .i64 k.ea, c], .bool false] w fun e w' => ∃ c', e = .returned (.agg #[.int .i64 k.kd, .int .i64 k.st, .int .i64 k.ea, c']) ∧ CopyN w' w.heap.size w'.heap.size c' k.cs ∧ Below w.heap.size w w' := by
  obtain ⟨A0, cp0, rfl, _, _⟩ := RdP_slice hr
  have H := Lib.hid hr; clear hr
  obtain ⟨kd, st, ea, zs⟩ := k
  dsimp only at *
  go_enter Try.func73, Try.ntmps73
  go_wp2_with fail
  refine (toN_false _ zs _ (RdP_kept H.out (by go_grown)) hn).mono ?_
  rintro e w2 ⟨c', rfl, hc, hb2⟩
  obtain ⟨A1, cp1, rfl, _, _⟩ := RdP_slice (CopyN_rd hc)
  have HC := Lib.hid hc; clear hc
  refine kept_at hb2 (w.heap.size + 1) (by go_size) fun c2_1 z2_1 s2_1 => ?_
  refine kept_at hb2 (w.heap.size + 2) (by go_size) fun c2_2 z2_2 s2_2 => ?_
  have b2 := kept_trans (a := w) (by go_grown) hb2
  go_wp2
  (try simp only [Exit.inBlock, Exit.then])
  refine bodyPost_ret (v := .agg #[.int .i64 kd, .int .i64 st, .int .i64 ea, .slice A1 zs.length cp1]) ?_ rfl ⟨_, rfl, ?_, ?_⟩
  · rw [results_cell1 rfl]
    go_simp
  · have h := HC.out
    simp only [World.size_setCell, World.size_alloc] at h
    exact CopyN_lo (lo := w.heap.size + 1 + 1 + 1) (hi := w2.heap.size) (CopyN_set (CopyN_set (CopyN_set (CopyN_set (CopyN_set h (by omega)) (by omega)) (by omega)) (by omega)) (by omega)) (by omega) (by simp)
  · go_grown

theorem toZ_true (k : Zn) (c : Value) (w : World) (hr : RdP w c k.cs) (hn : k.cs.length ≤ 1000000) :
    Calls Try.prog 73 #[.agg #[.int .i64 k.kd, .int .i64 k.st, .int .i64 k.ea, c], .bool true] w fun e w' => ∃ c', e = .returned (.agg #[.int .i64 k.kd, .int .i64 k.st, .int .i64 k.ea, c']) ∧ RowF 56 2 w' w.heap.size w'.heap.size c' k.cs.length (flatP k.cs) ∧ Below w.heap.size w w' := by
  obtain ⟨A0, cp0, rfl, _, _⟩ := RdP_slice hr
  have H := Lib.hid hr; clear hr
  obtain ⟨kd, st, ea, zs⟩ := k
  dsimp only at *
  go_enter Try.func73, Try.ntmps73
  go_wp2_with fail
  refine (toN_bare _ zs _ (RdP_kept H.out (by go_grown)) hn).mono ?_
  rintro e w2 ⟨c', rfl, hc, hb2⟩
  obtain ⟨A1, cp1, rfl, _, _⟩ := RdP_slice (RowF_rd hc)
  have HC := Lib.hid hc; clear hc
  refine kept_at hb2 (w.heap.size + 1) (by go_size) fun c2_1 z2_1 s2_1 => ?_
  refine kept_at hb2 (w.heap.size + 2) (by go_size) fun c2_2 z2_2 s2_2 => ?_
  have b2 := kept_trans (a := w) (by go_grown) hb2
  go_wp2
  (try simp only [Exit.inBlock, Exit.then])
  refine bodyPost_ret (v := .agg #[.int .i64 kd, .int .i64 st, .int .i64 ea, .slice A1 zs.length cp1]) ?_ rfl ⟨_, rfl, ?_, ?_⟩
  · rw [results_cell1 rfl]
    go_simp
  · have h := HC.out
    simp only [World.size_setCell, World.size_alloc] at h
    exact RowF_lo (lo := w.heap.size + 1 + 1 + 1) (hi := w2.heap.size) (RowF_set (RowF_set (RowF_set (RowF_set (RowF_set h (by omega)) (by omega)) (by omega)) (by omega)) (by omega)) (by omega) (by simp)
  · go_grown

theorem intactZ_same (k : Zn) (c1 c2 : Value) (lo1 hi1 lo2 hi2 : Nat) (w : World) (h1 : CopyN w lo1 hi1 c1 k.cs) (h2 : CopyN w lo2 hi2 c2 k.cs) :
    Calls Try.prog 80 #[.agg #[.int .i64 k.kd, .int .i64 k.st, .int .i64 k.ea, c1], .agg #[.int .i64 k.kd, .int .i64 k.st, .int .i64 k.ea, c2]] w fun e w' => e = .returned (.bool true) ∧ Below w.heap.size w w' := by
  obtain ⟨A1, cp1, rfl, _, _⟩ := RdP_slice (CopyN_rd h1)
  obtain ⟨A2, cp2, rfl, _, _⟩ := RdP_slice (CopyN_rd h2)
  have H1 := Lib.hid h1; clear h1
  have H2 := Lib.hid h2; clear h2
  obtain ⟨kd, st, ea, zs⟩ := k
  dsimp only at *
  go_enter Try.func80, Try.ntmps80
  go_wp2_with fail
  refine (intactN_same _ _ zs _ _ _ _ _ (CopyN_kept H1.out (by go_grown)) (CopyN_kept H2.out (by go_grown))).mono ?_
  rintro e w2 ⟨rfl, hb2⟩
  have b2 := kept_trans (a := w) (by go_grown) hb2
  go_wp2
  go_ret
  exact ⟨rfl, b2⟩

/-- Not far from the middle: no product overflows. -/
def near0 (p : Int × Int) : Prop := (-12000 ≤ p.1 ∧ p.1 ≤ 12000) ∧ -12000 ≤ p.2 ∧ p.2 ≤ 12000

theorem near0_ok {x y : Int} (h : okP x y = true) : near0 (x, y) := by
  have := okP_true h
  unfold near0
  dsimp only
  omega

theorem cross_wrap (a b c d : Int) (h1 : -24000 ≤ a ∧ a ≤ 24000) (h2 : -24000 ≤ b ∧ b ≤ 24000) (h3 : -24000 ≤ c ∧ c ≤ 24000) (h4 : -24000 ≤ d ∧ d ≤ 24000) :
    wrap64 (wrap64 (a * b) - wrap64 (c * d)) = a * b - c * d ∧ -2000000000 ≤ a * b - c * d ∧ a * b - c * d ≤ 2000000000 := by
  have g1 := prod_bd a b 24000 h1 h2
  have g2 := prod_bd c d 24000 h3 h4
  rw [IntWalk.wrap64_in (a * b) (by omega), IntWalk.wrap64_in (c * d) (by omega), IntWalk.wrap64_in (a * b - c * d) (by omega)]
  exact ⟨rfl, by omega, by omega⟩

theorem cross_any (o a b : Int × Int) (w : World) (h1 : near0 o) (h2 : near0 a) (h3 : near0 b) :
    Calls Try.prog 126 #[.agg #[.int .i64 o.1, .int .i64 o.2], .agg #[.int .i64 a.1, .int .i64 a.2], .agg #[.int .i64 b.1, .int .i64 b.2]] w fun e w' => e = .returned (.int .i64 (crossL o a b)) ∧ Below w.heap.size w w' := by
  unfold near0 at h1 h2 h3
  have g1 := (cross_wrap (a.1 - o.1) (b.2 - o.2) (a.2 - o.2) (b.1 - o.1) (by omega) (by omega) (by omega) (by omega)).1
  unfold crossL
  obtain ⟨o1, o2⟩ := o
  obtain ⟨a1, a2⟩ := a
  obtain ⟨b1, b2⟩ := b
  dsimp only at *
  have G1 := Lib.hid g1
  clear g1
  go_enter Try.func126, Try.ntmps126
  go_wp2
  go_returns
  exact ⟨by rw [G1.out]; rfl, by go_grown⟩

set_option maxHeartbeats 4000000 in
theorem side_any (o a b : Int × Int) (w : World) (h1 : near0 o) (h2 : near0 a) (h3 : near0 b) :
    Calls Try.prog 133 #[.agg #[.int .i64 o.1, .int .i64 o.2, .int .i64 a.1, .int .i64 a.2], .agg #[.int .i64 b.1, .int .i64 b.2]] w fun e w' => e = .returned (.int .i64 (crossL o a b)) ∧ Below w.heap.size w w' := by
  unfold near0 at h1 h2 h3
  have g1 := (cross_wrap (a.1 - o.1) (b.2 - o.2) (a.2 - o.2) (b.1 - o.1) (by omega) (by omega) (by omega) (by omega)).1
  unfold crossL
  obtain ⟨o1, o2⟩ := o
  obtain ⟨a1, a2⟩ := a
  obtain ⟨b1, b2⟩ := b
  dsimp only at *
  have G1 := Lib.hid g1
  clear g1
  go_enter Try.func133, Try.ntmps133
  go_wp2_with fail
  have q1 : w.heap.size + 1 + 1 ≠ w.heap.size := by omega
  have q2 : w.heap.size + 1 + 1 ≠ w.heap.size + 1 := by omega
  have q3 : w.heap.size + 1 + 1 + 1 ≠ w.heap.size := by omega
  have q4 : w.heap.size + 1 + 1 + 1 ≠ w.heap.size + 1 := by omega
  go_region_held3 (fun w' => w'.cell? ⟨w.heap.size, 0, none⟩ = some (.int .i64 o1) ∧ w'.cell? ⟨w.heap.size, 1, none⟩ = some (.int .i64 o2) ∧ w'.cell? ⟨w.heap.size, 2, none⟩ = some (.int .i64 a1) ∧ w'.cell? ⟨w.heap.size, 3, none⟩ = some (.int .i64 a2) ∧ w'.cell? ⟨w.heap.size + 1, 0, none⟩ = some (.int .i64 b1) ∧ w'.cell? ⟨w.heap.size + 1, 1, none⟩ = some (.int .i64 b2)) (go_keep) (first
    | (have hk := hfirst; go_at_call 143; refine (minus_any _ _ _ _ (by omega) (by omega) (by omega) (by omega) _).mono ?_; rintro e w2 ⟨rfl, hb2⟩; have hs2 := hb2.size; (try simp at hs2); (try (refine kept_at hb2 (w.heap.size) ?_ (fun hchb2_0 hzhb2_0 hshb2_0 => ?_); focus go_size)); (try (refine kept_at hb2 (w.heap.size + 1) ?_ (fun hchb2_1 hzhb2_1 hshb2_1 => ?_); focus go_size)); (try (refine kept_at hb2 (w.heap.size + 2) ?_ (fun hchb2_2 hzhb2_2 hshb2_2 => ?_); focus go_size)); (try (refine kept_at hb2 (w.heap.size + 3) ?_ (fun hchb2_3 hzhb2_3 hshb2_3 => ?_); focus go_size)); (try (refine kept_at hb2 (w1.heap.size) ?_ (fun hchb2_4 hzhb2_4 hshb2_4 => ?_); focus go_size)); (try (refine kept_at hb2 (w1.heap.size + 1) ?_ (fun hchb2_5 hzhb2_5 hshb2_5 => ?_); focus go_size)); have b2 := kept_trans (a := w) (by go_grown) hb2; have nw2a : w.heap.size + 1 < w2.heap.size := (by omega); have nw2b : w2.heap.size ≠ w.heap.size := Nat.ne_of_gt (Nat.lt_of_succ_lt nw2a); have nw2c : w2.heap.size ≠ w.heap.size + 1 := Nat.ne_of_gt nw2a; have nw2d : w2.heap.size + 1 ≠ w.heap.size := Nat.ne_of_gt (Nat.lt_succ_of_lt (Nat.lt_of_succ_lt nw2a)); have nw2e : w2.heap.size + 1 ≠ w.heap.size + 1 := Nat.ne_of_gt (Nat.lt_succ_of_lt nw2a))
    | (go_at_call 143; refine (minus_any _ _ _ _ (by omega) (by omega) (by omega) (by omega) _).mono ?_; rintro e w1 ⟨rfl, hb1⟩; have hs1 := hb1.size; (try simp at hs1); (try (refine kept_at hb1 (w.heap.size) ?_ (fun hchb1_0 hzhb1_0 hshb1_0 => ?_); focus go_size)); (try (refine kept_at hb1 (w.heap.size + 1) ?_ (fun hchb1_1 hzhb1_1 hshb1_1 => ?_); focus go_size)); (try (refine kept_at hb1 (w.heap.size + 2) ?_ (fun hchb1_2 hzhb1_2 hshb1_2 => ?_); focus go_size)); (try (refine kept_at hb1 (w.heap.size + 3) ?_ (fun hchb1_3 hzhb1_3 hshb1_3 => ?_); focus go_size)); have b1 := kept_trans (a := w) (by go_grown) hb1; have nw1a : w.heap.size + 1 < w1.heap.size := (by omega); have nw1b : w1.heap.size ≠ w.heap.size := Nat.ne_of_gt (Nat.lt_of_succ_lt nw1a); have nw1c : w1.heap.size ≠ w.heap.size + 1 := Nat.ne_of_gt nw1a; have nw1d : w1.heap.size + 1 ≠ w.heap.size := Nat.ne_of_gt (Nat.lt_succ_of_lt (Nat.lt_of_succ_lt nw1a)); have nw1e : w1.heap.size + 1 ≠ w.heap.size + 1 := Nat.ne_of_gt (Nat.lt_succ_of_lt nw1a); have hfirst := trivial))
  all_goals
    go_wp2
    go_ret
    exact ⟨by rw [G1.out]; rfl, by go_grown⟩

theorem nextZ_any (v : Value) (zs : List (Int × Int)) (k : Nat) (w : World) (h : RdP w v zs) (hk : k < zs.length) (hn : zs.length ≤ 1000000) :
    Calls Try.prog 108 #[v, .int .i64 (k : Int)] w fun e w' => e = .returned (.agg #[.int .i64 (ptZ zs ((k + 1) % zs.length)).1, .int .i64 (ptZ zs ((k + 1) % zs.length)).2]) ∧ Below w.heap.size w w' := by
  obtain ⟨A, c, rfl, hl, r1⟩ := RdP_slice h
  clear h
  have hm : (k + 1) % zs.length < zs.length := Nat.mod_lt _ (by omega)
  have hi : ((k : Int) + 1).tmod (zs.length : Int) = (((k + 1) % zs.length : Nat) : Int) := by rw [tmod_pos _ _ (by omega)]; simp
  rw [ptZ_at zs _ hm]
  obtain ⟨b, off, rfl, hbl, hc0, hc1⟩ := r1 _ hm
  clear r1
  generalize zs[(k + 1) % zs.length].1 = x at *
  generalize zs[(k + 1) % zs.length].2 = y at *
  generalize (k + 1) % zs.length = m at *
  have h0 : ((zs.length : Int) == 0) = false := by rw [beq_eq_false_iff_ne]; omega
  go_enter Try.func108, Try.ntmps108
  go_wp2
  go_returns
  exact ⟨rfl, by go_grown⟩

theorem leftN_step (zs : List (Int × Int)) (o a : Int × Int) (k : Nat) (h : k < zs.length) : leftN (zs.take (k + 1)) o a = leftN (zs.take k) o a + if 0 < crossL o a zs[k] then 1 else 0 := by
  unfold leftN
  rw [← List.take_append_getElem h, List.countP_append]
  simp [List.countP_cons]

theorem leftN_le (zs : List (Int × Int)) (o a : Int × Int) : leftN zs o a ≤ zs.length := List.countP_le_length

theorem leftOf_any (o a : Int × Int) (v : Value) (zs : List (Int × Int)) (w : World) (h : RdP w v zs) (ho : near0 o) (ha : near0 a) (hz : ∀ k (hk : k < zs.length), near0 zs[k]) (hn : zs.length ≤ 1000000) :
    Calls Try.prog 142 #[.agg #[.int .i64 o.1, .int .i64 o.2, .int .i64 a.1, .int .i64 a.2], v] w fun e w' => e = .returned (.int .i64 (leftN zs o a : Nat)) ∧ Below w.heap.size w w' := by
  obtain ⟨A, c, rfl, hl, r1⟩ := RdP_slice h
  clear h
  have R := Lib.hid r1; clear r1
  have HS := Lib.hid (fun k (hk : k < zs.length) u => side_any o a zs[k] u ho ha (hz k hk))
  have HST := Lib.hid (fun k (hk : k < zs.length) => leftN_step zs o a k hk)
  have HLE := Lib.hid (fun k (hk : k ≤ zs.length) => show leftN (zs.take k) o a ≤ k from Nat.le_trans (leftN_le (zs.take k) o a) (by simp; omega))
  have HEND := Lib.hid (show leftN (zs.take zs.length) o a = leftN zs o a by rw [List.take_length])
  have H0 := Lib.hid (show leftN (zs.take 0) o a = 0 by simp [leftN])
  clear hz ho ha
  generalize leftN zs o a = L at *
  generalize hF : (fun k => leftN (zs.take k) o a) = F at *
  have hf : ∀ k, leftN (zs.take k) o a = F k := fun k => by rw [← hF]
  simp only [hf] at HST HLE HEND H0
  clear hF hf
  obtain ⟨o1, o2⟩ := o
  obtain ⟨a1, a2⟩ := a
  dsimp only at *
  go_enter Try.func142, Try.ntmps142
  go_wp2_with fail
  go_loopw [5, 10] (fun q i wr => ∃ k : Nat, k ≤ zs.length ∧ i = .int .i64 k ∧ q = .int .i64 (F k : Nat) ∧ (wr.cell? ⟨w.heap.size, 0, none⟩ = some (.int .i64 o1) ∧ wr.cell? ⟨w.heap.size, 1, none⟩ = some (.int .i64 o2) ∧ wr.cell? ⟨w.heap.size, 2, none⟩ = some (.int .i64 a1) ∧ wr.cell? ⟨w.heap.size, 3, none⟩ = some (.int .i64 a2)) ∧ w.heap.size < wr.heap.size ∧ Below w.heap.size w wr) (fun _ i _ => zs.length - (intOf i).toNat)
  case atStart => exact ⟨0, by omega, rfl, by rw [H0.out]; rfl, by simp, by simp, by go_grown⟩
  case round =>
    obtain ⟨k, hk, rfl, rfl, ⟨f0, f1, f2, f3⟩, hlw, hb⟩ := hrel
    by_cases hlt : k < zs.length
    · obtain ⟨b, off, rfl, hbl, hc0, hc1⟩ := R.out k hlt
      rw [← kept_cell hb b _ hbl] at hc0 hc1
      have hst := HST.out k hlt
      have hle := HLE.out k hk
      have HSS := Lib.hid (HS.out k hlt)
      generalize crossL (o1, o2) (a1, a2) zs[k] = D at *
      generalize zs[k].1 = x at *
      generalize zs[k].2 = y at *
      generalize F k = m at *
      by_cases hd : 0 < D
      all_goals
        simp only [hd, if_true, if_false] at hst
        have HT := Lib.hid hst; clear hst
        go_wp2_with fail
        refine (HSS.out _).mono ?_
        rintro e w1 ⟨rfl, hb1⟩
        refine kept_at hb1 w.heap.size (by go_size) fun c1 z1 s1 => ?_
        have b1 := kept_trans (a := w) (by go_grown) hb1
        go_wp2
        go_roundw
        case rel => exact ⟨k + 1, by omega, by go_num, by rw [HT.out]; go_num, ⟨by rw [c1]; simp [World.cell?_alloc_past, *], by rw [c1]; simp [World.cell?_alloc_past, *], by rw [c1]; simp [World.cell?_alloc_past, *], by rw [c1]; simp [World.cell?_alloc_past, *]⟩, s1, b1⟩
        case measure => simp [intOf]; omega
    · have : k = zs.length := by omega
      subst this
      rw [HEND.out]
      go_wp2
      go_ret
      exact ⟨rfl, hb⟩

/-- The first place at which p holds; -1 if there is none. -/
def idxL {α : Type} (p : α → Bool) (zs : List α) : Int := if zs.findIdx p < zs.length then (zs.findIdx p : Int) else -1

theorem idxL_is {α : Type} {p : α → Bool} {zs : List α} {k : Nat} (h : k < zs.length) (hk : p zs[k] = true) (hb : ∀ j (hj : j < zs.length), j < k → p zs[j] = false) : idxL p zs = (k : Int) := by
  unfold idxL
  have e : zs.findIdx p = k := by
    rw [List.findIdx_eq h]
    exact ⟨hk, fun j hj => hb j (by omega) hj⟩
  rw [e, if_pos h]

theorem idxL_none {α : Type} {p : α → Bool} {zs : List α} (hb : ∀ j (hj : j < zs.length), p zs[j] = false) : idxL p zs = -1 := by
  unfold idxL
  have e : zs.findIdx p = zs.length := by
    rw [List.findIdx_eq_length]
    intro x hx
    obtain ⟨i, hi, rfl⟩ := List.mem_iff_getElem.1 hx
    exact hb i hi
  rw [e, if_neg (by omega)]

theorem idxL_any {α : Type} (p : α → Bool) (zs : List α) : decide (0 ≤ idxL p zs) = zs.any p := by
  unfold idxL
  by_cases h : zs.findIdx p < zs.length
  · rw [if_pos h]
    have := List.findIdx_lt_length.1 h
    simp
    obtain ⟨x, hx, hp⟩ := this
    exact ⟨x, hx, hp⟩
  · rw [if_neg h]
    have : ¬ ∃ x ∈ zs, p x = true := fun hx => h (List.findIdx_lt_length.2 hx)
    simp at this ⊢
    exact this

theorem idxL_bd {α : Type} (p : α → Bool) (zs : List α) : -1 ≤ idxL p zs ∧ idxL p zs ≤ zs.length := by
  unfold idxL
  split <;> omega

set_option maxRecDepth 100000 in
theorem indexFuncP_any (v : Value) (zs : List (Int × Int)) (g : FuncId) (he : Enters Try.prog g) (cap : Array Value) (p : Int × Int → Bool) (w : World) (h : RdP w v zs)
    (hf : ∀ k (hk : k < zs.length) w1, Below w.heap.size w w1 → Calls Try.prog g (#[.agg #[.int .i64 zs[k].1, .int .i64 zs[k].2]] ++ cap) w1 fun e w2 => e = .returned (.bool (p zs[k])) ∧ Below w1.heap.size w1 w2) :
    Calls Try.prog 145 #[v, .func (.func g) #[] cap] w fun e w' => e = .returned (.int .i64 (idxL p zs)) ∧ Below w.heap.size w w' := by
  obtain ⟨A, c, rfl, hl, r1⟩ := RdP_slice h
  clear h
  have R := Lib.hid r1; clear r1
  have Hf := Lib.hid hf; clear hf
  have HIS := Lib.hid (fun k (h : k < zs.length) => @idxL_is _ p zs k h)
  have HNO := Lib.hid (@idxL_none _ p zs)
  generalize idxL p zs = G at *
  go_enter Try.func145, Try.ntmps145
  go_wp2_with fail
  go_loopw [8] (fun i wr => ∃ k : Nat, k ≤ zs.length ∧ i = .int .i64 k ∧ (∀ j (hj : j < zs.length), j < k → p zs[j] = false) ∧ Below w.heap.size w wr) (fun i _ => zs.length - (intOf i).toNat)
  case atStart => exact ⟨0, by omega, rfl, fun j _ h => by omega, Below.refl _ _⟩
  case round =>
    obtain ⟨k, hk, rfl, hall, hb⟩ := hrel
    by_cases hlt : k < zs.length
    · obtain ⟨b, off, rfl, hbl, hc0, hc1⟩ := R.out k hlt
      rw [← kept_cell hb b _ hbl] at hc0 hc1
      have hc := Hf.out k hlt wr hb
      cases hp : p zs[k]
      · have hnx : ∀ j (hj : j < zs.length), j < k + 1 → p zs[j] = false := fun j hj hjk => by
          rcases Nat.lt_or_ge j k with h1 | h1
          · exact hall j hj h1
          · obtain rfl : j = k := by omega
            exact hp
        rw [hp] at hc
        have HNX := Lib.hid hnx; clear hnx hall hp
        have Hc := Lib.hid hc; clear hc
        generalize zs[k].1 = x at *
        generalize zs[k].2 = y at *
        go_wp2_with fail
        rw [he, Oper.upon_enter]
        refine Hc.out.mono ?_
        rintro e w1 ⟨rfl, hb1⟩
        go_wp2
        go_roundw
        case rel => exact ⟨k + 1, by omega, by go_num, HNX.out, kept_trans hb hb1⟩
        case measure => simp [intOf]; omega
      · have hE := HIS.out k hlt hp hall
        subst hE
        rw [hp] at hc
        have Hc := Lib.hid hc; clear hc hall hp
        generalize zs[k].1 = x at *
        generalize zs[k].2 = y at *
        go_wp2_with fail
        rw [he, Oper.upon_enter]
        refine Hc.out.mono ?_
        rintro e w1 ⟨rfl, hb1⟩
        go_wp2
        go_ret
        exact ⟨rfl, kept_trans hb hb1⟩
    · have : k = zs.length := by omega
      subst this
      have hE := HNO.out (fun j hj => hall j hj hj)
      clear hall
      subst hE
      go_wp2
      go_ret
      exact ⟨rfl, hb⟩

theorem containsFuncP_any (v : Value) (zs : List (Int × Int)) (g : FuncId) (he : Enters Try.prog g) (cap : Array Value) (p : Int × Int → Bool) (w : World) (h : RdP w v zs)
    (hf : ∀ k (hk : k < zs.length) w1, Below w.heap.size w w1 → Calls Try.prog g (#[.agg #[.int .i64 zs[k].1, .int .i64 zs[k].2]] ++ cap) w1 fun e w2 => e = .returned (.bool (p zs[k])) ∧ Below w1.heap.size w1 w2) :
    Calls Try.prog 138 #[v, .func (.func g) #[] cap] w fun e w' => e = .returned (.bool (zs.any p)) ∧ Below w.heap.size w w' := by
  have H := Lib.hid (indexFuncP_any v zs g he cap p w h hf)
  obtain ⟨A, c, rfl, hl, r1⟩ := RdP_slice h
  clear h hf r1
  have hbd := idxL_bd p zs
  rw [← idxL_any]
  generalize idxL p zs = G at *
  go_enter Try.func138, Try.ntmps138
  go_wp2_with fail
  refine H.out.mono ?_
  rintro e w1 ⟨rfl, hb1⟩
  go_wp2
  go_ret
  exact ⟨rfl, hb1⟩

/-- A line, cell by cell. -/
def encL (z : (Int × Int) × (Int × Int)) : List Value := [.int .i64 z.1.1, .int .i64 z.1.2, .int .i64 z.2.1, .int .i64 z.2.2]

def flatL (zs : List ((Int × Int) × (Int × Int))) : List Value := zs.flatMap encL

theorem flatL_len (zs : List ((Int × Int) × (Int × Int))) : (flatL zs).length = zs.length * 4 := flat_len (enc := encL) (fun _ => rfl) zs

theorem flatL_at (zs : List ((Int × Int) × (Int × Int))) (k j : Nat) (h : k < zs.length) (hj : j < 4) : (flatL zs)[k * 4 + j]? = (encL zs[k])[j]? := flat_at (enc := encL) (sz := 4) (fun _ => rfl) zs k j h hj

/-- The slice value reads as a list of lines. -/
def RdL (w : World) (v : Value) (zs : List ((Int × Int) × (Int × Int))) : Prop := RdF w v zs.length 4 (flatL zs)

theorem RdL_slice {w : World} {v : Value} {zs : List ((Int × Int) × (Int × Int))} (h : RdL w v zs) : ∃ A c, v = .slice A zs.length c ∧ zs.length ≤ 9223372036854775807 ∧
    ∀ k, (hk : k < zs.length) → ∃ b off, A = some ⟨b, off, none⟩ ∧ b < w.heap.size ∧ w.cell? ⟨b, off + k * 4, none⟩ = some (.int .i64 zs[k].1.1) ∧ w.cell? ⟨b, off + k * 4 + 1, none⟩ = some (.int .i64 zs[k].1.2) ∧ w.cell? ⟨b, off + k * 4 + 2, none⟩ = some (.int .i64 zs[k].2.1) ∧ w.cell? ⟨b, off + k * 4 + 3, none⟩ = some (.int .i64 zs[k].2.2) := by
  obtain ⟨hl, hx, A, c, rfl, hr⟩ := h
  refine ⟨A, c, rfl, hl, fun k hk => ?_⟩
  obtain ⟨b, off, rfl, hlt, h0⟩ := hr (k * 4) (by omega)
  have at_ : ∀ j, j < 4 → w.cell? ⟨b, off + (k * 4 + j), none⟩ = (encL zs[k])[j]? := by
    intro j hj
    obtain ⟨b', off', e, _, h1⟩ := hr (k * 4 + j) (by omega)
    simp only [Option.some.injEq, Addr.mk.injEq, and_true] at e
    obtain ⟨rfl, rfl⟩ := e
    rw [h1, flatL_at zs k j hk hj]
  exact ⟨b, off, rfl, hlt, at_ 0 (by omega), at_ 1 (by omega), at_ 2 (by omega), at_ 3 (by omega)⟩

theorem info_line : (Try.prog.info? 106).map (fun i => (i.zero, i.size, i.bytes)) = some (some (.agg #[.int .i64 0, .int .i64 0, .int .i64 0, .int .i64 0]), 4, 32) := by kernel_rfl

theorem make_lines (n : Nat) (h : n ≤ 4000000) (w : World) :
    (Instr.makeSlice 147 (.int .i64 (n : Int)) (.int .i64 (n : Int))).run Try.prog w = .ok (.slice (some ⟨w.heap.size, 0, none⟩) n n) (w.alloc (.cells (madeCells #[.int .i64 0, .int .i64 0, .int .i64 0, .int .i64 0] (n * 4)) 106)) := by
  obtain ⟨i, hi, hz, hs, hb⟩ := info_parts info_line
  have hb' : (i.bytes : Int) * (n : Int) ≤ 281474976710656 := by rw [hb]; omega
  have hr := run_make (P := Try.prog) w 147 106 i (.agg #[.int .i64 0, .int .i64 0, .int .i64 0, .int .i64 0]) Try.underlying147 hi hz .i64 .i64 n n (by omega) (Int.le_refl _) hb' (by omega)
  simp only [Int.toNat_natCast, hs] at hr
  exact hr

def zeroL : (Int × Int) × (Int × Int) := ((0, 0), (0, 0))

theorem madeL_flat (n : Nat) : (madeCells #[.int .i64 0, .int .i64 0, .int .i64 0, .int .i64 0] (n * 4)).toList = flatL (List.replicate n zeroL) := by
  apply List.ext_getElem?
  intro j
  by_cases hj : j < n * 4
  · have h := flatL_at (List.replicate n zeroL) (j / 4) (j % 4) (by simp; omega) (by omega)
    rw [show j / 4 * 4 + j % 4 = j by omega, List.getElem_replicate] at h
    rw [h]
    have hm := Nat.mod_lt j (show 0 < 4 by omega)
    rcases (show j % 4 = 0 ∨ j % 4 = 1 ∨ j % 4 = 2 ∨ j % 4 = 3 by omega) with hp | hp | hp | hp <;> simp [madeCells, hj, hp, encL, zeroL]
  · rw [List.getElem?_eq_none (by rw [Array.length_toList, size_madeCells]; omega), List.getElem?_eq_none (by rw [flatL_len]; simp; omega)]

theorem flatL_set (L : List ((Int × Int) × (Int × Int))) (j : Nat) (p : (Int × Int) × (Int × Int)) :
    (((((flatL L).set (j * 4) (.int .i64 p.1.1)).set (j * 4 + 1) (.int .i64 p.1.2)).set (j * 4 + 2) (.int .i64 p.2.1)).set (j * 4 + 3) (.int .i64 p.2.2)) = flatL (L.set j p) := by
  induction L generalizing j with
  | nil => simp [flatL]
  | cons z L ih =>
    cases j with
    | zero => simp [flatL, encL]
    | succ j =>
      have := ih j
      simp only [flatL, encL, List.flatMap_cons, List.cons_append, List.nil_append, Nat.succ_mul, List.set_cons_succ] at this ⊢
      rw [← this]

/-- A line is stored in a row, cell by cell. -/
def setL4 (w : World) (g o : Nat) (p : (Int × Int) × (Int × Int)) : World :=
  ((((w.setCell ⟨g, o, none⟩ (.int .i64 p.1.1)).setCell ⟨g, o + 1, none⟩ (.int .i64 p.1.2)).setCell ⟨g, o + 2, none⟩ (.int .i64 p.2.1)).setCell ⟨g, o + 3, none⟩ (.int .i64 p.2.2))

theorem row_setL4 {w : World} {base g n cap : Nat} {L : List ((Int × Int) × (Int × Int))} (h : w.ownsRow base 106 4 (.slice (some ⟨g, 0, none⟩) n cap) n (flatL L)) (j : Nat) (p : (Int × Int) × (Int × Int)) :
    (setL4 w g (j * 4) p).ownsRow base 106 4 (.slice (some ⟨g, 0, none⟩) n cap) n (flatL (L.set j p)) ∧ w.grownBy (setL4 w g (j * 4) p) (some g) := by
  have h0 := h.stored (j * 4) (.int .i64 p.1.1)
  have h1 := h0.1.stored (j * 4 + 1) (.int .i64 p.1.2)
  have h2 := h1.1.stored (j * 4 + 2) (.int .i64 p.2.1)
  have h3 := h2.1.stored (j * 4 + 3) (.int .i64 p.2.2)
  rw [flatL_set] at h3
  exact ⟨h3.1, grown_step h0.2 (grown_step h1.2 (grown_step h2.2 h3.2))⟩

theorem row_cellsL {w : World} {base g n cap : Nat} {L : List ((Int × Int) × (Int × Int))} (h : w.ownsRow base 106 4 (.slice (some ⟨g, 0, none⟩) n cap) n (flatL L)) (j : Nat) (hj : j < n) :
    ∃ u0 u1 u2 u3, w.cell? ⟨g, j * 4, none⟩ = some u0 ∧ w.cell? ⟨g, j * 4 + 1, none⟩ = some u1 ∧ w.cell? ⟨g, j * 4 + 2, none⟩ = some u2 ∧ w.cell? ⟨g, j * 4 + 3, none⟩ = some u3 := by
  have hl : (flatL L).length = n * 4 := h.1
  have at_ : ∀ o, o < n * 4 → ∃ u, w.cell? ⟨g, o, none⟩ = some u := fun o ho => ⟨_, by rw [h.cellAt o ho]; exact List.getElem?_eq_getElem (by omega)⟩
  obtain ⟨u0, h0⟩ := at_ (j * 4) (by omega)
  obtain ⟨u1, h1⟩ := at_ (j * 4 + 1) (by omega)
  obtain ⟨u2, h2⟩ := at_ (j * 4 + 2) (by omega)
  obtain ⟨u3, h3⟩ := at_ (j * 4 + 3) (by omega)
  exact ⟨u0, u1, u2, u3, h0, h1, h2, h3⟩

set_option maxRecDepth 100000 in
set_option maxHeartbeats 4000000 in
theorem sidesOf_any (v : Value) (zs : List (Int × Int)) (w : World) (h : RdP w v zs) (hn : zs.length ≤ 1000000) :
    Calls Try.prog 132 #[v] w fun e w' => ∃ v', e = .returned v' ∧ RowF 106 4 w' w.heap.size w'.heap.size v' (sidesL zs).length (flatL (sidesL zs)) ∧ Below w.heap.size w w' := by
  obtain ⟨A, c, rfl, hl, r1⟩ := RdP_slice h
  clear h
  have R := Lib.hid r1; clear r1
  have hSl := sidesL_len zs
  have hmk := make_lines zs.length (by omega)
  have hcap : zs.length ≤ maxLen := by unfold maxLen; omega
  have hrow0 : (w.alloc (.cells (madeCells #[.int .i64 0, .int .i64 0, .int .i64 0, .int .i64 0] (zs.length * 4)) 106)).ownsRow w.heap.size 106 4 (.slice (some ⟨w.heap.size, 0, none⟩) zs.length zs.length) zs.length (flatL ((sidesL zs).take 0 ++ List.replicate (zs.length - 0) zeroL)) := by
    have := World.ownsRow_lit w (e := 106) (size := 4) (madeCells #[.int .i64 0, .int .i64 0, .int .i64 0, .int .i64 0] (zs.length * 4)) zs.length (Nat.le_refl w.heap.size) hcap (size_madeCells _ _)
    rw [madeL_flat] at this
    simpa using this
  have Hrow := Lib.hid hrow0; clear hrow0
  have hat : ∀ k (hk : k < (sidesL zs).length) (hk2 : k < zs.length), (sidesL zs)[k] = (zs[k], ptZ zs ((k + 1) % zs.length)) := fun k hk hk2 => by rw [sidesL_at, ptZ_at zs k hk2]
  have HAT := Lib.hid hat; clear hat
  have HFS := Lib.hid (fun k (hk : k < (sidesL zs).length) => fill_step (sidesL zs) zeroL k hk)
  generalize sidesL zs = T at *
  rw [hSl]
  have HSL := Lib.hid hSl; clear hSl
  go_enter Try.func132, Try.ntmps132
  go_wp2_with fail
  go_loopw [11] (fun i wr => ∃ k : Nat, k ≤ zs.length ∧ i = .int .i64 k ∧ wr.ownsRow w.heap.size 106 4 (.slice (some ⟨w.heap.size, 0, none⟩) zs.length zs.length) zs.length (flatL (T.take k ++ List.replicate (zs.length - k) zeroL)) ∧ Below w.heap.size w wr) (fun i _ => zs.length - (intOf i).toNat)
  case atStart => exact ⟨0, by omega, rfl, Hrow.out, by go_grown⟩
  case round =>
    obtain ⟨k, hk, rfl, hown, hb⟩ := hrel
    have hsz := hb.size
    by_cases hlt : k < zs.length
    · have hTk := HAT.out k (by rw [HSL.out]; exact hlt) hlt
      have hfs := HFS.out k (by rw [HSL.out]; exact hlt)
      rw [hTk] at hfs
      have hm : (k + 1) % zs.length < zs.length := Nat.mod_lt _ (by omega)
      have hi : ((k : Int) + 1).tmod (zs.length : Int) = (((k + 1) % zs.length : Nat) : Int) := by rw [tmod_pos _ _ (by omega)]; simp
      have h0 : ((zs.length : Int) == 0) = false := by rw [beq_eq_false_iff_ne]; omega
      rw [ptZ_at zs _ hm] at hfs
      obtain ⟨b, off, rfl, hbl, hc0, hc1⟩ := R.out k hlt
      obtain ⟨b', off', e', _, hd0, hd1⟩ := R.out _ hm
      cases e'
      rw [← kept_cell hb b _ hbl] at hc0 hc1 hd0 hd1
      have hbl' := Nat.lt_of_lt_of_le hbl hsz
      generalize hx : zs[k] = x at *
      generalize hy : zs[(k + 1) % zs.length] = y at *
      generalize (k + 1) % zs.length = m at *
      have hst := row_setL4 (hown.alloc (.cells #[.int .i64 x.1, .int .i64 x.2] 56)) k (x, y)
      rw [HSL.out] at hfs
      rw [hfs] at hst
      unfold setL4 at hst
      dsimp only at hst
      obtain ⟨u0, u1, u2, u3, g0, g1, g2, g3⟩ := row_cellsL hown k hlt
      have z0 := hown.frozenAt (k * 4)
      have z1 := hown.frozenAt (k * 4 + 1)
      have z2 := hown.frozenAt (k * 4 + 2)
      have z3 := hown.frozenAt (k * 4 + 3)
      have HST := Lib.hid hst; clear hst hown hfs hTk hx hy
      obtain ⟨x1, x2⟩ := x
      obtain ⟨y1, y2⟩ := y
      dsimp only at *
      have hgl : w.heap.size < wr.heap.size := World.block_lt_of_cell? _ _ g0
      have h0a : ¬ (zs.length : Int) = 0 := by omega
      have hmI : (m : Int) < (zs.length : Int) := by omega
      have hkI : (k : Int) < (zs.length : Int) := by omega
      have hmJ : (0 : Int) ≤ (m : Int) := by omega
      have hkJ : (0 : Int) ≤ (k : Int) := by omega
      have hmN : ((m : Int)).toNat = m := by omega
      have hwk : IntKind.i64.wrap ((k : Int) + 1) = (k : Int) + 1 := IntWalk.i64_in _ (by omega)
      have hT1 : ((k : Int) + 1).tmod (zs.length : Int) < (zs.length : Int) := by rw [hi]; omega
      have hT2 : (0 : Int) ≤ ((k : Int) + 1).tmod (zs.length : Int) := by rw [hi]; omega
      have hT3 : (((k : Int) + 1).tmod (zs.length : Int)).toNat = m := by rw [hi]; omega
      have h0b : ¬ zs.length = 0 := by omega
      have h0c : (zs.length == 0) = false := by rw [beq_eq_false_iff_ne]; omega
      have h0d : zs ≠ [] := by intro h; subst h; simp at hlt
      go_wp2_with fail
      have e0 : (wr.alloc (.cells #[.int .i64 x1, .int .i64 x2] 56)).cell? ⟨wr.heap.size, 0, none⟩ = some (.int .i64 x1) := by simp
      have e1 : (wr.alloc (.cells #[.int .i64 x1, .int .i64 x2] 56)).cell? ⟨wr.heap.size, 1, none⟩ = some (.int .i64 x2) := by simp
      have e2 : (wr.alloc (.cells #[.int .i64 x1, .int .i64 x2] 56)).cell? ⟨b, off + m * 2, none⟩ = some (.int .i64 y1) := by rw [World.cell?_alloc_past _ _ _ hbl']; exact hd0
      have e3 : (wr.alloc (.cells #[.int .i64 x1, .int .i64 x2] 56)).cell? ⟨b, off + m * 2 + 1, none⟩ = some (.int .i64 y2) := by rw [World.cell?_alloc_past _ _ _ hbl']; exact hd1
      have e4 : (wr.alloc (.cells #[.int .i64 x1, .int .i64 x2] 56)).cell? ⟨w.heap.size, k * 4, none⟩ = some u0 := by rw [World.cell?_alloc_past _ _ _ hgl]; exact g0
      have e5 : (wr.alloc (.cells #[.int .i64 x1, .int .i64 x2] 56)).cell? ⟨w.heap.size, k * 4 + 1, none⟩ = some u1 := by rw [World.cell?_alloc_past _ _ _ hgl]; exact g1
      have e6 : (wr.alloc (.cells #[.int .i64 x1, .int .i64 x2] 56)).cell? ⟨w.heap.size, k * 4 + 2, none⟩ = some u2 := by rw [World.cell?_alloc_past _ _ _ hgl]; exact g2
      have e7 : (wr.alloc (.cells #[.int .i64 x1, .int .i64 x2] 56)).cell? ⟨w.heap.size, k * 4 + 3, none⟩ = some u3 := by rw [World.cell?_alloc_past _ _ _ hgl]; exact g3
      have y0' : (wr.alloc (.cells #[.int .i64 x1, .int .i64 x2] 56)).frozen? ⟨w.heap.size, k * 4, none⟩ = false := by rw [World.frozen?_alloc_past _ _ _ hgl]; exact z0
      have y1' : (wr.alloc (.cells #[.int .i64 x1, .int .i64 x2] 56)).frozen? ⟨w.heap.size, k * 4 + 1, none⟩ = false := by rw [World.frozen?_alloc_past _ _ _ hgl]; exact z1
      have y2' : (wr.alloc (.cells #[.int .i64 x1, .int .i64 x2] 56)).frozen? ⟨w.heap.size, k * 4 + 2, none⟩ = false := by rw [World.frozen?_alloc_past _ _ _ hgl]; exact z2
      have y3' : (wr.alloc (.cells #[.int .i64 x1, .int .i64 x2] 56)).frozen? ⟨w.heap.size, k * 4 + 3, none⟩ = false := by rw [World.frozen?_alloc_past _ _ _ hgl]; exact z3
      have hba : Below w.heap.size w (wr.alloc (.cells #[.int .i64 x1, .int .i64 x2] 56)) := by go_grown
      clear g0 g1 g2 g3 z0 z1 z2 z3 hd0 hd1 hc0 hc1
      generalize wr.alloc (.cells #[.int .i64 x1, .int .i64 x2] 56) = wa at *
      go_still_tail 13, (by kernel_rfl)
      go_wp2
      go_roundw
      case rel => exact ⟨k + 1, by omega, by go_num, HST.out.1.drew, below_drew (grown_below hba HST.out.2 (fun g hg => by simp at hg; omega))⟩
      case measure => simp [intOf]; omega
    · have : k = zs.length := by omega
      subst this
      have hT : T.take zs.length ++ List.replicate (zs.length - zs.length) zeroL = T := by rw [List.take_of_length_le (by rw [HSL.out]; exact Nat.le_refl _)]; simp
      rw [hT] at hown
      have Hown := Lib.hid hown; clear hown
      go_wp2
      go_ret
      exact ⟨_, rfl, ⟨Hown.out, fun g hg => by simp [Value.ownBlock] at hg; subst hg; exact ⟨Nat.le_refl _, (Hown.out.lt _ rfl).2⟩⟩, hb⟩

set_option maxRecDepth 100000 in
theorem indexFuncL_any (v : Value) (zs : List ((Int × Int) × (Int × Int))) (g : FuncId) (he : Enters Try.prog g) (cap : Array Value) (p : (Int × Int) × (Int × Int) → Bool) (w : World) (h : RdL w v zs)
    (hf : ∀ k (hk : k < zs.length) w1, Below w.heap.size w w1 → Calls Try.prog g (#[.agg #[.int .i64 zs[k].1.1, .int .i64 zs[k].1.2, .int .i64 zs[k].2.1, .int .i64 zs[k].2.2]] ++ cap) w1 fun e w2 => e = .returned (.bool (p zs[k])) ∧ Below w1.heap.size w1 w2) :
    Calls Try.prog 146 #[v, .func (.func g) #[] cap] w fun e w' => e = .returned (.int .i64 (idxL p zs)) ∧ Below w.heap.size w w' := by
  obtain ⟨A, c, rfl, hl, r1⟩ := RdL_slice h
  clear h
  have R := Lib.hid r1; clear r1
  have Hf := Lib.hid hf; clear hf
  have HIS := Lib.hid (fun k (h : k < zs.length) => @idxL_is _ p zs k h)
  have HNO := Lib.hid (@idxL_none _ p zs)
  generalize idxL p zs = G at *
  go_enter Try.func146, Try.ntmps146
  go_wp2_with fail
  go_loopw [8] (fun i wr => ∃ k : Nat, k ≤ zs.length ∧ i = .int .i64 k ∧ (∀ j (hj : j < zs.length), j < k → p zs[j] = false) ∧ Below w.heap.size w wr) (fun i _ => zs.length - (intOf i).toNat)
  case atStart => exact ⟨0, by omega, rfl, fun j _ h => by omega, Below.refl _ _⟩
  case round =>
    obtain ⟨k, hk, rfl, hall, hb⟩ := hrel
    by_cases hlt : k < zs.length
    · obtain ⟨b, off, rfl, hbl, hc0, hc1, hc2, hc3⟩ := R.out k hlt
      rw [← kept_cell hb b _ hbl] at hc0 hc1 hc2 hc3
      have hc := Hf.out k hlt wr hb
      cases hp : p zs[k]
      · have hnx : ∀ j (hj : j < zs.length), j < k + 1 → p zs[j] = false := fun j hj hjk => by
          rcases Nat.lt_or_ge j k with h1 | h1
          · exact hall j hj h1
          · obtain rfl : j = k := by omega
            exact hp
        rw [hp] at hc
        have HNX := Lib.hid hnx; clear hnx hall hp
        have Hc := Lib.hid hc; clear hc
        generalize zs[k].1.1 = x at *
        generalize zs[k].1.2 = x2 at *
        generalize zs[k].2.1 = y at *
        generalize zs[k].2.2 = y2 at *
        go_wp2_with fail
        rw [he, Oper.upon_enter]
        refine Hc.out.mono ?_
        rintro e w1 ⟨rfl, hb1⟩
        go_wp2
        go_roundw
        case rel => exact ⟨k + 1, by omega, by go_num, HNX.out, kept_trans hb hb1⟩
        case measure => simp [intOf]; omega
      · have hE := HIS.out k hlt hp hall
        subst hE
        rw [hp] at hc
        have Hc := Lib.hid hc; clear hc hall hp
        generalize zs[k].1.1 = x at *
        generalize zs[k].1.2 = x2 at *
        generalize zs[k].2.1 = y at *
        generalize zs[k].2.2 = y2 at *
        go_wp2_with fail
        rw [he, Oper.upon_enter]
        refine Hc.out.mono ?_
        rintro e w1 ⟨rfl, hb1⟩
        go_wp2
        go_ret
        exact ⟨rfl, kept_trans hb hb1⟩
    · have : k = zs.length := by omega
      subst this
      have hE := HNO.out (fun j hj => hall j hj hj)
      clear hall
      subst hE
      go_wp2
      go_ret
      exact ⟨rfl, hb⟩

theorem containsFuncL_any (v : Value) (zs : List ((Int × Int) × (Int × Int))) (g : FuncId) (he : Enters Try.prog g) (cap : Array Value) (p : (Int × Int) × (Int × Int) → Bool) (w : World) (h : RdL w v zs)
    (hf : ∀ k (hk : k < zs.length) w1, Below w.heap.size w w1 → Calls Try.prog g (#[.agg #[.int .i64 zs[k].1.1, .int .i64 zs[k].1.2, .int .i64 zs[k].2.1, .int .i64 zs[k].2.2]] ++ cap) w1 fun e w2 => e = .returned (.bool (p zs[k])) ∧ Below w1.heap.size w1 w2) :
    Calls Try.prog 140 #[v, .func (.func g) #[] cap] w fun e w' => e = .returned (.bool (zs.any p)) ∧ Below w.heap.size w w' := by
  have H := Lib.hid (indexFuncL_any v zs g he cap p w h hf)
  obtain ⟨A, c, rfl, hl, r1⟩ := RdL_slice h
  clear h hf r1
  have hbd := idxL_bd p zs
  rw [← idxL_any]
  generalize idxL p zs = G at *
  go_enter Try.func140, Try.ntmps140
  go_wp2_with fail
  refine H.out.mono ?_
  rintro e w1 ⟨rfl, hb1⟩
  go_wp2
  go_ret
  exact ⟨rfl, hb1⟩

theorem badPlace_any (p : Int × Int) (w : World) :
    Calls Try.prog 139 #[.agg #[.int .i64 p.1, .int .i64 p.2]] w fun e w' => e = .returned (.bool (!okP p.1 p.2)) ∧ Below w.heap.size w w' := by
  obtain ⟨x, y⟩ := p
  dsimp only
  go_enter Try.func139, Try.ntmps139
  go_wp2_with (go_at_call 76; refine (validPlace_any _ _ _).mono ?_; rintro e w1 ⟨rfl, hb⟩; have hs := hb.size; (try simp at hs); (try (refine kept_at hb (w.heap.size) ?_ (fun hc0 hz0 hs0 => ?_); focus go_size)); (try (refine kept_at hb (w.heap.size + 1) ?_ (fun hc1 hz1 hs1 => ?_); focus go_size)); (try (refine kept_at hb (w.heap.size + 2) ?_ (fun hc2 hz2 hs2 => ?_); focus go_size)); (try (refine kept_at hb (w.heap.size + 3) ?_ (fun hc3 hz3 hs3 => ?_); focus go_size)); (try (refine kept_at hb (w.heap.size + 4) ?_ (fun hc4 hz4 hs4 => ?_); focus go_size)); (try (refine kept_at hb (w.heap.size + 5) ?_ (fun hc5 hz5 hs5 => ?_); focus go_size)); replace hb := kept_trans (a := w) (by go_grown) hb; have hcl := kept_cell hb; have hzl := kept_frozen hb)
  go_ret
  exact ⟨by simp, by go_grown⟩

set_option maxHeartbeats 1000000 in
theorem badSide_any (s : (Int × Int) × (Int × Int)) (v : Value) (zs : List (Int × Int)) (b0 : Nat) (w : World) (h : RdP w v zs) (hb0 : b0 < w.heap.size) (hv : w.cell? ⟨b0, 0, none⟩ = some v) (h1 : near0 s.1) (h2 : near0 s.2) (hz : ∀ k (hk : k < zs.length), near0 zs[k]) (hn : zs.length ≤ 1000000) :
    Calls Try.prog 141 #[.agg #[.int .i64 s.1.1, .int .i64 s.1.2, .int .i64 s.2.1, .int .i64 s.2.2], .pointer (some ⟨b0, 0, none⟩)] w fun e w' => e = .returned (.bool (decide ((leftN zs s.1 s.2 : Int) ≠ (zs.length : Int) - 2))) ∧ Below w.heap.size w w' := by
  have HL := Lib.hid (fun u (q : RdP u v zs) => leftOf_any s.1 s.2 v zs u q h1 h2 hz hn)
  obtain ⟨A, c, rfl, hl, _⟩ := RdP_slice h
  have H := Lib.hid h; clear h
  have hle := leftN_le zs s.1 s.2
  generalize leftN zs s.1 s.2 = L at *
  obtain ⟨⟨o1, o2⟩, a1, a2⟩ := s
  dsimp only at *
  have hne : ¬ b0 = w.heap.size := by omega
  have hwz : IntKind.i64.wrap ((zs.length : Int) - 2) = (zs.length : Int) - 2 := IntWalk.i64_in _ (by omega)
  go_enter Try.func141, Try.ntmps141
  go_wp2_with fail
  go_region_held3 (fun w' => w'.cell? ⟨w.heap.size, 0, none⟩ = some (.int .i64 o1) ∧ w'.cell? ⟨w.heap.size, 1, none⟩ = some (.int .i64 o2) ∧ w'.cell? ⟨w.heap.size, 2, none⟩ = some (.int .i64 a1) ∧ w'.cell? ⟨w.heap.size, 3, none⟩ = some (.int .i64 a2) ∧ w'.cell? ⟨b0, 0, none⟩ = some (.slice A zs.length c)) (go_keep)
    ((go_at_call 142; refine (HL.out _ (RdP_kept H.out (by go_grown))).mono ?_; rintro e w1 ⟨rfl, hb1⟩; refine kept_at hb1 w.heap.size (by go_size) fun c1 z1 s1 => ?_; refine kept_at hb1 b0 (by go_size) fun c2 z2 s2 => ?_; have b1 := kept_trans (a := w) (by go_grown) hb1))
  go_wp2
  go_ret
  exact ⟨by simp [hwz]; rfl, by assumption⟩

/-- The corners are those of a zone. -/
def CornP (zs : List (Int × Int)) : Prop := (3 ≤ zs.length ∧ zs.length ≤ 12) ∧ (∀ k (hk : k < zs.length), okP zs[k].1 zs[k].2 = true) ∧ turnsP zs

open Classical in
noncomputable def cornB (zs : List (Int × Int)) : Bool := decide (CornP zs)

theorem cornB_true {zs : List (Int × Int)} (h : CornP zs) : cornB zs = true := by simp [cornB, h]

theorem cornB_false {zs : List (Int × Int)} (h : ¬ CornP zs) : cornB zs = false := by simp [cornB, h]

theorem cornB_iff {zs : List (Int × Int)} : cornB zs = true ↔ CornP zs := by simp [cornB]

theorem any_bad {α : Type} {zs : List α} {p : α → Bool} : (zs.any fun z => !p z) = false ↔ ∀ k (hk : k < zs.length), p zs[k] = true := by
  rw [List.any_eq_false]
  constructor
  · intro h k hk
    have := h zs[k] (List.getElem_mem hk)
    simpa using this
  · intro h z hz
    obtain ⟨k, hk, rfl⟩ := List.mem_iff_getElem.1 hz
    simp [h k hk]

theorem near_pt {zs : List (Int × Int)} (h : ∀ k (hk : k < zs.length), near0 zs[k]) (k : Nat) : near0 (ptZ zs k) := by
  by_cases hk : k < zs.length
  · rw [ptZ_at zs k hk]; exact h k hk
  · unfold ptZ near0
    rw [List.getD_eq_getElem?_getD, List.getElem?_eq_none (by omega)]
    simp

theorem corners_end {zs : List (Int × Int)} (h3 : 3 ≤ zs.length ∧ zs.length ≤ 12) (hok : ∀ k (hk : k < zs.length), okP zs[k].1 zs[k].2 = true) :
    (!((sidesL zs).any fun s => decide ((leftN zs s.1 s.2 : Int) ≠ (zs.length : Int) - 2))) = cornB zs := by
  have e : ∀ s : (Int × Int) × (Int × Int), decide ((leftN zs s.1 s.2 : Int) ≠ (zs.length : Int) - 2) = !decide (leftN zs s.1 s.2 = zs.length - 2) := by
    intro s
    have := leftN_le zs s.1 s.2
    by_cases h : leftN zs s.1 s.2 = zs.length - 2
    · simp [h]; omega
    · simp [h]; omega
  simp only [e]
  by_cases ht : turnsP zs
  · rw [cornB_true ⟨h3, hok, ht⟩]
    have : ((sidesL zs).any fun s => !decide (leftN zs s.1 s.2 = zs.length - 2)) = false := by
      rw [any_bad]
      intro k hk
      have := (turns_sides h3.1).1 ht _ (List.getElem_mem hk)
      simpa using this
    rw [this]
    rfl
  · rw [cornB_false (fun h => ht h.2.2)]
    have : ¬ ((sidesL zs).any fun s => !decide (leftN zs s.1 s.2 = zs.length - 2)) = false := by
      rw [any_bad]
      intro h
      refine ht ((turns_sides h3.1).2 fun s hs => ?_)
      obtain ⟨k, hk, rfl⟩ := List.mem_iff_getElem.1 hs
      simpa using h k hk
    simpa using this

set_option maxHeartbeats 1000000 in
theorem validCorners_any (v : Value) (zs : List (Int × Int)) (w : World) (h : RdP w v zs) :
    Calls Try.prog 130 #[v] w fun e w' => e = .returned (.bool (cornB zs)) ∧ Below w.heap.size w w' := by
  obtain ⟨A, c, rfl, hl, _⟩ := RdP_slice h
  by_cases g1 : zs.length < 3
  · rw [cornB_false (fun h => by have := h.1; omega)]
    clear h
    go_enter Try.func130, Try.ntmps130
    go_wp2
    go_ret
    exact ⟨rfl, by go_grown⟩
  by_cases g2 : 12 < zs.length
  · rw [cornB_false (fun h => by have := h.1; omega)]
    clear h
    go_enter Try.func130, Try.ntmps130
    go_wp2
    go_ret
    exact ⟨rfl, by go_grown⟩
  have H := Lib.hid h; clear h
  have HP := Lib.hid (fun u (q : RdP u (.slice A zs.length c) zs) => containsFuncP_any _ zs 139 (enters_of Try.func139 (by kernel_rfl) rfl) #[] (fun p => !okP p.1 p.2) u q (fun k hk w1 hb => badPlace_any zs[k] w1))
  cases hany : zs.any fun p => !okP p.1 p.2
  · have hok := any_bad.1 hany
    have hend := corners_end (by omega) hok
    have hnear : ∀ k (hk : k < zs.length), near0 zs[k] := fun k hk => near0_ok (hok k hk)
    rw [hany] at HP
    have HS := Lib.hid (fun u (q : RdP u (.slice A zs.length c) zs) => sidesOf_any _ zs u q (by omega))
    have HL := Lib.hid (fun v' b0 u (r : RdL u v' (sidesL zs)) (q : RdP u (.slice A zs.length c) zs) (hb0 : b0 < u.heap.size) (hv : u.cell? ⟨b0, 0, none⟩ = some (.slice A zs.length c)) => containsFuncL_any v' (sidesL zs) 141 (enters_of Try.func141 (by kernel_rfl) rfl) #[.pointer (some ⟨b0, 0, none⟩)] (fun s => decide ((leftN zs s.1 s.2 : Int) ≠ (zs.length : Int) - 2)) u r
      (fun k hk w1 hb => badSide_any (sidesL zs)[k] _ zs b0 w1 (RdP_kept q hb) (Nat.lt_of_lt_of_le hb0 hb.size) (by rw [kept_cell hb b0 0 hb0]; exact hv) (by rw [sidesL_at]; exact near_pt hnear _) (by rw [sidesL_at]; exact near_pt hnear _) hnear (by omega)))
    have HEND := Lib.hid hend; clear hend hany hok hnear
    generalize hX : ((sidesL zs).any fun s => decide ((leftN zs s.1 s.2 : Int) ≠ (zs.length : Int) - 2)) = X at *
    rw [← HEND.out]
    generalize sidesL zs = T at *
    clear hX
    have hmf : ∀ (fn : Fn) (first cap : Array Value) (w : World), (Instr.makeFunc fn first cap).run Try.prog w = .ok (.func fn first cap) w := fun _ _ _ _ => rfl
    go_enter Try.func130, Try.ntmps130
    go_wp2_with fail
    refine (HP.out _ (RdP_kept H.out (by go_grown))).mono ?_
    rintro e w1 ⟨rfl, hb1⟩
    refine kept_at hb1 w.heap.size (by go_size) fun c1 z1 s1 => ?_
    have b1 := kept_trans (a := w) (by go_grown) hb1
    go_wp2_with fail
    refine (HS.out _ (RdP_kept H.out b1)).mono ?_
    rintro e w2 ⟨v2, rfl, hr2, hb2⟩
    refine kept_at hb2 w.heap.size (by go_size) fun c2 z2 s2 => ?_
    have b2 := kept_trans b1 hb2
    have HR := Lib.hid (RowF_rd hr2); clear hr2
    go_wp2_with fail
    refine (HL.out v2 w.heap.size w2 HR.out (RdP_kept H.out b2) s2 (by rw [c2, c1]; simp)).mono ?_
    rintro e w3 ⟨rfl, hb3⟩
    have b3 := kept_trans b2 hb3
    go_wp2
    go_ret
    exact ⟨rfl, b3⟩
  · rw [hany] at HP
    have hno : ¬ CornP zs := fun hc => by
      have := (any_bad (zs := zs) (p := fun p : Int × Int => okP p.1 p.2)).2 hc.2.1
      rw [hany] at this
      cases this
    rw [cornB_false hno]
    clear hno hany
    go_enter Try.func130, Try.ntmps130
    go_wp2_with fail
    refine (HP.out _ (RdP_kept H.out (by go_grown))).mono ?_
    rintro e w1 ⟨rfl, hb1⟩
    have b1 := kept_trans (a := w) (by go_grown) hb1
    go_wp2
    go_ret
    exact ⟨rfl, b1⟩

/-- The numbers of a zone fit its kind. -/
def sizeB (k : Zn) : Bool := if k.kd = 1 then inB k.st 1 60 && (inB k.ea 20 60 && decide (k.st * k.ea ≤ 2000)) else (k.kd == 2 || k.kd == 3) && (decide (k.st = 0) && decide (k.ea = 0))

noncomputable def zoneB (k : Zn) : Bool := sizeB k && cornB k.cs

theorem height_any (kd st ea : Int) (A : Option Addr) (n c : Nat) (w : World) (hb : -1000000 ≤ st * ea ∧ st * ea ≤ 1000000) :
    Calls Try.prog 137 #[.agg #[.int .i64 kd, .int .i64 st, .int .i64 ea, .slice A n c]] w fun e w' => e = .returned (.int .i64 (st * ea)) ∧ Below w.heap.size w w' := by
  have hw := IntWalk.wrap64_in (st * ea) (by omega)
  have HW := Lib.hid hw; clear hw
  generalize hm : st * ea = m at *
  go_enter Try.func137, Try.ntmps137
  go_wp2
  go_ret
  exact ⟨rfl, by go_grown⟩

set_option maxHeartbeats 1000000 in
theorem validSize_any (k : Zn) (A : Option Addr) (n c : Nat) (w : World) :
    Calls Try.prog 129 #[.agg #[.int .i64 k.kd, .int .i64 k.st, .int .i64 k.ea, .slice A n c]] w fun e w' => e = .returned (.bool (sizeB k)) ∧ Below w.heap.size w w' := by
  unfold sizeB
  obtain ⟨kd, st, ea, zs⟩ := k
  dsimp only
  by_cases k1 : kd = 1
  · subst k1
    rw [if_pos rfl]
    rcases (show ¬ 1 ≤ st ∨ (1 ≤ st ∧ ¬ st ≤ 60) ∨ (1 ≤ st ∧ st ≤ 60 ∧ ¬ 20 ≤ ea) ∨ (1 ≤ st ∧ st ≤ 60 ∧ 20 ≤ ea ∧ ¬ ea ≤ 60) ∨ (1 ≤ st ∧ st ≤ 60 ∧ 20 ≤ ea ∧ ea ≤ 60) from by omega) with g | g | g | g | g
    case inr.inr.inr.inr =>
      have hp := prod_bd st ea 60 (by omega) (by omega)
      have HH := Lib.hid (fun u => height_any 1 st ea A n c u (by omega))
      rw [show (inB st 1 60 && (inB ea 20 60 && decide (st * ea ≤ 2000))) = decide (st * ea ≤ 2000) by simp [inB, g]]
      generalize st * ea = m at *
      go_enter Try.func129, Try.ntmps129
      go_wp2_with fail
      refine (HH.out _).mono ?_
      rintro e w1 ⟨rfl, hb1⟩
      have b1 := kept_trans (a := w) (by go_grown) hb1
      go_wp2
      go_ret
      exact ⟨rfl, b1⟩
    all_goals
      first
        | rw [show (inB st 1 60 && (inB ea 20 60 && decide (st * ea ≤ 2000))) = false by simp [inB]; omega]
      go_enter Try.func129, Try.ntmps129
      go_wp2
      go_ret
      exact ⟨rfl, by go_grown⟩
  · rw [if_neg k1]
    by_cases k2 : kd = 2
    · subst k2
      by_cases h1 : st = 0 <;> by_cases h2 : ea = 0
      all_goals
        (try subst h1)
        (try subst h2)
        go_enter Try.func129, Try.ntmps129
        go_wp2
        go_ret
        exact ⟨by simp [*], by go_grown⟩
    · by_cases k3 : kd = 3
      · subst k3
        by_cases h1 : st = 0 <;> by_cases h2 : ea = 0
        all_goals
          (try subst h1)
          (try subst h2)
          go_enter Try.func129, Try.ntmps129
          go_wp2
          go_ret
          exact ⟨by simp [*], by go_grown⟩
      · have e2 : (kd == 2) = false := by rw [beq_eq_false_iff_ne]; exact k2
        have e3 : (kd == 3) = false := by rw [beq_eq_false_iff_ne]; exact k3
        have e1 : (kd == 1) = false := by rw [beq_eq_false_iff_ne]; exact k1
        rw [e2, e3]
        go_enter Try.func129, Try.ntmps129
        go_wp2
        go_ret
        exact ⟨rfl, by go_grown⟩

theorem implZone_any (k : Zn) (c : Value) (w : World) (hr : RdP w c k.cs) :
    Calls Try.prog 113 #[.agg #[.int .i64 k.kd, .int .i64 k.st, .int .i64 k.ea, c]] w fun e w' => e = .returned (.bool (zoneB k)) ∧ Below w.heap.size w w' := by
  obtain ⟨A, cp, rfl, hl, _⟩ := RdP_slice hr
  have H := Lib.hid hr; clear hr
  have HS := Lib.hid (fun u => validSize_any k A k.cs.length cp u)
  have HC := Lib.hid (fun u q => validCorners_any (.slice A k.cs.length cp) k.cs u q)
  unfold zoneB
  generalize cornB k.cs = C at *
  cases hs : sizeB k
  all_goals
    rw [hs] at HS
    obtain ⟨kd, st, ea, zs⟩ := k
    dsimp only at *
    clear hs
    go_enter Try.func113, Try.ntmps113
    go_wp2_with fail
    refine (HS.out _).mono ?_
    rintro e w1 ⟨rfl, hb1⟩
    refine kept_at hb1 w.heap.size (by go_size) fun c1 z1 s1 => ?_
    have b1 := kept_trans (a := w) (by go_grown) hb1
  · go_wp2
    go_ret
    exact ⟨rfl, b1⟩
  · go_wp2_with fail
    refine (HC.out _ (RdP_kept H.out b1)).mono ?_
    rintro e w2 ⟨rfl, hb2⟩
    have b2 := kept_trans b1 hb2
    go_wp2
    go_ret
    exact ⟨by simp, b2⟩

open Classical in
noncomputable def turnB (zs : List (Int × Int)) : Bool := decide (turnsP zs)

def rowT (zs : List (Int × Int)) (k j : Nat) : Prop := ∀ i, i < zs.length → i < j → i ≠ k → i ≠ (k + 1) % zs.length → 0 < crossL (ptZ zs k) (ptZ zs ((k + 1) % zs.length)) (ptZ zs i)

theorem rowT_skip {zs : List (Int × Int)} {k j : Nat} (h : rowT zs k j) (hj : j = k ∨ j = (k + 1) % zs.length) : rowT zs k (j + 1) := by
  intro i hi hij h1 h2
  exact h i hi (by omega) h1 h2

theorem rowT_step {zs : List (Int × Int)} {k j : Nat} (h : rowT zs k j) (hj : 0 < crossL (ptZ zs k) (ptZ zs ((k + 1) % zs.length)) (ptZ zs j)) : rowT zs k (j + 1) := by
  intro i hi hij h1 h2
  rcases Nat.lt_or_ge i j with h3 | h3
  · exact h i hi h3 h1 h2
  · obtain rfl : i = j := by omega
    exact hj

set_option maxHeartbeats 4000000 in
theorem specTurns_any (v : Value) (zs : List (Int × Int)) (w : World) (h : RdP w v zs) (hz : ∀ k (hk : k < zs.length), near0 zs[k]) (hn : zs.length ≤ 1000000) :
    Calls Try.prog 125 #[v] w fun e w' => e = .returned (.bool (turnB zs)) ∧ Below w.heap.size w w' := by
  obtain ⟨A, c, rfl, hl, r1⟩ := RdP_slice h
  have H := Lib.hid h; clear h
  have R := Lib.hid r1; clear r1
  have hbad : ∀ k i, k < zs.length → i < zs.length → i ≠ k → i ≠ (k + 1) % zs.length → ¬ 0 < crossL (ptZ zs k) (ptZ zs ((k + 1) % zs.length)) (ptZ zs i) → turnB zs = false := by
    intro k i hk hi h1 h2 hno
    simp only [turnB, decide_eq_false_iff_not]
    exact fun ht => hno (ht k hk i hi h1 h2)
  have hend : (∀ k, k < zs.length → rowT zs k zs.length) → turnB zs = true := by
    intro h
    simp only [turnB, decide_eq_true_eq]
    exact fun k hk i hi h1 h2 => h k hk i hi hi h1 h2
  have HBAD := Lib.hid hbad; clear hbad
  have HEND := Lib.hid hend; clear hend
  have HN := Lib.hid (fun k (hk : k < zs.length) u (q : RdP u (.slice A zs.length c) zs) => nextZ_any _ zs k u q hk hn)
  have HC := Lib.hid (fun k i u => cross_any (ptZ zs k) (ptZ zs ((k + 1) % zs.length)) (ptZ zs i) u (near_pt hz _) (near_pt hz _) (near_pt hz _))
  clear hz
  generalize turnB zs = G at *
  go_enter Try.func125, Try.ntmps125
  go_wp2_with fail
  go_loopw [3] (fun i wr => ∃ k : Nat, k ≤ zs.length ∧ i = .int .i64 (k : Int) ∧ (∀ k', k' < k → rowT zs k' zs.length) ∧ Below w.heap.size w wr) (fun i _ => zs.length - (intOf i).toNat)
  case atStart => exact ⟨0, by omega, rfl, fun k' h => by omega, Below.refl _ _⟩
  case round =>
    obtain ⟨k, hk, rfl, hrows, hb⟩ := hrel
    have HRW := Lib.hid hrows; clear hrows
    by_cases hlt : k < zs.length
    · have hm : (k + 1) % zs.length < zs.length := Nat.mod_lt _ (by omega)
      have hi : ((k : Int) + 1).tmod (zs.length : Int) = (((k + 1) % zs.length : Nat) : Int) := by rw [tmod_pos _ _ (by omega)]; simp
      have hwk : IntKind.i64.wrap ((k : Int) + 1) = (k : Int) + 1 := IntWalk.i64_in _ (by omega)
      have h0 : ((zs.length : Int) == 0) = false := by rw [beq_eq_false_iff_ne]; omega
      have h0a : ¬ (zs.length : Int) = 0 := by omega
      have h0b : ¬ zs.length = 0 := by omega
      have h0c : (zs.length == 0) = false := by rw [beq_eq_false_iff_ne]; omega
      have h0d : zs ≠ [] := by intro h; subst h; simp at hlt
      have HNK := Lib.hid (HN.out k hlt)
      have HCK := Lib.hid (HC.out k)
      have hbd := HBAD.out k
      have hrs := fun j => @rowT_skip zs k j
      have hrt := fun j => @rowT_step zs k j
      have hr0 : rowT zs k 0 := fun i _ h => by omega
      have hrn : ∀ k', k' < k + 1 → rowT zs k zs.length → rowT zs k' zs.length := by
        intro k' h1 h2
        rcases Nat.lt_or_ge k' k with h3 | h3
        · exact HRW.out k' h3
        · obtain rfl : k' = k := by omega
          exact h2
      generalize (k + 1) % zs.length = m at *
      have HRS := Lib.hid hrs; clear hrs
      have HRT := Lib.hid hrt; clear hrt
      have HR0 := Lib.hid hr0; clear hr0
      have HRN := Lib.hid hrn; clear hrn
      have HBD := Lib.hid hbd; clear hbd
      go_wp2_with fail
      go_loopw [4] (fun i wr => ∃ j : Nat, j ≤ zs.length ∧ i = .int .i64 (j : Int) ∧ rowT zs k j ∧ Below w.heap.size w wr) (fun i _ => zs.length - (intOf i).toNat)
      case atStart => exact ⟨0, by omega, rfl, HR0.out, hb⟩
      case round =>
        obtain ⟨j, hj, rfl, hrow, hb⟩ := hrel
        by_cases hjl : j < zs.length
        · by_cases e1 : j = k
          · subst e1
            have hnx := HRS.out _ hrow (Or.inl rfl)
            have HNX := Lib.hid hnx; clear hnx hrow
            have hq : ((j : Int) != (j : Int)) = false := by simp
            go_wp2_with fail
            go_quiet (fail)
            go_wp2
            go_roundw
            case rel => exact ⟨j + 1, by omega, by go_num, HNX.out, kept_drewN hb _⟩
            case measure => simp [intOf]; omega
          · have hq : ((j : Int) != (k : Int)) = true := by simp; omega
            have hq2 : ((j : Int) == (k : Int)) = false := by rw [beq_eq_false_iff_ne]; omega
            by_cases e2 : j = m
            · subst e2
              have hnx := HRS.out _ hrow (Or.inr rfl)
              have HNX := Lib.hid hnx; clear hnx hrow
              have hq3 : ((j : Int) != (j : Int)) = false := by simp
              go_wp2_with fail
              go_quiet (fail)
              go_wp2
              go_roundw
              case rel => exact ⟨j + 1, by omega, by go_num, HNX.out, kept_drewN hb _⟩
              case measure => simp [intOf]; omega
            · have hq4 : ((j : Int) != (m : Int)) = true := by simp; omega
              have hq5 : ((j : Int) == (m : Int)) = false := by rw [beq_eq_false_iff_ne]; omega
              have hnx := HRT.out _ hrow
              have hbd := HBD.out j hlt hjl e1 e2
              obtain ⟨b, off, rfl, hbl, hc0, hc1⟩ := R.out k hlt
              obtain ⟨b', off', e', _, hd0, hd1⟩ := R.out j hjl
              cases e'
              rw [← kept_cell hb b _ hbl] at hc0 hc1 hd0 hd1
              rw [← ptZ_at zs k hlt] at hc0 hc1
              rw [← ptZ_at zs j hjl] at hd0 hd1
              have hbl' := Nat.lt_of_lt_of_le hbl hb.size
              have HCJ := Lib.hid (HCK.out j)
              generalize crossL (ptZ zs k) (ptZ zs m) (ptZ zs j) = D at *
              generalize (ptZ zs k).1 = x1 at *
              generalize (ptZ zs k).2 = x2 at *
              generalize (ptZ zs j).1 = y1 at *
              generalize (ptZ zs j).2 = y2 at *
              generalize (ptZ zs m).1 = q1 at *
              generalize (ptZ zs m).2 = q2 at *
              have HRR := Lib.hid hrow; clear hrow
              by_cases hd : 0 < D
              · have HNX := Lib.hid (hnx hd); clear hnx hbd
                have hdd : ¬ D ≤ 0 := by omega
                go_wp2_with fail
                go_region_held3 (fun w' => w'.cell? ⟨b, off + k * 2, none⟩ = some (.int .i64 x1) ∧ w'.cell? ⟨b, off + k * 2 + 1, none⟩ = some (.int .i64 x2) ∧ w'.cell? ⟨b, off + j * 2, none⟩ = some (.int .i64 y1) ∧ w'.cell? ⟨b, off + j * 2 + 1, none⟩ = some (.int .i64 y2)) (go_keep)
                  (first | (go_at_call 108; refine (HNK.out _ (RdP_kept H.out (kept_trans (a := w) hb (by go_grown)))).mono ?_; rintro e w1 ⟨rfl, hb1⟩; refine kept_at hb1 b (by go_size) fun c1 z1 s1 => ?_; have b1 := kept_trans (a := wr) (by go_grown) hb1) | (go_at_call 126; refine (HCJ.out _).mono ?_; rintro e w2 ⟨rfl, hb2⟩; refine kept_at hb2 b (by go_size) fun c2 z2 s2 => ?_; have b2 := kept_trans (a := wr) (by go_grown) hb2))
                go_wp2
                go_roundw
                case rel => exact ⟨j + 1, by omega, by go_num, HNX.out, kept_trans hb (by assumption)⟩
                case measure => simp [intOf]; omega
              · have hG := hbd (by omega)
                clear hnx hbd
                have hdd : D ≤ 0 := by omega
                go_wp2_with fail
                go_region_held3 (fun w' => w'.cell? ⟨b, off + k * 2, none⟩ = some (.int .i64 x1) ∧ w'.cell? ⟨b, off + k * 2 + 1, none⟩ = some (.int .i64 x2) ∧ w'.cell? ⟨b, off + j * 2, none⟩ = some (.int .i64 y1) ∧ w'.cell? ⟨b, off + j * 2 + 1, none⟩ = some (.int .i64 y2)) (go_keep)
                  (first | (go_at_call 108; refine (HNK.out _ (RdP_kept H.out (kept_trans (a := w) hb (by go_grown)))).mono ?_; rintro e w1 ⟨rfl, hb1⟩; refine kept_at hb1 b (by go_size) fun c1 z1 s1 => ?_; have b1 := kept_trans (a := wr) (by go_grown) hb1) | (go_at_call 126; refine (HCJ.out _).mono ?_; rintro e w2 ⟨rfl, hb2⟩; refine kept_at hb2 b (by go_size) fun c2 z2 s2 => ?_; have b2 := kept_trans (a := wr) (by go_grown) hb2))
                go_wp2
                go_ret
                exact ⟨by rw [hG]; rfl, kept_trans hb (by assumption)⟩
        · have : j = zs.length := by omega
          subst this
          have hst := fun k' h => HRN.out k' h hrow
          have HST := Lib.hid hst; clear hst hrow
          go_wp2
          go_roundw
          case rel => exact ⟨k + 1, by omega, by go_num, HST.out, hb⟩
          case measure => simp [intOf]; omega
    · have : k = zs.length := by omega
      subst this
      have hE := HEND.out HRW.out
      go_wp2
      go_ret
      exact ⟨by rw [hE]; rfl, hb⟩

/-- A zone lies at a place. -/
def ZnAt (w : World) (b o : Nat) (k : Zn) (c : Value) : Prop :=
  b < w.heap.size ∧ (w.cell? ⟨b, o, none⟩ = some (.int .i64 k.kd) ∧ w.cell? ⟨b, o + 1, none⟩ = some (.int .i64 k.st) ∧ w.cell? ⟨b, o + 2, none⟩ = some (.int .i64 k.ea) ∧ w.cell? ⟨b, o + 3, none⟩ = some c) ∧ RdP w c k.cs

theorem ZnAt_kept {W w1 : World} {b o : Nat} {k : Zn} {c : Value} (h : ZnAt W b o k c) (hb : Below W.heap.size W w1) : ZnAt w1 b o k c := by
  obtain ⟨hlt, ⟨h0, h1, h2, h3⟩, hr⟩ := h
  refine ⟨Nat.lt_of_lt_of_le hlt hb.size, ⟨?_, ?_, ?_, ?_⟩, RdP_kept hr hb⟩ <;> (rw [kept_cell hb b _ hlt]; assumption)

theorem zone_corn {zs : List (Int × Int)} (h3 : 3 ≤ zs.length ∧ zs.length ≤ 12) (hok : ∀ k (hk : k < zs.length), okP zs[k].1 zs[k].2 = true) : cornB zs = turnB zs := by
  unfold cornB turnB CornP
  congr 1
  exact propext ⟨fun h => h.2.2, fun h => ⟨h3, hok, h⟩⟩

set_option maxHeartbeats 4000000 in
theorem specZone_any (b o : Nat) (k : Zn) (c : Value) (w : World) (h : ZnAt w b o k c) :
    Calls Try.prog 105 #[.pointer (some ⟨b, o, none⟩)] w fun e w' => e = .returned (.bool (zoneB k)) ∧ Below w.heap.size w w' := by
  have HZ := Lib.hid h
  obtain ⟨hb0, ⟨c0, c1, c2, c3⟩, hr⟩ := h
  obtain ⟨A, cp, rfl, hl, r1⟩ := RdP_slice hr
  have H := Lib.hid hr; clear hr
  have R := Lib.hid r1; clear r1
  have hzb : zoneB k = (sizeB k && cornB k.cs) := rfl
  have hsz : sizeB k = if k.kd = 1 then inB k.st 1 60 && (inB k.ea 20 60 && decide (k.st * k.ea ≤ 2000)) else (k.kd == 2 || k.kd == 3) && (decide (k.st = 0) && decide (k.ea = 0)) := rfl
  generalize zoneB k = G at *
  generalize sizeB k = SZ at *
  obtain ⟨kd, st, ea, zs⟩ := k
  dsimp only at *
  cases p1 : inB kd 1 3
  · have hS : SZ = false := by
      have := inB_false p1
      rw [hsz, if_neg (by omega)]
      have e2 : (kd == 2) = false := by rw [beq_eq_false_iff_ne]; omega
      have e3 : (kd == 3) = false := by rw [beq_eq_false_iff_ne]; omega
      rw [e2, e3]
      rfl
    have hG : G = false := by rw [hzb, hS]; rfl
    subst hG
    clear hzb hsz hS
    go_enter Try.func105, Try.ntmps105
    go_wp2_with (go_at_call 84; refine (in_any _ _ _ _).mono ?_; rintro e w1 ⟨rfl, rfl⟩)
    go_ret
    exact ⟨rfl, Below.refl _ _⟩
  cases p2 : inB (zs.length : Int) 3 12
  · have hC : cornB zs = false := cornB_false (fun h => by have := inB_false p2; have := h.1; omega)
    have hG : G = false := by rw [hzb, hC]; simp
    subst hG
    clear hzb hsz hC
    go_enter Try.func105, Try.ntmps105
    go_wp2_with (go_at_call 84; refine (in_any _ _ _ _).mono ?_; rintro e w1 ⟨rfl, rfl⟩)
    go_ret
    exact ⟨rfl, Below.refl _ _⟩
  have g1 := inB_true p1
  have g2 := inB_true p2
  have hbad : ∀ j (hj : j < zs.length), okP zs[j].1 zs[j].2 = false → G = false := by
    intro j hj hno
    rw [hzb, cornB_false (fun h => by have := h.2.1 j hj; rw [hno] at this; cases this)]
    simp
  have HBAD := Lib.hid hbad; clear hbad
  have hend : (∀ j (hj : j < zs.length), okP zs[j].1 zs[j].2 = true) → G = (SZ && turnB zs) := fun h => by rw [hzb, zone_corn (by omega) h]
  have HEND := Lib.hid hend; clear hend hzb
  have HT := Lib.hid (fun u (q : RdP u (.slice A zs.length cp) zs) (hok : ∀ j (hj : j < zs.length), okP zs[j].1 zs[j].2 = true) => specTurns_any _ zs u q (fun j hj => near0_ok (hok j hj)) (by omega))
  have HSZ := Lib.hid hsz; clear hsz
  go_enter Try.func105, Try.ntmps105
  go_wp2_with (go_at_call 84; refine (in_any _ _ _ _).mono ?_; rintro e w1 ⟨rfl, rfl⟩)
  go_loopw [3] (fun i wr => ∃ j : Nat, j ≤ zs.length ∧ i = .int .i64 (j : Int) ∧ (∀ i (hi : i < zs.length), i < j → okP zs[i].1 zs[i].2 = true) ∧ Below w.heap.size w wr) (fun i _ => zs.length - (intOf i).toNat)
  case atStart => exact ⟨0, by omega, rfl, fun i _ h => by omega, Below.refl _ _⟩
  case round =>
    obtain ⟨j, hj, rfl, hall, hb⟩ := hrel
    rw [← kept_cell hb b _ hb0] at c0 c1 c2 c3
    have hb0w := Nat.lt_of_lt_of_le hb0 hb.size
    by_cases hlt : j < zs.length
    · obtain ⟨b1, off, rfl, hbl, d0, d1⟩ := R.out j hlt
      rw [← kept_cell hb b1 _ hbl] at d0 d1
      have hbd := HBAD.out j hlt
      have hok := fun u => specOk_any zs[j].1 zs[j].2 u
      cases hp : okP zs[j].1 zs[j].2
      · have hG := hbd hp
        subst hG
        rw [hp] at hok
        have HOK := Lib.hid hok; clear hok hall hp hbd
        generalize zs[j].1 = x at *
        generalize zs[j].2 = y at *
        go_wp2_with fail
        refine (HOK.out _).mono ?_
        rintro e w1 ⟨rfl, hb1⟩
        go_wp2
        go_ret
        exact ⟨rfl, kept_trans hb hb1⟩
      · have hnx : ∀ i (hi : i < zs.length), i < j + 1 → okP zs[i].1 zs[i].2 = true := fun i hi hij => by
          rcases Nat.lt_or_ge i j with h1 | h1
          · exact hall i hi h1
          · obtain rfl : i = j := by omega
            exact hp
        rw [hp] at hok
        have HOK := Lib.hid hok
        have HNX := Lib.hid hnx
        clear hok hall hp hbd hnx
        generalize zs[j].1 = x at *
        generalize zs[j].2 = y at *
        go_wp2_with fail
        refine (HOK.out _).mono ?_
        rintro e w1 ⟨rfl, hb1⟩
        go_wp2
        go_roundw
        case rel => exact ⟨j + 1, by omega, by go_num, HNX.out, kept_trans hb hb1⟩
        case measure => simp [intOf]; omega
    · have : j = zs.length := by omega
      subst this
      have hok : ∀ i (hi : i < zs.length), okP zs[i].1 zs[i].2 = true := fun i hi => hall i hi hi
      have hG := HEND.out hok
      have HTT := Lib.hid (fun u q => HT.out u q hok)
      have hsz := HSZ.out
      clear hall hok
      subst hG
      by_cases k1 : kd = 1
      · subst k1
        rw [if_pos rfl] at hsz
        subst hsz
        have q1 : (1 != (1 : Int)) = false := by simp
        cases p3 : inB st 1 60
        · have HI := Lib.hid (fun u => (p3 ▸ in_any st 1 60 u : Calls Try.prog 84 #[.int .i64 st, .int .i64 1, .int .i64 60] u fun e w' => e = .returned (.bool false) ∧ u = w'))
          go_wp2_with fail
          go_quiet ((go_at_call 84; with_reducible (show Calls _ _ #[.int .i64 st, .int .i64 1, .int .i64 60] _ _); exact Calls.quiet_of_same ((HI.out _).mono fun e w' h => ⟨h.1, h.2.symm⟩)))
          go_wp2
          go_ret
          exact ⟨by simp [p3], kept_drewN hb _⟩
        have HI := Lib.hid (fun u => (p3 ▸ in_any st 1 60 u : Calls Try.prog 84 #[.int .i64 st, .int .i64 1, .int .i64 60] u fun e w' => e = .returned (.bool true) ∧ u = w'))
        cases p4 : inB ea 20 60
        · have HJ := Lib.hid (fun u => (p4 ▸ in_any ea 20 60 u : Calls Try.prog 84 #[.int .i64 ea, .int .i64 20, .int .i64 60] u fun e w' => e = .returned (.bool false) ∧ u = w'))
          have P3 := Lib.hid p3
          have P4 := Lib.hid p4
          clear p3 p4
          go_wp2_with fail
          go_quiet (first | (go_at_call 84; with_reducible (show Calls _ _ #[.int .i64 st, .int .i64 1, .int .i64 60] _ _); exact Calls.quiet_of_same ((HI.out _).mono fun e w' h => ⟨h.1, h.2.symm⟩)) | (go_at_call 84; with_reducible (show Calls _ _ #[.int .i64 ea, .int .i64 20, .int .i64 60] _ _); exact Calls.quiet_of_same ((HJ.out _).mono fun e w' h => ⟨h.1, h.2.symm⟩)))
          go_wp2
          go_ret
          exact ⟨by simp [P3.out, P4.out], kept_drewN hb _⟩
        have HJ := Lib.hid (fun u => (p4 ▸ in_any ea 20 60 u : Calls Try.prog 84 #[.int .i64 ea, .int .i64 20, .int .i64 60] u fun e w' => e = .returned (.bool true) ∧ u = w'))
        have hpb := prod_bd st ea 60 (by have := inB_true p3; omega) (by have := inB_true p4; omega)
        have hwm : IntKind.i64.wrap (st * ea) = st * ea := IntWalk.i64_in _ (by omega)
        have P3 := Lib.hid p3
        have P4 := Lib.hid p4
        clear p3 p4
        by_cases hm : st * ea ≤ 2000
        · have hmd : decide (st * ea ≤ 2000) = true := by simp [hm]
          go_wp2_with fail
          go_region_held3 (fun w' => w'.cell? ⟨b, o + 1, none⟩ = some (.int .i64 st) ∧ w'.cell? ⟨b, o + 2, none⟩ = some (.int .i64 ea) ∧ w'.cell? ⟨b, o + 3, none⟩ = some (.slice A zs.length cp)) (go_keep)
            (first | (go_at_call 84; with_reducible (show Calls _ _ #[.int .i64 st, .int .i64 1, .int .i64 60] _ _); refine (HI.out _).mono ?_; rintro e w1 ⟨rfl, rfl⟩) | (go_at_call 84; with_reducible (show Calls _ _ #[.int .i64 ea, .int .i64 20, .int .i64 60] _ _); refine (HJ.out _).mono ?_; rintro e w1 ⟨rfl, rfl⟩) | (go_at_call 125; refine (HTT.out _ (RdP_kept H.out (kept_trans (a := w) hb (by go_grown)))).mono ?_; rintro e w2 ⟨rfl, hb2⟩; refine kept_at hb2 b (by go_size) fun f2 z2 s2 => ?_; have b2 := kept_trans (a := wr) (by go_grown) hb2))
          go_wp2
          go_ret
          exact ⟨by simp [P3.out, P4.out, hm], kept_trans hb (by assumption)⟩
        · have hmd : decide (st * ea ≤ 2000) = false := by simp; omega
          go_wp2_with fail
          go_quiet (first | (go_at_call 84; with_reducible (show Calls _ _ #[.int .i64 st, .int .i64 1, .int .i64 60] _ _); exact Calls.quiet_of_same ((HI.out _).mono fun e w' h => ⟨h.1, h.2.symm⟩)) | (go_at_call 84; with_reducible (show Calls _ _ #[.int .i64 ea, .int .i64 20, .int .i64 60] _ _); exact Calls.quiet_of_same ((HJ.out _).mono fun e w' h => ⟨h.1, h.2.symm⟩)))
          go_wp2
          go_ret
          exact ⟨by simp [P3.out, P4.out]; intro h; exact absurd h (by omega), kept_drewN hb _⟩
      · have q1 : (kd != 1) = true := by simp [k1]
        have q2 : (kd == 2 || kd == 3) = true := by
          by_cases h2 : kd = 2
          · simp [h2]
          · have h3 : kd = 3 := by omega
            simp [h3]
        rw [if_neg k1, q2] at hsz
        subst hsz
        by_cases h1 : st = 0
        · subst h1
          by_cases h2 : ea = 0
          · subst h2
            go_wp2_with fail
            refine (HTT.out _ (RdP_kept H.out hb)).mono ?_
            rintro e w1 ⟨rfl, hb1⟩
            go_wp2
            go_ret
            exact ⟨by simp, kept_trans hb hb1⟩
          · have q3 : (ea == 0) = false := by rw [beq_eq_false_iff_ne]; exact h2
            go_wp2
            go_ret
            exact ⟨by simp [h2], hb⟩
        · have q3 : (st == 0) = false := by rw [beq_eq_false_iff_ne]; exact h1
          go_wp2
          go_ret
          exact ⟨by simp [h1], hb⟩

theorem zone_kd {k : Zn} (h : zoneB k = true) : (k.kd = 1 ∨ k.kd = 2 ∨ k.kd = 3) ∧ (0 ≤ k.st * k.ea ∧ k.st * k.ea ≤ 2000) ∧ CornP k.cs := by
  simp only [zoneB, Bool.and_eq_true] at h
  refine ⟨?_, ?_, cornB_iff.1 h.2⟩
  · have h1 := h.1
    unfold sizeB at h1
    split at h1
    · omega
    · simp at h1
      omega
  · have h1 := h.1
    unfold sizeB at h1
    split at h1
    · simp only [Bool.and_eq_true, decide_eq_true_eq] at h1
      have g1 := inB_true h1.1
      have g2 := inB_true h1.2.1
      exact ⟨Int.mul_nonneg (by omega) (by omega), h1.2.2⟩
    · simp at h1
      rw [h1.2.1, h1.2.2]
      omega

theorem corn_near {zs : List (Int × Int)} (h : CornP zs) : ∀ k (hk : k < zs.length), near0 zs[k] := fun k hk => near0_ok (h.2.1 k hk)

theorem specHeight_any (h : Int) (w : World) :
    Calls Try.prog 69 #[.int .i64 h] w fun e w' => e = .returned (.bool (inB h 0 2000)) ∧ w = w' := by
  go_enter Try.func69, Try.ntmps69
  go_wp2_with (go_at_call 84; refine (in_any _ _ _ _).mono ?_; rintro e w1 ⟨rfl, rfl⟩)
  go_ret
  exact ⟨rfl, rfl⟩

theorem validHeight_any (h : Int) (w : World) :
    Calls Try.prog 77 #[.int .i64 h] w fun e w' => e = .returned (.bool (inB h 0 2000)) ∧ w = w' := by
  unfold inB
  by_cases h1 : 0 ≤ h <;> by_cases h2 : h ≤ 2000 <;>
  · go_enter Try.func77, Try.ntmps77
    go_wp2
    go_ret
    exact ⟨by simp [*], rfl⟩

def towerB (k : Zn) (h : Int) : Bool := k.kd == 1 && decide (h < k.st * k.ea + 20)

/-- A zone of the kind x, or a building that is high enough, blocks. -/
def blockB (x : Int) (k : Zn) (h : Int) : Bool := k.kd == x || towerB k h

theorem towersTo_any (k : Zn) (A : Option Addr) (n cp : Nat) (h : Int) (w : World) (hm : 0 ≤ k.st * k.ea ∧ k.st * k.ea ≤ 2000) :
    Calls Try.prog 131 #[.agg #[.int .i64 k.kd, .int .i64 k.st, .int .i64 k.ea, .slice A n cp], .int .i64 h] w fun e w' => e = .returned (.bool (towerB k h)) ∧ Below w.heap.size w w' := by
  unfold towerB
  by_cases k1 : k.kd = 1
  · have HH := Lib.hid (fun u => height_any k.kd k.st k.ea A n cp u (by omega))
    generalize k.st * k.ea = m at *
    rw [k1] at *
    go_enter Try.func131, Try.ntmps131
    go_wp2_with fail
    refine (HH.out _).mono ?_
    rintro e w1 ⟨rfl, hb1⟩
    have b1 := kept_trans (a := w) (by go_grown) hb1
    go_wp2
    go_ret
    exact ⟨by simp, b1⟩
  · have e1 : (k.kd == 1) = false := by rw [beq_eq_false_iff_ne]; exact k1
    go_enter Try.func131, Try.ntmps131
    go_wp2
    go_ret
    exact ⟨by simp [k1], by go_grown⟩

theorem implBlocks_load (k : Zn) (A : Option Addr) (n cp : Nat) (h : Int) (w : World) (hm : 0 ≤ k.st * k.ea ∧ k.st * k.ea ≤ 2000) :
    Calls Try.prog 114 #[.agg #[.int .i64 k.kd, .int .i64 k.st, .int .i64 k.ea, .slice A n cp], .int .i64 h] w fun e w' => e = .returned (.bool (blockB 2 k h)) ∧ Below w.heap.size w w' := by
  unfold blockB
  have HT := Lib.hid (fun u => towersTo_any k A n cp h u hm)
  clear hm
  generalize towerB k h = T at *
  by_cases k1 : k.kd = 2
  · have e1 : (k.kd == 2) = true := by rw [k1]; rfl
    go_enter Try.func114, Try.ntmps114
    go_wp2
    go_ret
    exact ⟨by simp [k1], by go_grown⟩
  · have e1 : (k.kd == 2) = false := by rw [beq_eq_false_iff_ne]; exact k1
    go_enter Try.func114, Try.ntmps114
    go_wp2_with fail
    refine (HT.out _).mono ?_
    rintro e w1 ⟨rfl, hb1⟩
    have b1 := kept_trans (a := w) (by go_grown) hb1
    go_wp2
    go_ret
    exact ⟨by simp [k1], b1⟩

theorem specBlocks_load (b o : Nat) (k : Zn) (c : Value) (h : Int) (w : World) (q : ZnAt w b o k c) (hk : k.kd = 1 ∨ k.kd = 2 ∨ k.kd = 3) (hm : 0 ≤ k.st * k.ea ∧ k.st * k.ea ≤ 2000) :
    Calls Try.prog 70 #[.pointer (some ⟨b, o, none⟩), .int .i64 h] w fun e w' => e = .returned (.bool (blockB 2 k h)) ∧ Below w.heap.size w w' := by
  obtain ⟨hb0, ⟨c0, c1, c2, c3⟩, _⟩ := q
  clear c3
  unfold blockB towerB
  generalize hmm : k.st * k.ea = m at *
  have hwm : IntKind.i64.wrap (k.st * k.ea) = m := by rw [hmm]; exact IntWalk.i64_in _ (by omega)
  generalize k.st = st at *
  generalize k.ea = ea at *
  generalize k.kd = kd at *
  rcases hk with rfl | rfl | rfl
  · skip
    go_enter Try.func70, Try.ntmps70
    go_wp2_with fail
    go_quiet (fail)
    go_wp2
    go_ret
    exact ⟨by simp, kept_drewN (Below.refl _ _) _⟩
  · skip
    go_enter Try.func70, Try.ntmps70
    go_wp2
    go_ret
    exact ⟨by simp, Below.refl _ _⟩
  · skip
    go_enter Try.func70, Try.ntmps70
    go_wp2
    go_ret
    exact ⟨by simp, Below.refl _ _⟩

/-- Where a point is. -/
def whIn (zs : List (Int × Int)) (p : Int × Int) (j : Nat) : Int := whN (fun i => sdL zs.length (ptZ zs) i p) j

set_option maxHeartbeats 4000000 in
theorem specIn_any (b o : Nat) (k : Zn) (c : Value) (p : Int × Int) (w : World) (h : ZnAt w b o k c) (hn : k.cs.length ≤ 1000000) (hz : ∀ j (hj : j < k.cs.length), near0 k.cs[j]) (hp : near0 p) :
    Calls Try.prog 106 #[.pointer (some ⟨b, o, none⟩), .agg #[.int .i64 p.1, .int .i64 p.2]] w fun e w' => e = .returned (.int .i64 (whIn k.cs p k.cs.length)) ∧ Below w.heap.size w w' := by
  obtain ⟨hb0, ⟨c0, c1, c2, c3⟩, hr⟩ := h
  obtain ⟨A, cp, rfl, hl, r1⟩ := RdP_slice hr
  have H := Lib.hid hr; clear hr
  have R := Lib.hid r1; clear r1
  clear c0 c1 c2
  generalize k.cs = zs at *
  have HN := Lib.hid (fun j (hj : j < zs.length) u (q : RdP u (.slice A zs.length cp) zs) => nextZ_any _ zs j u q hj hn)
  have HC := Lib.hid (fun j u => cross_any (ptZ zs j) (ptZ zs ((j + 1) % zs.length)) p u (near_pt hz _) (near_pt hz _) hp)
  have hout : ∀ j, j < zs.length → crossL (ptZ zs j) (ptZ zs ((j + 1) % zs.length)) p < 0 → whIn zs p zs.length = 0 := fun j hj hd => wh_out (f := fun i => sdL zs.length (ptZ zs) i p) hd hj
  have hst : ∀ j, whIn zs p j ≠ 0 → 0 ≤ crossL (ptZ zs j) (ptZ zs ((j + 1) % zs.length)) p → whIn zs p (j + 1) = if crossL (ptZ zs j) (ptZ zs ((j + 1) % zs.length)) p = 0 then 1 else whIn zs p j := fun j h0 hd => wh_step (f := fun i => sdL zs.length (ptZ zs) i p) h0 hd
  have h00 : whIn zs p 0 = 2 := rfl
  have hbd : ∀ j, 0 ≤ whIn zs p j ∧ whIn zs p j ≤ 2 := fun j => (wh_pos (f := fun i => sdL zs.length (ptZ zs) i p) (n := j)).2
  have HOUT := Lib.hid hout; clear hout
  have HST := Lib.hid hst; clear hst
  have H00 := Lib.hid h00; clear h00
  have HBD := Lib.hid hbd; clear hbd
  clear hz hp
  generalize hF : whIn zs p = F at *
  clear hF
  obtain ⟨px, py⟩ := p
  dsimp only at *
  go_enter Try.func106, Try.ntmps106
  go_wp2_with fail
  go_loopw [5, 6] (fun q i wr => ∃ j : Nat, j ≤ zs.length ∧ i = .int .i64 (j : Int) ∧ q = .int .i64 (F j) ∧ F j ≠ 0 ∧ (wr.cell? ⟨w.heap.size, 0, none⟩ = some (.int .i64 px) ∧ wr.cell? ⟨w.heap.size, 1, none⟩ = some (.int .i64 py)) ∧ w.heap.size < wr.heap.size ∧ Below w.heap.size w wr) (fun _ i _ => zs.length - (intOf i).toNat)
  case atStart => exact ⟨0, by omega, rfl, by rw [H00.out], by rw [H00.out]; omega, by simp, by simp, by go_grown⟩
  case round =>
    obtain ⟨j, hj, rfl, rfl, hne, ⟨f0, f1⟩, hlw, hb⟩ := hrel
    rw [← kept_cell hb b _ hb0] at c3
    have hb0w := Nat.lt_of_lt_of_le hb0 hb.size
    have hneb : ¬ b = w.heap.size := by omega
    by_cases hlt : j < zs.length
    · have hm : (j + 1) % zs.length < zs.length := Nat.mod_lt _ (by omega)
      have hout := HOUT.out j hlt
      have hst := HST.out j hne
      have HNJ := Lib.hid (HN.out j hlt)
      have HCJ := Lib.hid (HC.out j)
      have hjI : (j : Int) < (zs.length : Int) := by omega
      have hjJ : (0 : Int) ≤ (j : Int) := by omega
      have hfb := HBD.out j
      obtain ⟨b1, off, rfl, hbl, d0, d1⟩ := R.out j hlt
      rw [← kept_cell hb b1 _ hbl] at d0 d1
      rw [← ptZ_at zs j hlt] at d0 d1
      have hblw := Nat.lt_of_lt_of_le hbl hb.size
      have hne1 : ¬ b1 = w.heap.size := by omega
      generalize crossL (ptZ zs j) (ptZ zs ((j + 1) % zs.length)) (px, py) = D at *
      generalize (ptZ zs j).1 = x1 at *
      generalize (ptZ zs j).2 = x2 at *
      generalize (ptZ zs ((j + 1) % zs.length)).1 = q1 at *
      generalize (ptZ zs ((j + 1) % zs.length)).2 = q2 at *
      generalize F j = fj at *
      have HO := Lib.hid hout; clear hout
      have HT := Lib.hid hst; clear hst
      go_wp2_with fail
      go_region_held3 (fun w' => w'.cell? ⟨b, o + 3, none⟩ = some (.slice (some ⟨b1, off, none⟩) zs.length cp) ∧ w'.cell? ⟨b1, off + j * 2, none⟩ = some (.int .i64 x1) ∧ w'.cell? ⟨b1, off + j * 2 + 1, none⟩ = some (.int .i64 x2) ∧ w'.cell? ⟨w.heap.size, 0, none⟩ = some (.int .i64 px) ∧ w'.cell? ⟨w.heap.size, 1, none⟩ = some (.int .i64 py)) (go_keep)
        (first | (go_at_call 108; refine (HNJ.out _ (RdP_kept H.out (kept_trans (a := w) hb (by go_grown)))).mono ?_; rintro e w1 ⟨rfl, hb1⟩; refine kept_at hb1 b (by go_size) fun cc1 z1 s1 => ?_; refine kept_at hb1 b1 (by go_size) fun cd1 zd1 sd1 => ?_; refine kept_at hb1 w.heap.size (by go_size) fun ce1 ze1 se1 => ?_; have b1' := kept_trans (a := wr) (by go_grown) hb1) | (go_at_call 126; refine (HCJ.out _).mono ?_; rintro e w2 ⟨rfl, hb2⟩; refine kept_at hb2 b (by go_size) fun cc2 z2 s2 => ?_; refine kept_at hb2 b1 (by go_size) fun cd2 zd2 sd2 => ?_; refine kept_at hb2 w.heap.size (by go_size) fun ce2 ze2 se2 => ?_; have b2' := kept_trans (a := wr) (by go_grown) hb2))
      obtain ⟨_, _, _, g3, g4⟩ := ‹_ ∧ _›
      by_cases hd : D < 0
      · have hG := HO.out hd
        go_wp2
        go_ret
        exact ⟨by rw [hG]; rfl, kept_trans hb (by assumption)⟩
      · have hT := HT.out (by omega)
        by_cases hd0 : D = 0
        · rw [if_pos hd0] at hT
          subst hd0
          have HTT := Lib.hid hT; clear hT
          go_wp2
          go_roundw
          case rel => exact ⟨j + 1, by omega, by go_num, by rw [HTT.out], by rw [HTT.out]; omega, ⟨g3, g4⟩, by assumption, kept_trans hb (by assumption)⟩
          case measure => simp [intOf]; omega
        · rw [if_neg hd0] at hT
          have hdb : (D == 0) = false := by rw [beq_eq_false_iff_ne]; exact hd0
          have HTT := Lib.hid hT; clear hT
          go_wp2
          go_roundw
          case rel => exact ⟨j + 1, by omega, by go_num, by rw [HTT.out], by rw [HTT.out]; omega, ⟨g3, g4⟩, by assumption, kept_trans hb (by assumption)⟩
          case measure => simp [intOf]; omega
    · have : j = zs.length := by omega
      subst this
      go_wp2
      go_ret
      exact ⟨rfl, hb⟩

theorem minZ_any (a b : Int) (w : World) :
    Calls Try.prog 37 #[.int .i64 a, .int .i64 b] w fun e w' => e = .returned (.int .i64 (min a b)) ∧ w = w' := by
  by_cases h : a < b
  all_goals
    go_enter Try.func37, Try.ntmps37
    go_wp2
    go_ret
    first
      | exact ⟨by simp; omega, rfl⟩
      | (refine ⟨?_, rfl⟩; rw [show min a b = a by omega]; rfl)
      | (refine ⟨?_, rfl⟩; rw [show min a b = b by omega]; rfl)

theorem maxZ_any (a b : Int) (w : World) :
    Calls Try.prog 83 #[.int .i64 a, .int .i64 b] w fun e w' => e = .returned (.int .i64 (max a b)) ∧ w = w' := by
  by_cases h : b < a
  all_goals
    go_enter Try.func83, Try.ntmps83
    go_wp2
    go_ret
    first
      | exact ⟨by simp; omega, rfl⟩
      | (refine ⟨?_, rfl⟩; rw [show max a b = a by omega]; rfl)
      | (refine ⟨?_, rfl⟩; rw [show max a b = b by omega]; rfl)

/-- A point is in the box of two others. -/
def boxL (a b p : Int × Int) : Bool := inB p.1 (min a.1 b.1) (max a.1 b.1) && inB p.2 (min a.2 b.2) (max a.2 b.2)

theorem boxL_iff {a b p : Int × Int} : boxL a b p = true ↔ boxB a b p := by
  unfold boxL boxB inB
  simp

set_option maxHeartbeats 1000000 in
theorem box_any (a b p : Int × Int) (w : World) :
    Calls Try.prog 128 #[.agg #[.int .i64 a.1, .int .i64 a.2], .agg #[.int .i64 b.1, .int .i64 b.2], .agg #[.int .i64 p.1, .int .i64 p.2]] w fun e w' => e = .returned (.bool (boxL a b p)) ∧ Below w.heap.size w w' := by
  unfold boxL
  obtain ⟨a1, a2⟩ := a
  obtain ⟨b1, b2⟩ := b
  obtain ⟨p1, p2⟩ := p
  dsimp only
  have HI1 := Lib.hid (fun u => minZ_any a1 b1 u)
  have HI2 := Lib.hid (fun u => minZ_any a2 b2 u)
  have HA1 := Lib.hid (fun u => maxZ_any a1 b1 u)
  have HA2 := Lib.hid (fun u => maxZ_any a2 b2 u)
  generalize min a1 b1 = m1 at *
  generalize max a1 b1 = n1 at *
  generalize min a2 b2 = m2 at *
  generalize max a2 b2 = n2 at *
  have hB1 := fun u => in_any p1 m1 n1 u
  have HB2 := Lib.hid (fun u => in_any p2 m2 n2 u)
  cases h1 : inB p1 m1 n1
  all_goals
    rw [h1] at hB1
    have HB1 := Lib.hid hB1; clear hB1 h1
    generalize inB p2 m2 n2 = I2 at *
    go_enter Try.func128, Try.ntmps128
    go_wp2_with fail
    go_quiet (first
      | (go_at_call 37; with_reducible (show Calls _ _ #[.int .i64 a1, .int .i64 b1] _ _); exact Calls.quiet_of_same ((HI1.out _).mono fun e w' h => ⟨h.1, h.2.symm⟩))
      | (go_at_call 37; with_reducible (show Calls _ _ #[.int .i64 a2, .int .i64 b2] _ _); exact Calls.quiet_of_same ((HI2.out _).mono fun e w' h => ⟨h.1, h.2.symm⟩))
      | (go_at_call 83; with_reducible (show Calls _ _ #[.int .i64 a1, .int .i64 b1] _ _); exact Calls.quiet_of_same ((HA1.out _).mono fun e w' h => ⟨h.1, h.2.symm⟩))
      | (go_at_call 83; with_reducible (show Calls _ _ #[.int .i64 a2, .int .i64 b2] _ _); exact Calls.quiet_of_same ((HA2.out _).mono fun e w' h => ⟨h.1, h.2.symm⟩))
      | (go_at_call 84; with_reducible (show Calls _ _ #[.int .i64 p1, .int .i64 m1, .int .i64 n1] _ _); exact Calls.quiet_of_same ((HB1.out _).mono fun e w' h => ⟨h.1, h.2.symm⟩))
      | (go_at_call 84; with_reducible (show Calls _ _ #[.int .i64 p2, .int .i64 m2, .int .i64 n2] _ _); exact Calls.quiet_of_same ((HB2.out _).mono fun e w' h => ⟨h.1, h.2.symm⟩)))
    go_wp2
    go_ret
    exact ⟨by simp, kept_drewN (by go_grown) _⟩

theorem sign_any (n : Int) (w : World) :
    Calls Try.prog 127 #[.int .i64 n] w fun e w' => e = .returned (.int .i64 (signL n)) ∧ w = w' := by
  unfold signL
  by_cases h1 : 0 < n
  · go_enter Try.func127, Try.ntmps127
    go_wp2
    go_ret
    exact ⟨by simp [h1], rfl⟩
  · by_cases h2 : n < 0
    · go_enter Try.func127, Try.ntmps127
      go_wp2
      go_ret
      exact ⟨by simp [h1, h2], rfl⟩
    · go_enter Try.func127, Try.ntmps127
      go_wp2
      go_ret
      exact ⟨by simp [h1, h2], rfl⟩

/-- Two straight lines have a point in common. -/
def linesL (a b c d : Int × Int) : Bool :=
  (decide (signL (crossL a b c) * signL (crossL a b d) < 0) && decide (signL (crossL c d a) * signL (crossL c d b) < 0)) ||
  ((decide (signL (crossL a b c) = 0) && boxL a b c) || ((decide (signL (crossL a b d) = 0) && boxL a b d) || ((decide (signL (crossL c d a) = 0) && boxL c d a) || (decide (signL (crossL c d b) = 0) && boxL c d b))))

theorem linesL_iff {a b c d : Int × Int} : linesL a b c d = true ↔ linesP a b c d := by
  unfold linesL linesP
  simp only [Bool.or_eq_true, Bool.and_eq_true, decide_eq_true_eq, boxL_iff]

theorem signL_bd (n : Int) : signL n = -1 ∨ signL n = 0 ∨ signL n = 1 := by
  unfold signL
  split
  · omega
  · split <;> omega

set_option maxHeartbeats 8000000 in
theorem specLines_any (a b c d : Int × Int) (w : World) (ha : near0 a) (hb : near0 b) (hc : near0 c) (hd : near0 d) :
    Calls Try.prog 107 #[.agg #[.int .i64 a.1, .int .i64 a.2], .agg #[.int .i64 b.1, .int .i64 b.2], .agg #[.int .i64 c.1, .int .i64 c.2], .agg #[.int .i64 d.1, .int .i64 d.2]] w fun e w' => e = .returned (.bool (linesL a b c d)) ∧ Below w.heap.size w w' := by
  have HX1 := Lib.hid (fun u => cross_any a b c u ha hb hc)
  have HX2 := Lib.hid (fun u => cross_any a b d u ha hb hd)
  have HX3 := Lib.hid (fun u => cross_any c d a u hc hd ha)
  have HX4 := Lib.hid (fun u => cross_any c d b u hc hd hb)
  have HB1 := Lib.hid (fun u => box_any a b c u)
  have HB2 := Lib.hid (fun u => box_any a b d u)
  have HB3 := Lib.hid (fun u => box_any c d a u)
  have HB4 := Lib.hid (fun u => box_any c d b u)
  unfold linesL
  have HG1 := Lib.hid (fun u => sign_any (crossL a b c) u)
  have HG2 := Lib.hid (fun u => sign_any (crossL a b d) u)
  have HG3 := Lib.hid (fun u => sign_any (crossL c d a) u)
  have HG4 := Lib.hid (fun u => sign_any (crossL c d b) u)
  clear ha hb hc hd
  generalize crossL a b c = x1 at *
  generalize crossL a b d = x2 at *
  generalize crossL c d a = x3 at *
  generalize crossL c d b = x4 at *
  generalize boxL a b c = B1 at *
  generalize boxL a b d = B2 at *
  generalize boxL c d a = B3 at *
  generalize boxL c d b = B4 at *
  obtain ⟨a1, a2⟩ := a
  obtain ⟨b1, b2⟩ := b
  obtain ⟨c1, c2⟩ := c
  obtain ⟨d1, d2⟩ := d
  dsimp only at *
  have g1 := signL_bd x1
  have g2 := signL_bd x2
  have g3 := signL_bd x3
  have g4 := signL_bd x4
  generalize signL x1 = s1 at *
  generalize signL x2 = s2 at *
  generalize signL x3 = s3 at *
  generalize signL x4 = s4 at *
  have hp1 := prod_bd s1 s2 1 (by omega) (by omega)
  have hp2 := prod_bd s3 s4 1 (by omega) (by omega)
  have hw1 : IntKind.i64.wrap (s1 * s2) = s1 * s2 := IntWalk.i64_in _ (by omega)
  have hw2 : IntKind.i64.wrap (s3 * s4) = s3 * s4 := IntWalk.i64_in _ (by omega)
  clear g1 g2 g3 g4
  have w1' : wrap64 (s1 * s2) = s1 * s2 := IntWalk.wrap64_in _ (by omega)
  have w2' : wrap64 (s3 * s4) = s3 * s4 := IntWalk.wrap64_in _ (by omega)
  by_cases hA : s1 * s2 < 0 ∧ s3 * s4 < 0
  · obtain ⟨hA1, hA2⟩ := hA
    rw [show (decide (s1 * s2 < 0) && decide (s3 * s4 < 0)) = true by simp [hA1, hA2], Bool.true_or]
    go_enter Try.func107, Try.ntmps107
    go_wp2_with fail
    refine (HX1.out _).mono ?_
    rintro e w1 ⟨rfl, hb1⟩
    refine kept_at hb1 (w.heap.size) (by go_size) fun c1_0 z1_0 s1_0 => ?_
    refine kept_at hb1 (w.heap.size + 1) (by go_size) fun c1_1 z1_1 s1_1 => ?_
    refine kept_at hb1 (w.heap.size + 2) (by go_size) fun c1_2 z1_2 s1_2 => ?_
    refine kept_at hb1 (w.heap.size + 3) (by go_size) fun c1_3 z1_3 s1_3 => ?_
    have j1 := kept_trans (a := w) (by go_grown) hb1
    go_wp2_with fail
    refine (HG1.out _).mono ?_
    rintro e u1 ⟨rfl, rfl⟩
    go_wp2_with fail
    refine (HX2.out _).mono ?_
    rintro e w2 ⟨rfl, hb2⟩
    refine kept_at hb2 (w.heap.size) (by go_size) fun c2_0 z2_0 s2_0 => ?_
    refine kept_at hb2 (w.heap.size + 1) (by go_size) fun c2_1 z2_1 s2_1 => ?_
    refine kept_at hb2 (w.heap.size + 2) (by go_size) fun c2_2 z2_2 s2_2 => ?_
    refine kept_at hb2 (w.heap.size + 3) (by go_size) fun c2_3 z2_3 s2_3 => ?_
    have j2 := kept_trans j1 hb2
    go_wp2_with fail
    refine (HG2.out _).mono ?_
    rintro e u2 ⟨rfl, rfl⟩
    go_wp2_with fail
    refine (HX3.out _).mono ?_
    rintro e w3 ⟨rfl, hb3⟩
    refine kept_at hb3 (w.heap.size) (by go_size) fun c3_0 z3_0 s3_0 => ?_
    refine kept_at hb3 (w.heap.size + 1) (by go_size) fun c3_1 z3_1 s3_1 => ?_
    refine kept_at hb3 (w.heap.size + 2) (by go_size) fun c3_2 z3_2 s3_2 => ?_
    refine kept_at hb3 (w.heap.size + 3) (by go_size) fun c3_3 z3_3 s3_3 => ?_
    have j3 := kept_trans j2 hb3
    go_wp2_with fail
    refine (HG3.out _).mono ?_
    rintro e u3 ⟨rfl, rfl⟩
    go_wp2_with fail
    refine (HX4.out _).mono ?_
    rintro e w4 ⟨rfl, hb4⟩
    refine kept_at hb4 (w.heap.size) (by go_size) fun c4_0 z4_0 s4_0 => ?_
    refine kept_at hb4 (w.heap.size + 1) (by go_size) fun c4_1 z4_1 s4_1 => ?_
    refine kept_at hb4 (w.heap.size + 2) (by go_size) fun c4_2 z4_2 s4_2 => ?_
    refine kept_at hb4 (w.heap.size + 3) (by go_size) fun c4_3 z4_3 s4_3 => ?_
    have j4 := kept_trans j3 hb4
    go_wp2_with fail
    refine (HG4.out _).mono ?_
    rintro e u4 ⟨rfl, rfl⟩
    go_wp2
    go_ret
    exact ⟨rfl, j4⟩
  · have hA' : (decide (s1 * s2 < 0) && decide (s3 * s4 < 0)) = false := by simp; omega
    rw [hA', Bool.false_or]
    have HA := Lib.hid hA
    clear hA'
    go_enter Try.func107, Try.ntmps107
    go_wp2_with fail
    refine (HX1.out _).mono ?_
    rintro e w1 ⟨rfl, hb1⟩
    refine kept_at hb1 (w.heap.size) (by go_size) fun c1_0 z1_0 s1_0 => ?_
    refine kept_at hb1 (w.heap.size + 1) (by go_size) fun c1_1 z1_1 s1_1 => ?_
    refine kept_at hb1 (w.heap.size + 2) (by go_size) fun c1_2 z1_2 s1_2 => ?_
    refine kept_at hb1 (w.heap.size + 3) (by go_size) fun c1_3 z1_3 s1_3 => ?_
    have j1 := kept_trans (a := w) (by go_grown) hb1
    go_wp2_with fail
    refine (HG1.out _).mono ?_
    rintro e u1 ⟨rfl, rfl⟩
    go_wp2_with fail
    refine (HX2.out _).mono ?_
    rintro e w2 ⟨rfl, hb2⟩
    refine kept_at hb2 (w.heap.size) (by go_size) fun c2_0 z2_0 s2_0 => ?_
    refine kept_at hb2 (w.heap.size + 1) (by go_size) fun c2_1 z2_1 s2_1 => ?_
    refine kept_at hb2 (w.heap.size + 2) (by go_size) fun c2_2 z2_2 s2_2 => ?_
    refine kept_at hb2 (w.heap.size + 3) (by go_size) fun c2_3 z2_3 s2_3 => ?_
    have j2 := kept_trans j1 hb2
    go_wp2_with fail
    refine (HG2.out _).mono ?_
    rintro e u2 ⟨rfl, rfl⟩
    go_wp2_with fail
    refine (HX3.out _).mono ?_
    rintro e w3 ⟨rfl, hb3⟩
    refine kept_at hb3 (w.heap.size) (by go_size) fun c3_0 z3_0 s3_0 => ?_
    refine kept_at hb3 (w.heap.size + 1) (by go_size) fun c3_1 z3_1 s3_1 => ?_
    refine kept_at hb3 (w.heap.size + 2) (by go_size) fun c3_2 z3_2 s3_2 => ?_
    refine kept_at hb3 (w.heap.size + 3) (by go_size) fun c3_3 z3_3 s3_3 => ?_
    have j3 := kept_trans j2 hb3
    go_wp2_with fail
    refine (HG3.out _).mono ?_
    rintro e u3 ⟨rfl, rfl⟩
    go_wp2_with fail
    refine (HX4.out _).mono ?_
    rintro e w4 ⟨rfl, hb4⟩
    refine kept_at hb4 (w.heap.size) (by go_size) fun c4_0 z4_0 s4_0 => ?_
    refine kept_at hb4 (w.heap.size + 1) (by go_size) fun c4_1 z4_1 s4_1 => ?_
    refine kept_at hb4 (w.heap.size + 2) (by go_size) fun c4_2 z4_2 s4_2 => ?_
    refine kept_at hb4 (w.heap.size + 3) (by go_size) fun c4_3 z4_3 s4_3 => ?_
    have j4 := kept_trans j3 hb4
    go_wp2_with fail
    refine (HG4.out _).mono ?_
    rintro e u4 ⟨rfl, rfl⟩
    go_wp2_with (first | (go_at_call 128; with_reducible (show Calls _ _ #[.agg #[.int .i64 a1, .int .i64 a2], .agg #[.int .i64 b1, .int .i64 b2], .agg #[.int .i64 c1, .int .i64 c2]] _ _); refine (HB1.out _).mono ?_; rintro e w5 ⟨rfl, hb5⟩; refine kept_at hb5 (w.heap.size) (by go_size) fun c5_0 z5_0 s5_0 => ?_; refine kept_at hb5 (w.heap.size + 1) (by go_size) fun c5_1 z5_1 s5_1 => ?_; refine kept_at hb5 (w.heap.size + 2) (by go_size) fun c5_2 z5_2 s5_2 => ?_; refine kept_at hb5 (w.heap.size + 3) (by go_size) fun c5_3 z5_3 s5_3 => ?_; replace j4 := kept_trans j4 hb5) | (go_at_call 128; with_reducible (show Calls _ _ #[.agg #[.int .i64 a1, .int .i64 a2], .agg #[.int .i64 b1, .int .i64 b2], .agg #[.int .i64 d1, .int .i64 d2]] _ _); refine (HB2.out _).mono ?_; rintro e w5 ⟨rfl, hb5⟩; refine kept_at hb5 (w.heap.size) (by go_size) fun c5_0 z5_0 s5_0 => ?_; refine kept_at hb5 (w.heap.size + 1) (by go_size) fun c5_1 z5_1 s5_1 => ?_; refine kept_at hb5 (w.heap.size + 2) (by go_size) fun c5_2 z5_2 s5_2 => ?_; refine kept_at hb5 (w.heap.size + 3) (by go_size) fun c5_3 z5_3 s5_3 => ?_; replace j4 := kept_trans j4 hb5) | (go_at_call 128; with_reducible (show Calls _ _ #[.agg #[.int .i64 c1, .int .i64 c2], .agg #[.int .i64 d1, .int .i64 d2], .agg #[.int .i64 a1, .int .i64 a2]] _ _); refine (HB3.out _).mono ?_; rintro e w5 ⟨rfl, hb5⟩; refine kept_at hb5 (w.heap.size) (by go_size) fun c5_0 z5_0 s5_0 => ?_; refine kept_at hb5 (w.heap.size + 1) (by go_size) fun c5_1 z5_1 s5_1 => ?_; refine kept_at hb5 (w.heap.size + 2) (by go_size) fun c5_2 z5_2 s5_2 => ?_; refine kept_at hb5 (w.heap.size + 3) (by go_size) fun c5_3 z5_3 s5_3 => ?_; replace j4 := kept_trans j4 hb5) | (go_at_call 128; with_reducible (show Calls _ _ #[.agg #[.int .i64 c1, .int .i64 c2], .agg #[.int .i64 d1, .int .i64 d2], .agg #[.int .i64 b1, .int .i64 b2]] _ _); refine (HB4.out _).mono ?_; rintro e w5 ⟨rfl, hb5⟩; refine kept_at hb5 (w.heap.size) (by go_size) fun c5_0 z5_0 s5_0 => ?_; refine kept_at hb5 (w.heap.size + 1) (by go_size) fun c5_1 z5_1 s5_1 => ?_; refine kept_at hb5 (w.heap.size + 2) (by go_size) fun c5_2 z5_2 s5_2 => ?_; refine kept_at hb5 (w.heap.size + 3) (by go_size) fun c5_3 z5_3 s5_3 => ?_; replace j4 := kept_trans j4 hb5))
    all_goals
      go_ret
      exact ⟨by simp [*], j4⟩

open Classical in
/-- A straight line meets a zone. -/
noncomputable def meetsB (zs : List (Int × Int)) (a b : Int × Int) : Bool := decide (specHit zs.length (ptZ zs) a b)

theorem whIn_pos {zs : List (Int × Int)} {p : Int × Int} : 0 < whIn zs p zs.length ↔ inAll zs.length (ptZ zs) p := (wh_pos (f := fun i => sdL zs.length (ptZ zs) i p) (n := zs.length)).1

set_option maxHeartbeats 4000000 in
theorem specMeets_any (b o : Nat) (k : Zn) (c : Value) (p q : Int × Int) (w : World) (h : ZnAt w b o k c) (hn : k.cs.length ≤ 1000000) (hz : ∀ j (hj : j < k.cs.length), near0 k.cs[j]) (hp : near0 p) (hq : near0 q) :
    Calls Try.prog 71 #[.pointer (some ⟨b, o, none⟩), .agg #[.int .i64 p.1, .int .i64 p.2], .agg #[.int .i64 q.1, .int .i64 q.2]] w fun e w' => e = .returned (.bool (meetsB k.cs p q)) ∧ Below w.heap.size w w' := by
  have HI1 := Lib.hid (fun u (z : ZnAt u b o k c) => specIn_any b o k c p u z hn hz hp)
  have HI2 := Lib.hid (fun u (z : ZnAt u b o k c) => specIn_any b o k c q u z hn hz hq)
  have HZ := Lib.hid h
  obtain ⟨hb0, ⟨c0, c1, c2, c3⟩, hr⟩ := h
  obtain ⟨A, cp, rfl, hl, r1⟩ := RdP_slice hr
  have H := Lib.hid hr; clear hr
  have R := Lib.hid r1; clear r1
  clear c0 c1 c2
  have hin1 : 0 < whIn k.cs p k.cs.length → meetsB k.cs p q = true := fun h => by simp only [meetsB, decide_eq_true_eq]; exact Or.inl (whIn_pos.1 h)
  have hin2 : 0 < whIn k.cs q k.cs.length → meetsB k.cs p q = true := fun h => by simp only [meetsB, decide_eq_true_eq]; exact Or.inr (Or.inl (whIn_pos.1 h))
  have hli : ∀ j, j < k.cs.length → linesL p q (ptZ k.cs j) (ptZ k.cs ((j + 1) % k.cs.length)) = true → meetsB k.cs p q = true := fun j hj h => by simp only [meetsB, decide_eq_true_eq]; exact Or.inr (Or.inr ⟨j, hj, linesL_iff.1 h⟩)
  have hno : ¬ 0 < whIn k.cs p k.cs.length → ¬ 0 < whIn k.cs q k.cs.length → (∀ j, j < k.cs.length → linesL p q (ptZ k.cs j) (ptZ k.cs ((j + 1) % k.cs.length)) = false) → meetsB k.cs p q = false := by
    intro h1 h2 h3
    simp only [meetsB, decide_eq_false_iff_not]
    rintro (h | h | ⟨j, hj, h⟩)
    · exact h1 (whIn_pos.2 h)
    · exact h2 (whIn_pos.2 h)
    · have := linesL_iff.2 h
      rw [h3 j hj] at this
      cases this
  have HN := Lib.hid (fun j (hj : j < k.cs.length) u (q : RdP u (.slice A k.cs.length cp) k.cs) => nextZ_any _ k.cs j u q hj hn)
  have HL := Lib.hid (fun j u => specLines_any p q (ptZ k.cs j) (ptZ k.cs ((j + 1) % k.cs.length)) u hp hq (near_pt hz _) (near_pt hz _))
  have HIN1 := Lib.hid hin1; clear hin1
  have HIN2 := Lib.hid hin2; clear hin2
  have HLI := Lib.hid hli; clear hli
  have HNO := Lib.hid hno; clear hno
  clear hp hq hz
  generalize whIn k.cs p k.cs.length = I1 at *
  generalize whIn k.cs q k.cs.length = I2 at *
  generalize meetsB k.cs p q = G at *
  generalize hLL : (fun j => linesL p q (ptZ k.cs j) (ptZ k.cs ((j + 1) % k.cs.length))) = LL at *
  have hle : ∀ j, linesL p q (ptZ k.cs j) (ptZ k.cs ((j + 1) % k.cs.length)) = LL j := fun j => by rw [← hLL]
  simp only [hle] at HL HLI HNO
  clear hLL hle
  obtain ⟨p1, p2⟩ := p
  obtain ⟨q1, q2⟩ := q
  obtain ⟨kd, st, ea, zs⟩ := k
  dsimp only at *
  by_cases h1 : 0 < I1
  · have hG := HIN1.out h1
    subst hG
    go_enter Try.func71, Try.ntmps71
    go_wp2_with fail
    refine (HI1.out _ (ZnAt_kept HZ.out (by go_grown))).mono ?_
    rintro e w1 ⟨rfl, hb1⟩
    have b1 := kept_trans (a := w) (by go_grown) hb1
    go_wp2
    go_ret
    exact ⟨rfl, b1⟩
  by_cases h2 : 0 < I2
  · have hG := HIN2.out h2
    subst hG
    go_enter Try.func71, Try.ntmps71
    go_wp2_with fail
    refine (HI1.out _ (ZnAt_kept HZ.out (by go_grown))).mono ?_
    rintro e w1 ⟨rfl, hb1⟩
    refine kept_at hb1 (w.heap.size + 1) (by go_size) fun c1_1 z1_1 s1_1 => ?_
    have b1 := kept_trans (a := w) (by go_grown) hb1
    go_wp2_with fail
    refine (HI2.out _ (ZnAt_kept HZ.out b1)).mono ?_
    rintro e w2 ⟨rfl, hb2⟩
    have b2 := kept_trans b1 hb2
    go_wp2
    go_ret
    exact ⟨rfl, b2⟩
  go_enter Try.func71, Try.ntmps71
  go_wp2_with fail
  refine (HI1.out _ (ZnAt_kept HZ.out (by go_grown))).mono ?_
  rintro e w1 ⟨rfl, hb1⟩
  refine kept_at hb1 w.heap.size (by go_size) fun c1_0 z1_0 s1_0 => ?_
  refine kept_at hb1 (w.heap.size + 1) (by go_size) fun c1_1 z1_1 s1_1 => ?_
  have b1 := kept_trans (a := w) (by go_grown) hb1
  go_wp2_with fail
  refine (HI2.out _ (ZnAt_kept HZ.out b1)).mono ?_
  rintro e w2 ⟨rfl, hb2⟩
  refine kept_at hb2 w.heap.size (by go_size) fun c2_0 z2_0 s2_0 => ?_
  refine kept_at hb2 (w.heap.size + 1) (by go_size) fun c2_1 z2_1 s2_1 => ?_
  have b2 := kept_trans b1 hb2
  have e0 : w2.cell? ⟨w.heap.size, 0, none⟩ = some (.int .i64 p1) := by rw [c2_0, c1_0]; simp
  have e1 : w2.cell? ⟨w.heap.size, 1, none⟩ = some (.int .i64 p2) := by rw [c2_0, c1_0]; simp
  have e2 : w2.cell? ⟨w.heap.size + 1, 0, none⟩ = some (.int .i64 q1) := by rw [c2_1, c1_1]; simp
  have e3 : w2.cell? ⟨w.heap.size + 1, 1, none⟩ = some (.int .i64 q2) := by rw [c2_1, c1_1]; simp
  clear c2_0 c2_1 c1_0 c1_1 z2_0 z2_1 z1_0 z1_1
  go_wp2_with fail
  go_loopw [7] (fun i wr => ∃ j : Nat, j ≤ zs.length ∧ i = .int .i64 (j : Int) ∧ (∀ i, i < j → LL i = false) ∧ (wr.cell? ⟨w.heap.size, 0, none⟩ = some (.int .i64 p1) ∧ wr.cell? ⟨w.heap.size, 1, none⟩ = some (.int .i64 p2) ∧ wr.cell? ⟨w.heap.size + 1, 0, none⟩ = some (.int .i64 q1) ∧ wr.cell? ⟨w.heap.size + 1, 1, none⟩ = some (.int .i64 q2)) ∧ w.heap.size + 1 < wr.heap.size ∧ Below w.heap.size w wr) (fun i _ => zs.length - (intOf i).toNat)
  case atStart => exact ⟨0, by omega, rfl, fun i h => by omega, ⟨e0, e1, e2, e3⟩, s2_1, b2⟩
  case round =>
    obtain ⟨j, hj, rfl, hall, ⟨f0, f1, f2, f3⟩, hlw, hb⟩ := hrel
    rw [← kept_cell hb b _ hb0] at c3
    have hb0w := Nat.lt_of_lt_of_le hb0 hb.size
    have hneb : ¬ b = w.heap.size := by omega
    have hneb1 : ¬ b = w.heap.size + 1 := by omega
    by_cases hlt : j < zs.length
    · have hli := HLI.out j hlt
      have HNJ := Lib.hid (HN.out j hlt)
      have HLJ := Lib.hid (HL.out j)
      have hjI : (j : Int) < (zs.length : Int) := by omega
      have hjJ : (0 : Int) ≤ (j : Int) := by omega
      obtain ⟨b1', off, rfl, hbl, d0, d1⟩ := R.out j hlt
      rw [← kept_cell hb b1' _ hbl] at d0 d1
      rw [← ptZ_at zs j hlt] at d0 d1
      have hblw := Nat.lt_of_lt_of_le hbl hb.size
      have hnx : LL j = false → ∀ i, i < j + 1 → LL i = false := fun h i hi => by
        rcases Nat.lt_or_ge i j with h3 | h3
        · exact hall i h3
        · obtain rfl : i = j := by omega
          exact h
      have HNX := Lib.hid hnx; clear hnx hall
      generalize LL j = L at *
      generalize (ptZ zs j).1 = x1 at *
      generalize (ptZ zs j).2 = x2 at *
      generalize (ptZ zs ((j + 1) % zs.length)).1 = y1 at *
      generalize (ptZ zs ((j + 1) % zs.length)).2 = y2 at *
      have HLIJ := Lib.hid hli; clear hli
      go_wp2_with fail
      go_region_held3 (fun w' => w'.cell? ⟨b, o + 3, none⟩ = some (.slice (some ⟨b1', off, none⟩) zs.length cp) ∧ w'.cell? ⟨b1', off + j * 2, none⟩ = some (.int .i64 x1) ∧ w'.cell? ⟨b1', off + j * 2 + 1, none⟩ = some (.int .i64 x2) ∧ w'.cell? ⟨w.heap.size, 0, none⟩ = some (.int .i64 p1) ∧ w'.cell? ⟨w.heap.size, 1, none⟩ = some (.int .i64 p2) ∧ w'.cell? ⟨w.heap.size + 1, 0, none⟩ = some (.int .i64 q1) ∧ w'.cell? ⟨w.heap.size + 1, 1, none⟩ = some (.int .i64 q2)) (go_keep)
        (first | (go_at_call 108; refine (HNJ.out _ (RdP_kept H.out (kept_trans (a := w) hb (by go_grown)))).mono ?_; rintro e w3 ⟨rfl, hb3⟩; refine kept_at hb3 b (by go_size) fun cc1 z1 s1 => ?_; refine kept_at hb3 b1' (by go_size) fun cd1 zd1 sd1 => ?_; refine kept_at hb3 w.heap.size (by go_size) fun ce1 ze1 se1 => ?_; refine kept_at hb3 (w.heap.size + 1) (by go_size) fun cf1 zf1 sf1 => ?_; have b3' := kept_trans (a := wr) (by go_grown) hb3) | (go_at_call 107; refine (HLJ.out _).mono ?_; rintro e w4 ⟨rfl, hb4⟩; refine kept_at hb4 b (by go_size) fun cc2 z2 s2 => ?_; refine kept_at hb4 b1' (by go_size) fun cd2 zd2 sd2 => ?_; refine kept_at hb4 w.heap.size (by go_size) fun ce2 ze2 se2 => ?_; refine kept_at hb4 (w.heap.size + 1) (by go_size) fun cf2 zf2 sf2 => ?_; have b4' := kept_trans (a := wr) (by go_grown) hb4))
      all_goals
        rename_i gh
        obtain ⟨_, _, _, g3⟩ := gh
        cases L
        · have HN2 := Lib.hid (HNX.out rfl)
          go_wp2
          go_roundw
          case rel => exact ⟨j + 1, by omega, by go_num, HN2.out, g3, by assumption, kept_trans hb (by assumption)⟩
          case measure => simp [intOf]; omega
        · have hG := HLIJ.out rfl
          subst hG
          go_wp2
          go_ret
          exact ⟨rfl, kept_trans hb (by assumption)⟩
    · have : j = zs.length := by omega
      subst this
      have hG := HNO.out h1 h2 hall
      clear hall
      go_wp2
      go_ret
      exact ⟨by rw [hG]; rfl, hb⟩

theorem before_any (a b c d : Int) (w : World) (h1 : -2400000000 ≤ a ∧ a ≤ 2400000000) (h2 : -2400000000 ≤ b ∧ b ≤ 2400000000) (h3 : -2400000000 ≤ c ∧ c ≤ 2400000000) (h4 : -2400000000 ≤ d ∧ d ≤ 2400000000) :
    Calls Try.prog 134 #[.agg #[.int .i64 a, .int .i64 b], .agg #[.int .i64 c, .int .i64 d]] w fun e w' => e = .returned (.bool (decide (a * d < c * b))) ∧ Below w.heap.size w w' := by
  have g1 := prod_bd a d 2400000000 h1 h4
  have g2 := prod_bd c b 2400000000 h3 h2
  have w1 : IntKind.i64.wrap (a * d) = a * d := IntWalk.i64_in _ (by omega)
  have w2 : IntKind.i64.wrap (c * b) = c * b := IntWalk.i64_in _ (by omega)
  have w3 : wrap64 (a * d) = a * d := IntWalk.wrap64_in _ (by omega)
  have w4 : wrap64 (c * b) = c * b := IntWalk.wrap64_in _ (by omega)
  clear g1 g2
  go_enter Try.func134, Try.ntmps134
  go_wp2
  go_ret
  exact ⟨by simp [w3, w4], by go_grown⟩

theorem sd_bd {zs : List (Int × Int)} (h : ∀ k (hk : k < zs.length), near0 zs[k]) {p : Int × Int} (hp : near0 p) (j : Nat) : -1152000000 ≤ sdL zs.length (ptZ zs) j p ∧ sdL zs.length (ptZ zs) j p ≤ 1152000000 := by
  have h1 := near_pt h j
  have h2 := near_pt h ((j + 1) % zs.length)
  unfold sdL crossL
  generalize ptZ zs j = o at *
  generalize ptZ zs ((j + 1) % zs.length) = a at *
  unfold near0 at *
  have g1 := prod_bd (a.1 - o.1) (p.2 - o.2) 24000 (by omega) (by omega)
  have g2 := prod_bd (a.2 - o.2) (p.1 - o.1) 24000 (by omega) (by omega)
  omega

theorem two_set {w : World} {b : Nat} {x y v0 v1 : Value} (h0 : w.cell? ⟨b, 0, none⟩ = some v0) (h1 : w.cell? ⟨b, 1, none⟩ = some v1) (f0 : w.frozen? ⟨b, 0, none⟩ = false) (f1 : w.frozen? ⟨b, 1, none⟩ = false) :
    ((w.setCell ⟨b, 0, none⟩ x).setCell ⟨b, 1, none⟩ y).cell? ⟨b, 0, none⟩ = some x ∧ ((w.setCell ⟨b, 0, none⟩ x).setCell ⟨b, 1, none⟩ y).cell? ⟨b, 1, none⟩ = some y ∧
    ((w.setCell ⟨b, 0, none⟩ x).setCell ⟨b, 1, none⟩ y).frozen? ⟨b, 0, none⟩ = false ∧ ((w.setCell ⟨b, 0, none⟩ x).setCell ⟨b, 1, none⟩ y).frozen? ⟨b, 1, none⟩ = false := by
  have h01 : (⟨b, 1, none⟩ : Addr) ≠ ⟨b, 0, none⟩ := by simp
  have h10 : (⟨b, 0, none⟩ : Addr) ≠ ⟨b, 1, none⟩ := by simp
  refine ⟨?_, ?_, ?_, ?_⟩
  · rw [World.cell?_setCell_other _ _ _ _ h01]; exact World.cell?_setCell_same _ _ _ h0
  · refine World.cell?_setCell_same (u := v1) _ _ _ ?_
    rw [World.cell?_setCell_other _ _ _ _ h10]; exact h1
  · simp [f0]
  · simp [f1]

theorem two_far {w : World} {b c : Nat} (x y : Value) (h : b ≠ c) (o : Nat) :
    ((w.setCell ⟨b, 0, none⟩ x).setCell ⟨b, 1, none⟩ y).cell? ⟨c, o, none⟩ = w.cell? ⟨c, o, none⟩ ∧ ((w.setCell ⟨b, 0, none⟩ x).setCell ⟨b, 1, none⟩ y).frozen? ⟨c, o, none⟩ = w.frozen? ⟨c, o, none⟩ := by
  refine ⟨?_, by simp⟩
  rw [World.cell?_setCell_far _ _ _ _ h, World.cell?_setCell_far _ _ _ _ h]

set_option maxHeartbeats 8000000 in
theorem implMeets_any (k : Zn) (c : Value) (p q : Int × Int) (w : World) (hr : RdP w c k.cs) (hc : CornP k.cs) (hp : near0 p) (hq : near0 q) :
    Calls Try.prog 115 #[.agg #[.int .i64 p.1, .int .i64 p.2, .int .i64 q.1, .int .i64 q.2], .agg #[.int .i64 k.kd, .int .i64 k.st, .int .i64 k.ea, c]] w fun e w' => e = .returned (.bool (meetsB k.cs p q)) ∧ Below w.heap.size w w' := by
  obtain ⟨A, cp, rfl, hl, _⟩ := RdP_slice hr
  have H := Lib.hid hr; clear hr
  have hnear := corn_near hc
  have hlen := hc.1
  have hconv : Conv k.cs.length (ptZ k.cs) := ⟨hlen.1, fun i hi j hj h1 h2 => hc.2.2 i hi j hj h1 h2⟩
  have HSD := Lib.hid (fun u (q : RdP u (.slice A k.cs.length cp) k.cs) => sidesOf_any _ k.cs u q (by omega))
  have hsl := sidesL_len k.cs
  have side : ∀ (p : Int × Int), near0 p → ∀ j (hj : j < (sidesL k.cs).length) u, Calls Try.prog 133 #[.agg #[.int .i64 (sidesL k.cs)[j].1.1, .int .i64 (sidesL k.cs)[j].1.2, .int .i64 (sidesL k.cs)[j].2.1, .int .i64 (sidesL k.cs)[j].2.2], .agg #[.int .i64 p.1, .int .i64 p.2]] u fun e w' => e = .returned (.int .i64 (sdL k.cs.length (ptZ k.cs) j p)) ∧ Below u.heap.size u w' := by
    intro p hp j hj u
    have := side_any (sidesL k.cs)[j].1 (sidesL k.cs)[j].2 p u (by rw [sidesL_at]; exact near_pt hnear _) (by rw [sidesL_at]; exact near_pt hnear _) hp
    rw [show crossL (sidesL k.cs)[j].1 (sidesL k.cs)[j].2 p = sdL k.cs.length (ptZ k.cs) j p by rw [sidesL_at]; rfl] at this
    exact this
  have HS1 := Lib.hid (side p hp)
  have HS2 := Lib.hid (side q hq)
  clear side
  have HD1 := Lib.hid (fun j => sd_bd hnear hp j)
  have HD2 := Lib.hid (fun j => sd_bd hnear hq j)
  have hst : ClipI k.cs.length (ptZ k.cs) p q 0 (0, 1) (1, 1) := clip_start _ _ _ _
  have hnot : ∀ j, j < k.cs.length → sdL k.cs.length (ptZ k.cs) j p < 0 → sdL k.cs.length (ptZ k.cs) j q < 0 → meetsB k.cs p q = false := fun j hj h1 h2 => by simp only [meetsB, decide_eq_false_iff_not]; exact clip_not hconv hj h1 h2
  have hend : ∀ f l, ClipI k.cs.length (ptZ k.cs) p q k.cs.length f l → meetsB k.cs p q = !decide (l.1 * f.2 < f.1 * l.2) := by
    intro f l h
    have := clip_end hconv h
    by_cases hs : specHit k.cs.length (ptZ k.cs) p q
    · have h2 := this.1 hs
      simp [meetsB, hs]
      omega
    · have h2 : l.1 * f.2 < f.1 * l.2 := by
        rcases Int.lt_or_le (l.1 * f.2) (f.1 * l.2) with h | h
        · exact h
        · exact absurd (this.2 (by omega)) hs
      simp [meetsB, hs, h2]
  have hfirst := fun j f l (h : ClipI k.cs.length (ptZ k.cs) p q j f l) h1 h2 => clip_first h h1 h2
  have hlast := fun j f l (h : ClipI k.cs.length (ptZ k.cs) p q j f l) h1 h2 => clip_last h h1 h2
  have hin := fun j f l (h : ClipI k.cs.length (ptZ k.cs) p q j f l) h1 h2 => clip_in h h1 h2
  have hpos : ∀ j f l, ClipI k.cs.length (ptZ k.cs) p q j f l → (0 < f.2 ∧ 0 ≤ f.1 ∧ f.1 ≤ f.2) ∧ 0 < l.2 ∧ 0 ≤ l.1 ∧ l.1 ≤ l.2 := fun j f l h => ⟨⟨h.1, h.2.2.1, h.2.2.2.1⟩, h.2.1, h.2.2.2.2.1, h.2.2.2.2.2.1⟩
  have HSTART := Lib.hid hst; clear hst
  have HNOT := Lib.hid hnot; clear hnot
  have HEND := Lib.hid hend; clear hend
  have HFIRST := Lib.hid hfirst; clear hfirst
  have HLAST := Lib.hid hlast; clear hlast
  have HIN := Lib.hid hin; clear hin
  have HPOS := Lib.hid hpos; clear hpos
  clear hconv hc hnear hp hq
  generalize meetsB k.cs p q = G at *
  generalize hDD1 : (fun j => sdL k.cs.length (ptZ k.cs) j p) = D1 at *
  have hd1 : ∀ j, sdL k.cs.length (ptZ k.cs) j p = D1 j := fun j => by rw [← hDD1]
  generalize hDD2 : (fun j => sdL k.cs.length (ptZ k.cs) j q) = D2 at *
  have hd2 : ∀ j, sdL k.cs.length (ptZ k.cs) j q = D2 j := fun j => by rw [← hDD2]
  simp only [hd1, hd2] at HS1 HS2 HD1 HD2 HNOT HFIRST HLAST HIN
  clear hDD1 hDD2 hd1 hd2
  generalize hC : ClipI k.cs.length (ptZ k.cs) p q = C at *
  clear hC
  generalize sidesL k.cs = T at *
  have HTL := Lib.hid hsl; clear hsl
  obtain ⟨p1, p2⟩ := p
  obtain ⟨q1, q2⟩ := q
  obtain ⟨kd, st, ea, zs⟩ := k
  dsimp only at *
  go_enter Try.func115, Try.ntmps115
  go_wp2_with fail
  refine (HSD.out _ (RdP_kept H.out (by go_grown))).mono ?_
  rintro e w3 ⟨v3, rfl, hr3, hb3⟩
  refine kept_at hb3 w.heap.size (by go_size) fun c3_0 z3_0 s3_0 => ?_
  refine kept_at hb3 (w.heap.size + 2) (by go_size) fun c3_2 z3_2 s3_2 => ?_
  refine kept_at hb3 (w.heap.size + 3) (by go_size) fun c3_3 z3_3 s3_3 => ?_
  have b3 := kept_trans (a := w) (by go_grown) hb3
  obtain ⟨A3, cp3, e3, hl3, _⟩ := RdL_slice (RowF_rd hr3)
  rw [HTL.out] at e3
  subst e3
  have hr4 : RowF 106 4 w3 (w.heap.size + 4) w3.heap.size (.slice A3 zs.length cp3) T.length (flatL T) := by simpa using hr3
  have HR3 := Lib.hid hr4; clear hr3 hr4
  have l0 : w3.cell? ⟨w.heap.size, 0, none⟩ = some (.int .i64 p1) := by rw [c3_0]; first | (simp; done) | (go_simp; done) | (simp [World.cell?_alloc_past, World.frozen?_alloc_past]; done)
  have l1 : w3.cell? ⟨w.heap.size, 1, none⟩ = some (.int .i64 p2) := by rw [c3_0]; first | (simp; done) | (go_simp; done) | (simp [World.cell?_alloc_past, World.frozen?_alloc_past]; done)
  have l2 : w3.cell? ⟨w.heap.size, 2, none⟩ = some (.int .i64 q1) := by rw [c3_0]; first | (simp; done) | (go_simp; done) | (simp [World.cell?_alloc_past, World.frozen?_alloc_past]; done)
  have l3 : w3.cell? ⟨w.heap.size, 3, none⟩ = some (.int .i64 q2) := by rw [c3_0]; first | (simp; done) | (go_simp; done) | (simp [World.cell?_alloc_past, World.frozen?_alloc_past]; done)
  have f0 : w3.cell? ⟨w.heap.size + 2, 0, none⟩ = some (.int .i64 0) := by rw [c3_2]; first | (simp; done) | (go_simp; done) | (simp [World.cell?_alloc_past, World.frozen?_alloc_past]; done)
  have f1 : w3.cell? ⟨w.heap.size + 2, 1, none⟩ = some (.int .i64 1) := by rw [c3_2]; first | (simp; done) | (go_simp; done) | (simp [World.cell?_alloc_past, World.frozen?_alloc_past]; done)
  have t0 : w3.cell? ⟨w.heap.size + 3, 0, none⟩ = some (.int .i64 1) := by rw [c3_3]; first | (simp; done) | (go_simp; done) | (simp [World.cell?_alloc_past, World.frozen?_alloc_past]; done)
  have t1 : w3.cell? ⟨w.heap.size + 3, 1, none⟩ = some (.int .i64 1) := by rw [c3_3]; first | (simp; done) | (go_simp; done) | (simp [World.cell?_alloc_past, World.frozen?_alloc_past]; done)
  have zf0 : w3.frozen? ⟨w.heap.size + 2, 0, none⟩ = false := by rw [z3_2]; first | (simp; done) | (go_simp; done) | (simp [World.cell?_alloc_past, World.frozen?_alloc_past]; done)
  have zf1 : w3.frozen? ⟨w.heap.size + 2, 1, none⟩ = false := by rw [z3_2]; first | (simp; done) | (go_simp; done) | (simp [World.cell?_alloc_past, World.frozen?_alloc_past]; done)
  have zt0 : w3.frozen? ⟨w.heap.size + 3, 0, none⟩ = false := by rw [z3_3]; first | (simp; done) | (go_simp; done) | (simp [World.cell?_alloc_past, World.frozen?_alloc_past]; done)
  have zt1 : w3.frozen? ⟨w.heap.size + 3, 1, none⟩ = false := by rw [z3_3]; first | (simp; done) | (go_simp; done) | (simp [World.cell?_alloc_past, World.frozen?_alloc_past]; done)
  clear c3_0 c3_2 c3_3 z3_0 z3_2 z3_3
  go_wp2_with fail
  go_loopw [19] (fun i wr => ∃ (j : Nat) (f l : Int × Int), j ≤ zs.length ∧ i = .int .i64 (j : Int) ∧ C j f l ∧ (f.2 ≤ 2304000000 ∧ l.2 ≤ 2304000000) ∧
      (wr.cell? ⟨w.heap.size, 0, none⟩ = some (.int .i64 p1) ∧ wr.cell? ⟨w.heap.size, 1, none⟩ = some (.int .i64 p2) ∧ wr.cell? ⟨w.heap.size, 2, none⟩ = some (.int .i64 q1) ∧ wr.cell? ⟨w.heap.size, 3, none⟩ = some (.int .i64 q2)) ∧
      (wr.cell? ⟨w.heap.size + 2, 0, none⟩ = some (.int .i64 f.1) ∧ wr.cell? ⟨w.heap.size + 2, 1, none⟩ = some (.int .i64 f.2) ∧ wr.frozen? ⟨w.heap.size + 2, 0, none⟩ = false ∧ wr.frozen? ⟨w.heap.size + 2, 1, none⟩ = false) ∧
      (wr.cell? ⟨w.heap.size + 3, 0, none⟩ = some (.int .i64 l.1) ∧ wr.cell? ⟨w.heap.size + 3, 1, none⟩ = some (.int .i64 l.2) ∧ wr.frozen? ⟨w.heap.size + 3, 0, none⟩ = false ∧ wr.frozen? ⟨w.heap.size + 3, 1, none⟩ = false) ∧
      RowF 106 4 wr (w.heap.size + 4) w3.heap.size (.slice A3 zs.length cp3) T.length (flatL T) ∧ w.heap.size + 3 < wr.heap.size ∧ Below w.heap.size w wr) (fun i _ => zs.length - (intOf i).toNat)
  case atStart => exact ⟨0, (0, 1), (1, 1), by omega, rfl, HSTART.out, by decide, ⟨l0, l1, l2, l3⟩, ⟨f0, f1, zf0, zf1⟩, ⟨t0, t1, zt0, zt1⟩, HR3.out, s3_3, b3⟩
  case round =>
    clear l0 l1 l2 l3 f0 f1 t0 t1 zf0 zf1 zt0 zt1
    obtain ⟨j, ⟨fa, fb⟩, ⟨la, lb⟩, hj, rfl, hC, ⟨hfb, hlb⟩, ⟨l0, l1, l2, l3⟩, ⟨f0, f1, zf0, zf1⟩, ⟨t0, t1, zt0, zt1⟩, hrow, hlw, hb⟩ := hrel
    have HROW := Lib.hid hrow
    obtain ⟨⟨hfp, hfa, hfab⟩, hlp, hla, hlab⟩ := HPOS.out _ _ _ hC
    dsimp only at *
    have HC := Lib.hid hC; clear hC
    by_cases hlt : j < zs.length
    · have hjT : j < T.length := by rw [HTL.out]; exact hlt
      have HA1 := Lib.hid (HS1.out j hjT)
      have HA2 := Lib.hid (HS2.out j hjT)
      have hd1 := HD1.out j
      have hd2 := HD2.out j
      have hnot := HNOT.out j hlt
      have hfi := HFIRST.out j _ _ HC.out
      have hla' := HLAST.out j _ _ HC.out
      have hin := HIN.out j _ _ HC.out
      obtain ⟨_, _, e4, _, r4⟩ := RdL_slice (RowF_rd hrow)
      rw [HTL.out] at e4
      cases e4
      obtain ⟨b1', off', rfl, hbl', d0, d1, d2, d3⟩ := r4 j hjT
      clear r4 hrow
      generalize D1 j = S at *
      generalize D2 j = E at *
      generalize T[j].1.1 = x1 at *
      generalize T[j].1.2 = x2 at *
      generalize T[j].2.1 = x3 at *
      generalize T[j].2.2 = x4 at *
      dsimp only at *
      have HNOTJ := Lib.hid hnot; clear hnot
      have HFI := Lib.hid hfi; clear hfi
      have HLA := Lib.hid hla'; clear hla'
      have HINJ := Lib.hid hin; clear hin
      have hn1 : wr.heap.size ≠ w.heap.size := by omega
      go_wp2_with fail
      go_cut [9, 10] (fun sa sb w' => sa = .int .i64 S ∧ sb = .int .i64 E ∧ Below (wr.alloc (.cells #[.int .i64 x1, .int .i64 x2, .int .i64 x3, .int .i64 x4] 106)).heap.size (wr.alloc (.cells #[.int .i64 x1, .int .i64 x2, .int .i64 x3, .int .i64 x4] 106)) w')
      case first =>
        go_region_held3 (fun w' => w'.cell? ⟨wr.heap.size, 0, none⟩ = some (.int .i64 x1) ∧ w'.cell? ⟨wr.heap.size, 1, none⟩ = some (.int .i64 x2) ∧ w'.cell? ⟨wr.heap.size, 2, none⟩ = some (.int .i64 x3) ∧ w'.cell? ⟨wr.heap.size, 3, none⟩ = some (.int .i64 x4) ∧ w'.cell? ⟨w.heap.size, 0, none⟩ = some (.int .i64 p1) ∧ w'.cell? ⟨w.heap.size, 1, none⟩ = some (.int .i64 p2) ∧ w'.cell? ⟨w.heap.size, 2, none⟩ = some (.int .i64 q1) ∧ w'.cell? ⟨w.heap.size, 3, none⟩ = some (.int .i64 q2)) (go_keep)
          (first
            | (go_at_call 133; with_reducible (show Calls _ _ #[_, .agg #[.int .i64 p1, .int .i64 p2]] _ _); refine (HA1.out _).mono ?_; rintro e w4 ⟨rfl, hb4⟩; refine kept_at hb4 wr.heap.size (by go_size) fun ca4 za4 sa4 => ?_; refine kept_at hb4 w.heap.size (by go_size) fun cb4 zb4 sb4 => ?_; have b4 := kept_trans (a := (wr.alloc (.cells #[.int .i64 x1, .int .i64 x2, .int .i64 x3, .int .i64 x4] 106))) (by go_grown) hb4)
            | (go_at_call 133; with_reducible (show Calls _ _ #[_, .agg #[.int .i64 q1, .int .i64 q2]] _ _); refine (HA2.out _).mono ?_; rintro e w5 ⟨rfl, hb5⟩; refine kept_at hb5 wr.heap.size (by go_size) fun ca5 za5 sa5 => ?_; refine kept_at hb5 w.heap.size (by go_size) fun cb5 zb5 sb5 => ?_; have b5 := kept_trans (a := (wr.alloc (.cells #[.int .i64 x1, .int .i64 x2, .int .i64 x3, .int .i64 x4] 106))) (by go_grown) hb5))
        all_goals
          go_wp2_with fail
          go_meet
          case rel => exact ⟨rfl, rfl, by assumption⟩
      case rest =>
      obtain ⟨rfl, rfl, hb6⟩ := hcut
      refine kept_at hb6 w.heap.size (by go_size) fun c6_0 z6_0 s6_0 => ?_
      refine kept_at hb6 (w.heap.size + 2) (by go_size) fun c6_2 z6_2 s6_2 => ?_
      refine kept_at hb6 (w.heap.size + 3) (by go_size) fun c6_3 z6_3 s6_3 => ?_
      have k6 := kept_trans (a := wr) (by go_grown) hb6
      have b6 := kept_trans hb k6
      have hs6 := k6.size
      replace HROW := Lib.hid (RowF_kept HROW.out k6)
      have m0 : wc.cell? ⟨w.heap.size, 0, none⟩ = some (.int .i64 p1) := by rw [kept_cell k6 _ _ (by omega)]; exact l0
      have m1 : wc.cell? ⟨w.heap.size, 1, none⟩ = some (.int .i64 p2) := by rw [kept_cell k6 _ _ (by omega)]; exact l1
      have m2 : wc.cell? ⟨w.heap.size, 2, none⟩ = some (.int .i64 q1) := by rw [kept_cell k6 _ _ (by omega)]; exact l2
      have m3 : wc.cell? ⟨w.heap.size, 3, none⟩ = some (.int .i64 q2) := by rw [kept_cell k6 _ _ (by omega)]; exact l3
      have n0 : wc.cell? ⟨w.heap.size + 2, 0, none⟩ = some (.int .i64 fa) := by rw [kept_cell k6 _ _ (by omega)]; exact f0
      have n1 : wc.cell? ⟨w.heap.size + 2, 1, none⟩ = some (.int .i64 fb) := by rw [kept_cell k6 _ _ (by omega)]; exact f1
      have zn0 : wc.frozen? ⟨w.heap.size + 2, 0, none⟩ = false := by rw [kept_frozen k6 _ _ (by omega)]; exact zf0
      have zn1 : wc.frozen? ⟨w.heap.size + 2, 1, none⟩ = false := by rw [kept_frozen k6 _ _ (by omega)]; exact zf1
      have o0 : wc.cell? ⟨w.heap.size + 3, 0, none⟩ = some (.int .i64 la) := by rw [kept_cell k6 _ _ (by omega)]; exact t0
      have o1 : wc.cell? ⟨w.heap.size + 3, 1, none⟩ = some (.int .i64 lb) := by rw [kept_cell k6 _ _ (by omega)]; exact t1
      have zo0 : wc.frozen? ⟨w.heap.size + 3, 0, none⟩ = false := by rw [kept_frozen k6 _ _ (by omega)]; exact zt0
      have zo1 : wc.frozen? ⟨w.heap.size + 3, 1, none⟩ = false := by rw [kept_frozen k6 _ _ (by omega)]; exact zt1
      clear c6_0 z6_0 c6_2 z6_2 c6_3 z6_3 l0 l1 l2 l3 f0 f1 t0 t1 zf0 zf1 zt0 zt1 d0 d1 d2 d3
      by_cases hS : S < 0
      · by_cases hE : E < 0
        · have hG := HNOTJ.out hS hE
          subst hG
          go_wp2
          go_ret
          exact ⟨rfl, b6⟩
        · have hfi := HFI.out hS (by omega)
          have HBF := Lib.hid (fun u => before_any fa fb (-S) (E - S) u (by omega) (by omega) (by omega) (by omega))
          by_cases hbf : fa * (E - S) < -S * fb
          · rw [if_pos hbf] at hfi
            have HFJ := Lib.hid hfi; clear hfi
            have hbd : decide (fa * (E - S) < -S * fb) = true := by simp only [decide_eq_true_eq]; exact hbf
            rw [hbd] at HBF
            clear hbd hbf
            go_wp2_with fail
            refine (HBF.out _).mono ?_
            rintro e w7 ⟨rfl, hb7⟩
            refine kept_at hb7 wc.heap.size (by go_size) fun c7_4 z7_4 s7_4 => ?_
            have k7 := kept_trans (a := wc) (by go_grown) hb7
            have b7 := kept_trans b6 k7
            have hs7 := k7.size
            replace HROW := Lib.hid (RowF_kept HROW.out k7)
            have m0' : w7.cell? ⟨w.heap.size, 0, none⟩ = some (.int .i64 p1) := by rw [kept_cell k7 _ _ (by omega)]; exact m0
            have m1' : w7.cell? ⟨w.heap.size, 1, none⟩ = some (.int .i64 p2) := by rw [kept_cell k7 _ _ (by omega)]; exact m1
            have m2' : w7.cell? ⟨w.heap.size, 2, none⟩ = some (.int .i64 q1) := by rw [kept_cell k7 _ _ (by omega)]; exact m2
            have m3' : w7.cell? ⟨w.heap.size, 3, none⟩ = some (.int .i64 q2) := by rw [kept_cell k7 _ _ (by omega)]; exact m3
            have n0' : w7.cell? ⟨w.heap.size + 2, 0, none⟩ = some (.int .i64 fa) := by rw [kept_cell k7 _ _ (by omega)]; exact n0
            have n1' : w7.cell? ⟨w.heap.size + 2, 1, none⟩ = some (.int .i64 fb) := by rw [kept_cell k7 _ _ (by omega)]; exact n1
            have zn0' : w7.frozen? ⟨w.heap.size + 2, 0, none⟩ = false := by rw [kept_frozen k7 _ _ (by omega)]; exact zn0
            have zn1' : w7.frozen? ⟨w.heap.size + 2, 1, none⟩ = false := by rw [kept_frozen k7 _ _ (by omega)]; exact zn1
            have o0' : w7.cell? ⟨w.heap.size + 3, 0, none⟩ = some (.int .i64 la) := by rw [kept_cell k7 _ _ (by omega)]; exact o0
            have o1' : w7.cell? ⟨w.heap.size + 3, 1, none⟩ = some (.int .i64 lb) := by rw [kept_cell k7 _ _ (by omega)]; exact o1
            have zo0' : w7.frozen? ⟨w.heap.size + 3, 0, none⟩ = false := by rw [kept_frozen k7 _ _ (by omega)]; exact zo0
            have zo1' : w7.frozen? ⟨w.heap.size + 3, 1, none⟩ = false := by rw [kept_frozen k7 _ _ (by omega)]; exact zo1
            go_wp2
            go_roundw
            case rel => exact ⟨j + 1, (-S, E - S), (la, lb), by omega, by go_num, HFJ.out, ⟨by dsimp only; omega, hlb⟩, ⟨by rw [(two_far _ _ (by omega) _).1]; exact m0', by rw [(two_far _ _ (by omega) _).1]; exact m1', by rw [(two_far _ _ (by omega) _).1]; exact m2', by rw [(two_far _ _ (by omega) _).1]; exact m3'⟩, two_set n0' n1' zn0' zn1', ⟨by rw [(two_far _ _ (by omega) _).1]; exact o0', by rw [(two_far _ _ (by omega) _).1]; exact o1', by rw [(two_far _ _ (by omega) _).2]; exact zo0', by rw [(two_far _ _ (by omega) _).2]; exact zo1'⟩, RowF_set (RowF_set HROW.out (by omega)) (by omega), by simp; omega, by go_grown⟩
            case measure => simp [intOf]; omega
          · rw [if_neg hbf] at hfi
            have HFJ := Lib.hid hfi; clear hfi
            have hbd : decide (fa * (E - S) < -S * fb) = false := by simp only [decide_eq_false_iff_not]; exact hbf
            rw [hbd] at HBF
            clear hbd hbf
            go_wp2_with fail
            refine (HBF.out _).mono ?_
            rintro e w7 ⟨rfl, hb7⟩
            have k7 := kept_trans (a := wc) (by go_grown) hb7
            have b7 := kept_trans b6 k7
            have hs7 := k7.size
            replace HROW := Lib.hid (RowF_kept HROW.out k7)
            go_wp2
            go_roundw
            case rel => exact ⟨j + 1, (fa, fb), (la, lb), by omega, by go_num, HFJ.out, ⟨hfb, hlb⟩, ⟨by rw [kept_cell k7 _ _ (by omega)]; exact m0, by rw [kept_cell k7 _ _ (by omega)]; exact m1, by rw [kept_cell k7 _ _ (by omega)]; exact m2, by rw [kept_cell k7 _ _ (by omega)]; exact m3⟩, ⟨by rw [kept_cell k7 _ _ (by omega)]; exact n0, by rw [kept_cell k7 _ _ (by omega)]; exact n1, by rw [kept_frozen k7 _ _ (by omega)]; exact zn0, by rw [kept_frozen k7 _ _ (by omega)]; exact zn1⟩, ⟨by rw [kept_cell k7 _ _ (by omega)]; exact o0, by rw [kept_cell k7 _ _ (by omega)]; exact o1, by rw [kept_frozen k7 _ _ (by omega)]; exact zo0, by rw [kept_frozen k7 _ _ (by omega)]; exact zo1⟩, HROW.out, by omega, b7⟩
            case measure => simp [intOf]; omega
      · by_cases hE : E < 0
        · have hla' := HLA.out (by omega) hE
          have HBF := Lib.hid (fun u => before_any S (S - E) la lb u (by omega) (by omega) (by omega) (by omega))
          by_cases hbf : S * lb < la * (S - E)
          · rw [if_pos hbf] at hla'
            have HFJ := Lib.hid hla'; clear hla'
            have hbd : decide (S * lb < la * (S - E)) = true := by simp only [decide_eq_true_eq]; exact hbf
            rw [hbd] at HBF
            clear hbd hbf
            go_wp2_with fail
            refine (HBF.out _).mono ?_
            rintro e w7 ⟨rfl, hb7⟩
            refine kept_at hb7 wc.heap.size (by go_size) fun c7_4 z7_4 s7_4 => ?_
            have k7 := kept_trans (a := wc) (by go_grown) hb7
            have b7 := kept_trans b6 k7
            have hs7 := k7.size
            replace HROW := Lib.hid (RowF_kept HROW.out k7)
            have m0' : w7.cell? ⟨w.heap.size, 0, none⟩ = some (.int .i64 p1) := by rw [kept_cell k7 _ _ (by omega)]; exact m0
            have m1' : w7.cell? ⟨w.heap.size, 1, none⟩ = some (.int .i64 p2) := by rw [kept_cell k7 _ _ (by omega)]; exact m1
            have m2' : w7.cell? ⟨w.heap.size, 2, none⟩ = some (.int .i64 q1) := by rw [kept_cell k7 _ _ (by omega)]; exact m2
            have m3' : w7.cell? ⟨w.heap.size, 3, none⟩ = some (.int .i64 q2) := by rw [kept_cell k7 _ _ (by omega)]; exact m3
            have n0' : w7.cell? ⟨w.heap.size + 2, 0, none⟩ = some (.int .i64 fa) := by rw [kept_cell k7 _ _ (by omega)]; exact n0
            have n1' : w7.cell? ⟨w.heap.size + 2, 1, none⟩ = some (.int .i64 fb) := by rw [kept_cell k7 _ _ (by omega)]; exact n1
            have zn0' : w7.frozen? ⟨w.heap.size + 2, 0, none⟩ = false := by rw [kept_frozen k7 _ _ (by omega)]; exact zn0
            have zn1' : w7.frozen? ⟨w.heap.size + 2, 1, none⟩ = false := by rw [kept_frozen k7 _ _ (by omega)]; exact zn1
            have o0' : w7.cell? ⟨w.heap.size + 3, 0, none⟩ = some (.int .i64 la) := by rw [kept_cell k7 _ _ (by omega)]; exact o0
            have o1' : w7.cell? ⟨w.heap.size + 3, 1, none⟩ = some (.int .i64 lb) := by rw [kept_cell k7 _ _ (by omega)]; exact o1
            have zo0' : w7.frozen? ⟨w.heap.size + 3, 0, none⟩ = false := by rw [kept_frozen k7 _ _ (by omega)]; exact zo0
            have zo1' : w7.frozen? ⟨w.heap.size + 3, 1, none⟩ = false := by rw [kept_frozen k7 _ _ (by omega)]; exact zo1
            go_wp2
            go_roundw
            case rel => exact ⟨j + 1, (fa, fb), (S, S - E), by omega, by go_num, HFJ.out, ⟨hfb, by dsimp only; omega⟩, ⟨by rw [(two_far _ _ (by omega) _).1]; exact m0', by rw [(two_far _ _ (by omega) _).1]; exact m1', by rw [(two_far _ _ (by omega) _).1]; exact m2', by rw [(two_far _ _ (by omega) _).1]; exact m3'⟩, ⟨by rw [(two_far _ _ (by omega) _).1]; exact n0', by rw [(two_far _ _ (by omega) _).1]; exact n1', by rw [(two_far _ _ (by omega) _).2]; exact zn0', by rw [(two_far _ _ (by omega) _).2]; exact zn1'⟩, two_set o0' o1' zo0' zo1', RowF_set (RowF_set HROW.out (by omega)) (by omega), by simp; omega, by go_grown⟩
            case measure => simp [intOf]; omega
          · rw [if_neg hbf] at hla'
            have HFJ := Lib.hid hla'; clear hla'
            have hbd : decide (S * lb < la * (S - E)) = false := by simp only [decide_eq_false_iff_not]; exact hbf
            rw [hbd] at HBF
            clear hbd hbf
            go_wp2_with fail
            refine (HBF.out _).mono ?_
            rintro e w7 ⟨rfl, hb7⟩
            have k7 := kept_trans (a := wc) (by go_grown) hb7
            have b7 := kept_trans b6 k7
            have hs7 := k7.size
            replace HROW := Lib.hid (RowF_kept HROW.out k7)
            go_wp2
            go_roundw
            case rel => exact ⟨j + 1, (fa, fb), (la, lb), by omega, by go_num, HFJ.out, ⟨hfb, hlb⟩, ⟨by rw [kept_cell k7 _ _ (by omega)]; exact m0, by rw [kept_cell k7 _ _ (by omega)]; exact m1, by rw [kept_cell k7 _ _ (by omega)]; exact m2, by rw [kept_cell k7 _ _ (by omega)]; exact m3⟩, ⟨by rw [kept_cell k7 _ _ (by omega)]; exact n0, by rw [kept_cell k7 _ _ (by omega)]; exact n1, by rw [kept_frozen k7 _ _ (by omega)]; exact zn0, by rw [kept_frozen k7 _ _ (by omega)]; exact zn1⟩, ⟨by rw [kept_cell k7 _ _ (by omega)]; exact o0, by rw [kept_cell k7 _ _ (by omega)]; exact o1, by rw [kept_frozen k7 _ _ (by omega)]; exact zo0, by rw [kept_frozen k7 _ _ (by omega)]; exact zo1⟩, HROW.out, by omega, b7⟩
            case measure => simp [intOf]; omega
        · have hin := HINJ.out (by omega) (by omega)
          have HFJ := Lib.hid hin; clear hin
          go_wp2
          go_roundw
          case rel => exact ⟨j + 1, (fa, fb), (la, lb), by omega, by go_num, HFJ.out, ⟨hfb, hlb⟩, ⟨m0, m1, m2, m3⟩, ⟨n0, n1, zn0, zn1⟩, ⟨o0, o1, zo0, zo1⟩, HROW.out, by omega, b6⟩
          case measure => simp [intOf]; omega
    · have : j = zs.length := by omega
      subst this
      have hG := HEND.out _ _ HC.out
      have HBF := Lib.hid (fun u => before_any la lb fa fb u (by omega) (by omega) (by omega) (by omega))
      dsimp only at hG
      generalize decide (la * fb < fa * lb) = Q at *
      subst hG
      go_wp2_with fail
      refine (HBF.out _).mono ?_
      rintro e w7 ⟨rfl, hb7⟩
      have k7 := kept_trans (a := wr) (by go_grown) hb7
      go_wp2
      go_ret
      exact ⟨rfl, kept_trans hb k7⟩

/-- A zone, cell by cell. -/
def encZn (p : Zn × Value) : List Value := [.int .i64 p.1.kd, .int .i64 p.1.st, .int .i64 p.1.ea, p.2]

def flatZn (ks : List (Zn × Value)) : List Value := ks.flatMap encZn

theorem flatZn_len (ks : List (Zn × Value)) : (flatZn ks).length = ks.length * 4 := flat_len (enc := encZn) (fun _ => rfl) ks

theorem flatZn_at (ks : List (Zn × Value)) (k j : Nat) (h : k < ks.length) (hj : j < 4) : (flatZn ks)[k * 4 + j]? = (encZn ks[k])[j]? := flat_at (enc := encZn) (sz := 4) (fun _ => rfl) ks k j h hj

/-- The slice value reads as a list of zones: their fields and their corners' slices. -/
def RdZs (w : World) (v : Value) (ks : List (Zn × Value)) : Prop := RdF w v ks.length 4 (flatZn ks) ∧ ∀ p ∈ ks, RdP w p.2 p.1.cs

theorem RdZs_kept {W w1 : World} {v : Value} {ks : List (Zn × Value)} (h : RdZs W v ks) (hb : Below W.heap.size W w1) : RdZs w1 v ks := ⟨RdF_kept h.1 hb, fun p hp => RdP_kept (h.2 p hp) hb⟩

theorem RdZs_at {w : World} {v : Value} {ks : List (Zn × Value)} (h : RdZs w v ks) : ∃ A c, v = .slice A ks.length c ∧ ks.length ≤ 9223372036854775807 ∧
    ∀ i, (hi : i < ks.length) → ∃ b off, A = some ⟨b, off, none⟩ ∧ ZnAt w b (off + i * 4) ks[i].1 ks[i].2 := by
  obtain ⟨⟨hl, hx, A, c, rfl, hr⟩, hcs⟩ := h
  refine ⟨A, c, rfl, hl, fun i hi => ?_⟩
  obtain ⟨b, off, rfl, hlt, h0⟩ := hr (i * 4) (by omega)
  have at_ : ∀ j, j < 4 → w.cell? ⟨b, off + (i * 4 + j), none⟩ = (encZn ks[i])[j]? := by
    intro j hj
    obtain ⟨b', off', e, _, h1⟩ := hr (i * 4 + j) (by omega)
    simp only [Option.some.injEq, Addr.mk.injEq, and_true] at e
    obtain ⟨rfl, rfl⟩ := e
    rw [h1, flatZn_at ks i j hi hj]
  refine ⟨b, off, rfl, hlt, ⟨?_, ?_, ?_, ?_⟩, hcs _ (List.getElem_mem hi)⟩
  · exact at_ 0 (by omega)
  · exact at_ 1 (by omega)
  · exact at_ 2 (by omega)
  · exact at_ 3 (by omega)

/-- How many corners zones have. -/
def totZ : List (Zn × Value) → Nat
  | [] => 0
  | k :: ks => k.1.cs.length + totZ ks

theorem totZ_step (ks : List (Zn × Value)) (i : Nat) (h : i < ks.length) : totZ (ks.drop i) = ks[i].1.cs.length + totZ (ks.drop (i + 1)) := by
  rw [List.drop_eq_getElem_cons h]
  rfl

theorem totZ_mem {ks : List (Zn × Value)} {p : Zn × Value} (h : p ∈ ks) : p.1.cs.length ≤ totZ ks := by
  induction ks with
  | nil => cases h
  | cons q ks ih =>
    simp only [totZ]
    rcases List.mem_cons.1 h with rfl | h
    · omega
    · have := ih h
      omega

theorem szZs_any (v : Value) (ks : List (Zn × Value)) (left : Int) (w : World) (h : RdZs w v ks) (hl : 0 ≤ left ∧ left ≤ 1000000) :
    Calls Try.prog 26 #[v, .int .i64 left] w fun e w' => e = .returned (.int .i64 (if (ks.length : Int) + totZ ks ≤ left then left - ks.length - totZ ks else -1)) ∧ Below w.heap.size w w' := by
  obtain ⟨A, c, rfl, hln, r⟩ := RdZs_at h
  clear h
  by_cases h1 : left < (ks.length : Int)
  · rw [if_neg (by omega)]
    go_enter Try.func26, Try.ntmps26
    go_wp2
    go_ret
    exact ⟨rfl, Below.refl _ _⟩
  have R := Lib.hid r; clear r
  have HS := Lib.hid (fun i (hi : i < ks.length) => totZ_step ks i hi)
  have hd0 : totZ (ks.drop 0) = totZ ks := by simp
  have hdn : totZ (ks.drop ks.length) = 0 := by simp [totZ]
  have HD0 := Lib.hid hd0; clear hd0
  have HDN := Lib.hid hdn; clear hdn
  go_enter Try.func26, Try.ntmps26
  go_wp2_with fail
  go_loopw [1, 5] (fun q i wr => ∃ (j : Nat) (l : Int), j ≤ ks.length ∧ i = .int .i64 j ∧ q = .int .i64 l ∧ 0 ≤ l ∧ l ≤ 1000000 ∧ l - totZ (ks.drop j) = left - ks.length - totZ ks ∧ Below w.heap.size w wr) (fun _ i _ => ks.length - (intOf i).toNat)
  case atStart => exact ⟨0, left - ks.length, by omega, rfl, by simp [IntWalk.i64_in, IntWalk.wrap64_in, *] <;> omega, by omega, by omega, by rw [HD0.out], Below.refl _ _⟩
  case round =>
    obtain ⟨j, l, hj, rfl, rfl, h0, h1, heq, hb⟩ := hrel
    by_cases hlt : j < ks.length
    · obtain ⟨b, off, rfl, hk⟩ := R.out j hlt
      have hs := HS.out j hlt
      have hk := ZnAt_kept hk hb
      generalize ks[j].1 = k at *
      generalize ks[j].2 = cv at *
      obtain ⟨hlb, ⟨c0, c1, c2, c3⟩, hr⟩ := hk
      obtain ⟨A2, cp2, rfl, _, _⟩ := RdP_slice hr
      have HZ := Lib.hid (szZ_any k (.slice A2 k.cs.length cp2) l ⟨h0, h1⟩ wr hr)
      clear hr
      by_cases hz : (k.cs.length : Int) ≤ l
      · simp only [if_pos hz] at HZ
        go_wp2_with fail
        refine HZ.out.mono ?_
        rintro e w1 ⟨rfl, hb1⟩
        go_wp2
        go_roundw
        case rel => exact ⟨j + 1, _, by omega, by go_num, rfl, by omega, by omega, by omega, kept_trans hb hb1⟩
        case measure => simp [intOf]; omega
      · simp only [if_neg hz] at HZ
        go_wp2_with fail
        refine HZ.out.mono ?_
        rintro e w1 ⟨rfl, hb1⟩
        go_wp2
        go_ret
        exact ⟨by first | rfl | rw [if_neg (by omega)], kept_trans hb hb1⟩
    · have : j = ks.length := by omega
      subst this
      rw [HDN.out] at heq
      go_wp2
      go_ret
      have hE : (if (ks.length : Int) + (totZ ks : Nat) ≤ left then left - (ks.length : Int) - (totZ ks : Nat) else -1) = l := by rw [if_pos (by omega)]; omega
      exact ⟨by first | (rw [hE]; rfl) | (rw [show left - (ks.length : Int) - (totZ ks : Nat) = l by omega]; rfl), hb⟩

def fillZn : Zn := ⟨-7000000000000000101, -7000000000000000101, -7000000000000000101, [fillP]⟩

set_option maxHeartbeats 4000000 in
theorem fillZn_any (w : World) :
    Calls Try.prog 74 #[] w fun e w' => ∃ c', e = .returned (.agg #[.int .i64 (-7000000000000000101), .int .i64 (-7000000000000000101), .int .i64 (-7000000000000000101), c']) ∧ RowF 56 2 w' w.heap.size w'.heap.size c' 1 (flatP [fillP]) ∧ Below w.heap.size w w' := by
  have HR := Lib.hid (fun (u : World) => World.ownsRow_lit (base := w.heap.size) u (e := 56) (size := 2) #[.int .i64 (-7000000000000000101), .int .i64 (-7000000000000000101)] 1)
  have hq := fun u => fillPoint_any u
  have HQ := Lib.hid hq; clear hq
  go_enter Try.func74, Try.ntmps74
  go_wp2_with fail
  refine (HQ.out _).mono ?_
  rintro e w2 ⟨rfl, b2⟩
  refine kept_at b2 (w.heap.size) (by go_size) fun c2_0 z2_0 s2_0 => ?_
  replace b2 := kept_trans (a := w) (by go_grown) b2
  have l2 := kept_cell b2
  have zz2 := b2.size
  clear HQ
  go_simp
  repeat go_step
  (try go_simp)
  repeat go_step
  (try simp only [Exit.inBlock, Exit.then])
  refine bodyPost_ret (v := .agg #[.int .i64 (-7000000000000000101), .int .i64 (-7000000000000000101), .int .i64 (-7000000000000000101), .slice (some ⟨w2.heap.size, 0, none⟩) 1 1]) ?_ rfl ⟨_, rfl, ?_, ?_⟩
  · rw [results_cell1 rfl]
    go_simp
  · suffices h : ∀ X : World, X.heap.size = w2.heap.size → RowF 56 2 (X.alloc (.cells #[.int .i64 (-7000000000000000101), .int .i64 (-7000000000000000101)] 56)) w.heap.size (X.alloc (.cells #[.int .i64 (-7000000000000000101), .int .i64 (-7000000000000000101)] 56)).heap.size (.slice (some ⟨w2.heap.size, 0, none⟩) 1 1) 1 (flatP [fillP]) from h _ (by simp)
    intro X hX
    have h := HR.out X (by omega) (by unfold maxLen; omega) (by simp)
    rw [hX] at h
    refine ⟨by simpa [flatP, encP, fillP] using h, fun g hg => ?_⟩
    simp [Value.ownBlock] at hg
    subst hg
    simp
    omega
  · go_grown

def zeroZ : Zn × Value := (⟨0, 0, 0, []⟩, .slice none 0 0)

theorem info_zone4 : (Try.prog.info? 100).map (fun i => (i.zero, i.size, i.bytes)) = some (some (.agg #[.int .i64 0, .int .i64 0, .int .i64 0, .slice none 0 0]), 4, 48) := by kernel_rfl

theorem make_zones (n : Nat) (h : n ≤ 4000000) (w : World) :
    (Instr.makeSlice 54 (.int .i64 (n : Int)) (.int .i64 (n : Int))).run Try.prog w = .ok (.slice (some ⟨w.heap.size, 0, none⟩) n n) (w.alloc (.cells (madeCells #[.int .i64 0, .int .i64 0, .int .i64 0, .slice none 0 0] (n * 4)) 100)) := by
  obtain ⟨i, hi, hz, hs, hb⟩ := info_parts info_zone4
  have hb' : (i.bytes : Int) * (n : Int) ≤ 281474976710656 := by rw [hb]; omega
  have hr := run_make (P := Try.prog) w 54 100 i (.agg #[.int .i64 0, .int .i64 0, .int .i64 0, .slice none 0 0]) Try.underlying54 hi hz .i64 .i64 n n (by omega) (Int.le_refl _) hb' (by omega)
  simp only [Int.toNat_natCast, hs] at hr
  exact hr

theorem madeZ_flat (n : Nat) : (madeCells #[.int .i64 0, .int .i64 0, .int .i64 0, .slice none 0 0] (n * 4)).toList = flatZn (List.replicate n zeroZ) := by
  apply List.ext_getElem?
  intro j
  by_cases hj : j < n * 4
  · have h := flatZn_at (List.replicate n zeroZ) (j / 4) (j % 4) (by simp; omega) (by omega)
    rw [show j / 4 * 4 + j % 4 = j by omega, List.getElem_replicate] at h
    rw [h]
    have hm := Nat.mod_lt j (show 0 < 4 by omega)
    rcases (show j % 4 = 0 ∨ j % 4 = 1 ∨ j % 4 = 2 ∨ j % 4 = 3 by omega) with hp | hp | hp | hp <;> simp [madeCells, hj, hp, encZn, zeroZ]
  · rw [List.getElem?_eq_none (by rw [Array.length_toList, size_madeCells]; omega), List.getElem?_eq_none (by rw [flatZn_len]; simp; omega)]

theorem flatZn_set (L : List (Zn × Value)) (j : Nat) (p : Zn × Value) :
    ((((flatZn L).set (j * 4) (.int .i64 p.1.kd)).set (j * 4 + 1) (.int .i64 p.1.st)).set (j * 4 + 2) (.int .i64 p.1.ea)).set (j * 4 + 3) p.2 = flatZn (L.set j p) := by
  induction L generalizing j with
  | nil => simp [flatZn]
  | cons z L ih =>
    cases j with
    | zero => simp [flatZn, encZn]
    | succ j =>
      have := ih j
      simp only [flatZn, encZn, List.flatMap_cons, List.cons_append, List.nil_append, Nat.succ_mul, List.set_cons_succ] at this ⊢
      rw [← this]

/-- A crane is stored in a row, cell by cell. -/
def setZ4 (w : World) (g o : Nat) (p : Zn × Value) : World :=
  ((((w.setCell ⟨g, o, none⟩ (.int .i64 p.1.kd)).setCell ⟨g, o + 1, none⟩ (.int .i64 p.1.st)).setCell ⟨g, o + 2, none⟩ (.int .i64 p.1.ea)).setCell ⟨g, o + 3, none⟩ p.2)

theorem row_setZ4 {w : World} {base g n cap : Nat} {L : List (Zn × Value)} (h : w.ownsRow base 100 4 (.slice (some ⟨g, 0, none⟩) n cap) n (flatZn L)) (j : Nat) (p : Zn × Value) :
    (setZ4 w g (j * 4) p).ownsRow base 100 4 (.slice (some ⟨g, 0, none⟩) n cap) n (flatZn (L.set j p)) ∧ w.grownBy (setZ4 w g (j * 4) p) (some g) := by
  have h0 := h.stored (j * 4) (.int .i64 p.1.kd)
  have h1 := h0.1.stored (j * 4 + 1) (.int .i64 p.1.st)
  have h2 := h1.1.stored (j * 4 + 2) (.int .i64 p.1.ea)
  have h3 := h2.1.stored (j * 4 + 3) p.2
  rw [flatZn_set] at h3
  exact ⟨h3.1, grown_step h0.2 (grown_step h1.2 (grown_step h2.2 h3.2))⟩

theorem row_cellsZ {w : World} {base g n cap : Nat} {L : List (Zn × Value)} (h : w.ownsRow base 100 4 (.slice (some ⟨g, 0, none⟩) n cap) n (flatZn L)) (j : Nat) (hj : j < n) :
    ∃ u0 u1 u2 u3, w.cell? ⟨g, j * 4, none⟩ = some u0 ∧ w.cell? ⟨g, j * 4 + 1, none⟩ = some u1 ∧ w.cell? ⟨g, j * 4 + 2, none⟩ = some u2 ∧ w.cell? ⟨g, j * 4 + 3, none⟩ = some u3 := by
  have hl : (flatZn L).length = n * 4 := h.1
  have at_ : ∀ o, o < n * 4 → ∃ u, w.cell? ⟨g, o, none⟩ = some u := fun o ho => ⟨_, by rw [h.cellAt o ho]; exact List.getElem?_eq_getElem (by omega)⟩
  obtain ⟨u0, h0⟩ := at_ (j * 4) (by omega)
  obtain ⟨u1, h1⟩ := at_ (j * 4 + 1) (by omega)
  obtain ⟨u2, h2⟩ := at_ (j * 4 + 2) (by omega)
  obtain ⟨u3, h3⟩ := at_ (j * 4 + 3) (by omega)
  exact ⟨u0, u1, u2, u3, h0, h1, h2, h3⟩

/-- A copy of a list of cranes that the law made; Q: what is known of each chart, ρ: of two of them. -/
def ZsQ (Q : World → Nat → Nat → Zn → Value → Prop) (ρ : Value → Value → Prop) (w : World) (lo hi : Nat) (v : Value) (ks : List Zn) : Prop :=
  ks.length ≤ 1000000 ∧ ∃ (g : Nat) (T S : List (Zn × Value)), v = .slice (some ⟨g, 0, none⟩) ks.length (T ++ S).length ∧ lo ≤ g ∧ T.map (·.1) = ks ∧ S.map (·.1) = List.replicate (roomL ks.length) fillZn ∧
    RowF 100 4 w lo hi (.slice (some ⟨g, 0, none⟩) (T ++ S).length (T ++ S).length) (T ++ S).length (flatZn (T ++ S)) ∧ (∀ p ∈ T, Q w (g + 1) hi p.1 p.2) ∧ (∀ p ∈ S, RowF 56 2 w (g + 1) hi p.2 1 (flatP [fillP])) ∧ T.Pairwise (fun p q => ρ p.2 q.2)

/-- What a chart's predicate must bear. -/
structure CornQ (Q : World → Nat → Nat → Zn → Value → Prop) : Prop where
  set : ∀ {w : World} {lo hi : Nat} {k : Zn} {c : Value} (b o : Nat) (u : Value), Q w lo hi k c → b < lo → Q (w.setCell ⟨b, o, none⟩ u) lo hi k c
  kept : ∀ {W w1 : World} {lo hi : Nat} {k : Zn} {c : Value}, Q W lo hi k c → Below W.heap.size W w1 → Q w1 lo hi k c
  wide : ∀ {w : World} {lo lo' hi hi' : Nat} {k : Zn} {c : Value}, Q w lo hi k c → lo' ≤ lo → hi ≤ hi' → Q w lo' hi' k c
  form : ∀ {w : World} {lo hi : Nat} {k : Zn} {c : Value}, Q w lo hi k c → ∃ A n cp, c = .slice A n cp

theorem CornQ_setZ4 {Q : World → Nat → Nat → Zn → Value → Prop} (q : CornQ Q) {w : World} {lo hi g o : Nat} {k : Zn} {c : Value} {p : Zn × Value} (h : Q w lo hi k c) (hb : g < lo) : Q (setZ4 w g o p) lo hi k c :=
  q.set _ _ _ (q.set _ _ _ (q.set _ _ _ (q.set _ _ _ h hb) hb) hb) hb

/-- The chart of a filler. -/
def fillZQ (w : World) (lo hi : Nat) (_ : Zn) (c : Value) : Prop := RowF 56 2 w lo hi c 1 (flatP [fillP])

theorem fillZQ_ok : CornQ fillZQ where
  set := fun b o u h hb => RowF_set h hb
  kept := fun h hb => RowF_kept h hb
  wide := fun h hl hh => RowF_lo h hl hh
  form := fun h => by
    rcases RowF_form h with ⟨h1, _, _⟩ | ⟨g, cap, e, _⟩
    · cases h1
    · exact ⟨_, _, _, e⟩

set_option maxHeartbeats 1000000 in
set_option maxRecDepth 100000 in
theorem toZs_gen (bare : Bool) (Q : World → Nat → Nat → Zn → Value → Prop) (ρ : Value → Value → Prop) (q : CornQ Q)
    (qρ : ∀ (w w' : World) (lo hi lo' hi' : Nat) (k k' : Zn) (c c' : Value), Q w lo hi k c → Q w' lo' hi' k' c' → hi ≤ lo' → ρ c c')
    (qto : ∀ (k : Zn) (c : Value) (u : World), RdP u c k.cs → k.cs.length ≤ 1000000 → Calls Try.prog 73 #[.agg #[.int .i64 k.kd, .int .i64 k.st, .int .i64 k.ea, c], .bool bare] u fun e w' => ∃ c', e = .returned (.agg #[.int .i64 k.kd, .int .i64 k.st, .int .i64 k.ea, c']) ∧ Q w' u.heap.size w'.heap.size k c' ∧ Below u.heap.size u w')
    (v : Value) (ks : List (Zn × Value)) (w : World) (h : RdZs w v ks) (hn : ks.length ≤ 1000000) (hbare : bare = false ∨ ks ≠ []) (hch : ∀ p ∈ ks, p.1.cs.length ≤ 1000000) :
    Calls Try.prog 28 #[v, .bool bare] w fun e w' => ∃ v', e = .returned v' ∧ ZsQ Q ρ w' w.heap.size w'.heap.size v' (ks.map (·.1)) ∧ Below w.heap.size w w' := by
  obtain ⟨A, c, rfl, hl, r1⟩ := RdZs_at h
  clear h
  have R := Lib.hid r1; clear r1
  have hr := roomL_le ks.length
  obtain ⟨N, hN⟩ : ∃ N, N = ks.length + roomL ks.length := ⟨_, rfl⟩
  have hmk : ∀ w : World, (Instr.makeSlice 54 (.int .i64 ((ks.length : Int) + (roomL ks.length : Int))) (.int .i64 ((ks.length : Int) + (roomL ks.length : Int)))).run Try.prog w = .ok (.slice (some ⟨w.heap.size, 0, none⟩) N N) (w.alloc (.cells (madeCells #[.int .i64 0, .int .i64 0, .int .i64 0, .slice none 0 0] (N * 4)) 100)) := by
    intro w
    have := make_zones N (by omega) w
    rwa [show ((N : Nat) : Int) = (ks.length : Int) + (roomL ks.length : Int) by omega] at this
  have hcap : N ≤ maxLen := by unfold maxLen; omega
  have hrow0 : ∀ wa : World, w.heap.size ≤ wa.heap.size → (wa.alloc (.cells (madeCells #[.int .i64 0, .int .i64 0, .int .i64 0, .slice none 0 0] (N * 4)) 100)).ownsRow w.heap.size 100 4 (.slice (some ⟨wa.heap.size, 0, none⟩) N N) N (flatZn ([] ++ List.replicate N zeroZ)) := by
    intro wa hwa
    have := World.ownsRow_lit wa (e := 100) (size := 4) (madeCells #[.int .i64 0, .int .i64 0, .int .i64 0, .slice none 0 0] (N * 4)) N hwa hcap (size_madeCells _ _)
    rw [madeZ_flat] at this
    simpa using this
  have Hrow := Lib.hid hrow0; clear hrow0
  have hb0 : bare = true → ((ks.length : Int) == 0) = false := by
    intro hb
    have : ks.length ≠ 0 := fun h => by
      rcases hbare with h1 | h1
      · rw [hb] at h1; cases h1
      · exact h1 (List.eq_nil_of_length_eq_zero h)
    simpa using this
  clear hbare
  have HN := Lib.hid hN
  have hNb : N ≤ 2000002 ∧ ks.length ≤ N ∧ 0 < N := by
    refine ⟨by omega, by omega, ?_⟩
    rcases Nat.eq_zero_or_pos ks.length with h0 | h0
    · rw [h0] at hN; simp [roomL] at hN; omega
    · omega
  clear hN
  have HQ := Lib.hid q; clear q
  have HQT := Lib.hid qto; clear qto
  have HQR := Lib.hid qρ; clear qρ
  have HCH := Lib.hid hch; clear hch
  cases bare
  all_goals
    have hbn := hb0
    simp only [forall_const, reduceCtorEq, false_implies, Bool.false_eq_true] at hbn
    clear hb0
    go_enter Try.func28, Try.ntmps28
    go_wp2_with (go_at_call 72; refine (room_any _ (by omega) _).mono ?_; rintro e w1 ⟨rfl, rfl⟩)
    go_loopw [6] (fun i wr => ∃ (j : Nat) (T : List (Zn × Value)), j ≤ ks.length ∧ i = .int .i64 j ∧ T.length = j ∧ T.map (·.1) = (ks.take j).map (·.1) ∧ wr.ownsRow w.heap.size 100 4 (.slice (some ⟨w.heap.size, 0, none⟩) N N) N (flatZn (T ++ List.replicate (N - j) zeroZ)) ∧ (∀ p ∈ T, Q wr (w.heap.size + 1) wr.heap.size p.1 p.2) ∧ T.Pairwise (fun p q => ρ p.2 q.2) ∧ w.heap.size < wr.heap.size ∧ Below w.heap.size w wr) (fun i _ => ks.length - (intOf i).toNat)
    case atStart => exact ⟨0, [], by omega, rfl, rfl, by simp, Hrow.out w (Nat.le_refl _), (fun p hp => by cases hp), List.Pairwise.nil, by simp, by go_grown⟩
    case round =>
      obtain ⟨j, T, hj, rfl, hTl, hTm, hown, hT, hTp, hlw, hb⟩ := hrel
      have hsz := hb.size
      by_cases hlt : j < ks.length
      · obtain ⟨b, off, rfl, hk⟩ := R.out j hlt
        have hkch := HCH.out ks[j] (List.getElem_mem hlt)
        have hk := ZnAt_kept hk hb
        have htk : (ks.take (j + 1)).map (·.1) = (ks.take j).map (·.1) ++ [ks[j].1] := by rw [← List.take_append_getElem hlt, List.map_append]; rfl
        generalize ks[j].1 = k at *
        generalize ks[j].2 = cv at *
        obtain ⟨hlb, ⟨c0, c1, c2, c3⟩, hrc⟩ := hk
        obtain ⟨A2, cp2, rfl, _, _⟩ := RdP_slice hrc
        have HRC := Lib.hid hrc; clear hrc
        have HT := Lib.hid hT; clear hT
        have HTP := Lib.hid hTp; clear hTp
        have HTM := Lib.hid hTm; clear hTm
        have HTK := Lib.hid htk; clear htk
        have HOWN := Lib.hid hown; clear hown
        go_wp2_with fail
        refine (HQT.out k _ wr HRC.out hkch).mono ?_
        rintro e w1 ⟨c', rfl, hq, hb1⟩
        obtain ⟨A3, n3, cp3, rfl⟩ := HQ.out.form hq
        have hown1 := own_kept HOWN.out hb1
        obtain ⟨x0, x1, x2, x3, g0, g1, g2, g3⟩ := row_cellsZ hown1 j (by omega)
        have z0 := hown1.frozenAt (j * 4)
        have z1 := hown1.frozenAt (j * 4 + 1)
        have z2 := hown1.frozenAt (j * 4 + 2)
        have z3 := hown1.frozenAt (j * 4 + 3)
        have hst := row_setZ4 hown1 j (k, Value.slice A3 n3 cp3)
        rw [show N - j = (N - (j + 1)) + 1 by omega, ← hTl, set_mid, hTl] at hst
        have hcq := fun lo hi k' c' (h : Q w1 lo hi k' c') (hb : w.heap.size < lo) => CornQ_setZ4 HQ.out (o := j * 4) (p := (k, Value.slice A3 n3 cp3)) h hb
        unfold setZ4 at hst hcq
        dsimp only at hst hcq
        have HST := Lib.hid hst; clear hst hown1
        have HCQ := Lib.hid hcq; clear hcq
        have HQN := Lib.hid hq; clear hq
        have hsz1 := hb1.size
        have HB := Lib.hid (kept_trans hb hb1)
        have HB1 := Lib.hid hb1
        go_wp2
        go_roundw
        case rel =>
          refine ⟨j + 1, T ++ [(k, Value.slice A3 n3 cp3)], by omega, by go_num, by simp [hTl], by rw [HTK.out, List.map_append, HTM.out]; rfl, HST.out.1, ?_, ?_, by simp; omega, grown_below HB.out HST.out.2 (fun g hg => by simp at hg; omega)⟩
          · intro p hp
            refine HQ.out.wide (HCQ.out (w.heap.size + 1) w1.heap.size _ _ ?_ (Nat.lt_succ_self _)) (Nat.le_refl _) (by simp)
            rcases List.mem_append.1 hp with hp | hp
            · exact HQ.out.wide (HQ.out.kept (HT.out p hp) HB1.out) (Nat.le_refl _) hsz1
            · rw [List.mem_singleton.1 hp]
              exact HQ.out.wide HQN.out (by omega) (Nat.le_refl _)
          · refine List.pairwise_append.2 ⟨HTP.out, List.pairwise_singleton _ _, fun p hp p' hp' => ?_⟩
            rw [List.mem_singleton.1 hp']
            exact HQR.out _ _ _ _ _ _ _ _ _ _ (HT.out p hp) HQN.out (Nat.le_refl _)
        case measure => simp [intOf]; omega
      · have : j = ks.length := by omega
        subst this
        have hTm2 : T.map (·.1) = ks.map (·.1) := by rw [hTm, List.take_length]
        have hrep : N - ks.length = roomL ks.length := by have := HN.out; omega
        have HTM := Lib.hid hTm2; clear hTm hTm2
        have HT0 := Lib.hid hT; clear hT
        have HTP := Lib.hid hTp; clear hTp
        have HREP := Lib.hid hrep
        go_wp2_with fail
        go_loopw [7] (fun i wr => ∃ (M : Nat) (S : List (Zn × Value)), M ≤ N ∧ i = .int .i64 (M : Int) ∧ ks.length + S.length = M ∧ S.map (·.1) = List.replicate S.length fillZn ∧ wr.ownsRow w.heap.size 100 4 (.slice (some ⟨w.heap.size, 0, none⟩) N N) N (flatZn ((T ++ S) ++ List.replicate (N - M) zeroZ)) ∧ (∀ p ∈ T, Q wr (w.heap.size + 1) wr.heap.size p.1 p.2) ∧ (∀ p ∈ S, fillZQ wr (w.heap.size + 1) wr.heap.size p.1 p.2) ∧ w.heap.size < wr.heap.size ∧ Below w.heap.size w wr) (fun i _ => N - (intOf i).toNat)
        case atStart => exact ⟨ks.length, [], by omega, rfl, by simp, rfl, by simpa using hown, HT0.out, (fun p hp => by cases hp), hlw, hb⟩
        case round =>
          obtain ⟨M, S, hm, rfl, hSl, hSm, hown, hT, hS, hlw, hb⟩ := hrel
          have hsz := hb.size
          by_cases hlt : M < N
          · have HT := Lib.hid hT; clear hT
            have HSS := Lib.hid hS; clear hS
            have HSM := Lib.hid hSm; clear hSm
            have HOWN := Lib.hid hown; clear hown
            go_wp2_with fail
            refine (fillZn_any wr).mono ?_
            rintro e w1 ⟨c', rfl, hq, hb1⟩
            obtain ⟨A3, n3, cp3, rfl⟩ := fillZQ_ok.form (k := fillZn) hq
            have hown1 := own_kept HOWN.out hb1
            obtain ⟨x0, x1, x2, x3, g0, g1, g2, g3⟩ := row_cellsZ hown1 M (by omega)
            have z0 := hown1.frozenAt (M * 4)
            have z1 := hown1.frozenAt (M * 4 + 1)
            have z2 := hown1.frozenAt (M * 4 + 2)
            have z3 := hown1.frozenAt (M * 4 + 3)
            have hst := row_setZ4 hown1 M (fillZn, .slice A3 n3 cp3)
            have hTS : M = (T ++ S).length := by simp [hTl]; omega
            have hset := set_mid (T ++ S) zeroZ (fillZn, Value.slice A3 n3 cp3) (N - (M + 1))
            rw [← hTS] at hset
            rw [show N - M = (N - (M + 1)) + 1 by omega, hset] at hst
            have hcq := fun lo hi k' c' (h : Q w1 lo hi k' c') (hb : w.heap.size < lo) => CornQ_setZ4 HQ.out (o := M * 4) (p := (fillZn, Value.slice A3 n3 cp3)) h hb
            have hcf := fun lo hi k' c' (h : fillZQ w1 lo hi k' c') (hb : w.heap.size < lo) => CornQ_setZ4 fillZQ_ok (o := M * 4) (p := (fillZn, Value.slice A3 n3 cp3)) h hb
            clear hset
            unfold setZ4 at hst hcq hcf
            dsimp only at hst hcq hcf
            have hwf : (Value.agg #[.int .i64 (-7000000000000000101), .int .i64 (-7000000000000000101), .int .i64 (-7000000000000000101), .slice A3 n3 cp3]) = .agg #[.int .i64 fillZn.kd, .int .i64 fillZn.st, .int .i64 fillZn.ea, .slice A3 n3 cp3] := rfl
            rw [hwf]
            clear hwf
            have hfm : fillZn = (⟨fillZn.kd, fillZn.st, fillZn.ea, fillZn.cs⟩ : Zn) := rfl
            have HFM := Lib.hid hfm; clear hfm
            have HST := Lib.hid hst; clear hst hown1
            have HCQ := Lib.hid hcq; clear hcq
            have HCF := Lib.hid hcf; clear hcf
            have HQN := Lib.hid hq; clear hq
            have hsz1 := hb1.size
            have HB := Lib.hid (kept_trans hb hb1)
            have HB1 := Lib.hid hb1
            have HSL := Lib.hid hSl
            have HOW2 := Lib.hid hTl
            clear hTS hSl hTl
            go_wp2
            go_roundw
            case rel =>
              have hSl := HSL.out
              refine ⟨M + 1, S ++ [(fillZn, Value.slice A3 n3 cp3)], by omega, by go_num, by simp; omega, ?_, ?_, ?_, ?_, by simp; omega, grown_below HB.out HST.out.2 (fun g hg => by simp at hg; omega)⟩
              · rw [List.map_append, HSM.out, List.length_append, List.length_singleton, List.replicate_succ']; rfl
              · rw [← List.append_assoc]; exact HST.out.1
              · intro p hp
                exact HQ.out.wide (HCQ.out (w.heap.size + 1) w1.heap.size _ _ (HQ.out.wide (HQ.out.kept (HT.out p hp) HB1.out) (Nat.le_refl _) hsz1) (Nat.lt_succ_self _)) (Nat.le_refl _) (by simp)
              · intro p hp
                refine fillZQ_ok.wide (k := p.1) (HCF.out (w.heap.size + 1) w1.heap.size p.1 _ ?_ (Nat.lt_succ_self _)) (Nat.le_refl _) (by simp)
                rcases List.mem_append.1 hp with hp | hp
                · exact fillZQ_ok.wide (k := p.1) (fillZQ_ok.kept (k := p.1) (HSS.out p hp) HB1.out) (Nat.le_refl _) hsz1
                · rw [List.mem_singleton.1 hp]
                  exact fillZQ_ok.wide (k := fillZn) HQN.out (by omega) (Nat.le_refl _)
            case measure => simp [intOf]; omega
          · have : M = N := by omega
            subst this
            have hSl2 : S.length = roomL ks.length := by have := HN.out; omega
            have hTS : (T ++ S).length = M := by simp [hTl, hSl2]; exact HN.out.symm
            have HT := Lib.hid hT; clear hT
            have HSS := Lib.hid hS; clear hS
            have HSM := Lib.hid hSm; clear hSm
            have HOWN := Lib.hid hown; clear hown
            have HTS := Lib.hid hTS; clear hTS
            have HSL := Lib.hid hSl2; clear hSl2 hSl hrep
            have HTL := Lib.hid hTl; clear hTl
            go_wp2
            go_ret
            have hTS := HTS.out
            have hSl2 := HSL.out
            refine ⟨_, rfl, ⟨by simpa using hn, w.heap.size, T, S, ?_, Nat.le_refl _, HTM.out, ?_, ?_, HT.out, fun p hp => HSS.out p hp, HTP.out⟩, hb⟩
            · rw [hTS, List.length_map]; rfl
            · rw [List.length_map, HSM.out, hSl2]
            · have h := HOWN.out
              rw [Nat.sub_self, List.replicate_zero, List.append_nil] at h
              rw [hTS]
              exact ⟨h, fun g hg => by simp [Value.ownBlock] at hg; subst hg; exact ⟨Nat.le_refl _, hlw⟩⟩

def copyZQ (w : World) (lo hi : Nat) (k : Zn) (c : Value) : Prop := CopyN w lo hi c k.cs

theorem copyZQ_ok : CornQ copyZQ where
  set := fun b o u h hb => CopyN_set h hb
  kept := fun h hb => CopyN_kept h hb
  wide := fun h hl hh => CopyN_lo h hl hh
  form := fun h => by obtain ⟨_, g, e, _⟩ := h; exact ⟨_, _, _, e⟩

def rowZQ (w : World) (lo hi : Nat) (k : Zn) (c : Value) : Prop := RowF 56 2 w lo hi c k.cs.length (flatP k.cs)

theorem rowZQ_ok : CornQ rowZQ where
  set := fun b o u h hb => RowF_set h hb
  kept := fun h hb => RowF_kept h hb
  wide := fun h hl hh => RowF_lo h hl hh
  form := fun h => by obtain ⟨A, c, e, _⟩ := RdP_slice (RowF_rd h); exact ⟨_, _, _, e⟩

theorem copyZQ_blk {w : World} {lo hi : Nat} {k : Zn} {c : Value} (h : copyZQ w lo hi k c) : lo ≤ blkOf c ∧ blkOf c < hi := by
  obtain ⟨_, g, rfl, hr⟩ := h
  exact hr.2 g rfl

theorem ZsQ_kept {Q : World → Nat → Nat → Zn → Value → Prop} {ρ : Value → Value → Prop} (q : CornQ Q) {W w1 : World} {lo hi : Nat} {v : Value} {ks : List Zn} (h : ZsQ Q ρ W lo hi v ks) (hb : Below W.heap.size W w1) : ZsQ Q ρ w1 lo hi v ks := by
  obtain ⟨hn, g, T, S, hv, hg, hT, hS, hr, hq, hf, hp⟩ := h
  exact ⟨hn, g, T, S, hv, hg, hT, hS, RowF_kept hr hb, fun p hp => q.kept (hq p hp) hb, fun p hp => RowF_kept (hf p hp) hb, hp⟩

theorem flatZn_take (T S : List (Zn × Value)) : (flatZn (T ++ S)).take (T.length * 4) = flatZn T := by
  rw [show flatZn (T ++ S) = flatZn T ++ flatZn S by simp [flatZn], ← flatZn_len, List.take_left]

theorem ZsQ_rd {Q : World → Nat → Nat → Zn → Value → Prop} {ρ : Value → Value → Prop} (qrd : ∀ (w : World) (lo hi : Nat) (k : Zn) (c : Value), Q w lo hi k c → RdP w c k.cs) {w : World} {lo hi : Nat} {v : Value} {ks : List Zn} (h : ZsQ Q ρ w lo hi v ks) : ∃ T : List (Zn × Value), RdZs w v T ∧ T.map (·.1) = ks := by
  obtain ⟨hn, g, T, S, rfl, hg, hT, hS, hr, hq, hf, hp⟩ := h
  have hTl : T.length = ks.length := by rw [← hT]; simp
  refine ⟨T, ⟨?_, fun p hp => qrd _ _ _ _ _ (hq p hp)⟩, hT⟩
  have := RowF_short hr (n := T.length) (by simp)
  rw [flatZn_take, hTl] at this
  rw [hTl]
  exact RowF_rd this

/-- A site's cranes, copied by the law with room behind them. -/
def ZsC (w : World) (lo hi : Nat) (v : Value) (ks : List Zn) : Prop := ZsQ copyZQ blkLt w lo hi v ks

theorem ZsC_rd {w : World} {lo hi : Nat} {v : Value} {ks : List Zn} (h : ZsC w lo hi v ks) : ∃ T : List (Zn × Value), RdZs w v T ∧ T.map (·.1) = ks := ZsQ_rd (fun _ _ _ _ _ h => CopyN_rd h) h

theorem ZsC_kept {W w1 : World} {lo hi : Nat} {v : Value} {ks : List Zn} (h : ZsC W lo hi v ks) (hb : Below W.heap.size W w1) : ZsC w1 lo hi v ks := ZsQ_kept copyZQ_ok h hb

theorem toZs_false (v : Value) (ks : List (Zn × Value)) (w : World) (h : RdZs w v ks) (hn : ks.length ≤ 1000000) (hch : ∀ p ∈ ks, p.1.cs.length ≤ 1000000) :
    Calls Try.prog 28 #[v, .bool false] w fun e w' => ∃ v', e = .returned v' ∧ ZsC w' w.heap.size w'.heap.size v' (ks.map (·.1)) ∧ Below w.heap.size w w' :=
  toZs_gen false copyZQ blkLt copyZQ_ok (fun w w' lo hi lo' hi' k k' c c' h h' hl => by have := copyZQ_blk h; have := copyZQ_blk h'; unfold blkLt; omega)
    (fun k c u q l => toZ_false k c u q l) v ks w h hn (Or.inl rfl) hch

theorem toZs_true (v : Value) (ks : List (Zn × Value)) (w : World) (h : RdZs w v ks) (hn : ks.length ≤ 1000000) (hch : ∀ p ∈ ks, p.1.cs.length ≤ 1000000) :
    Calls Try.prog 28 #[v, .bool true] w fun e w' => ∃ v', e = .returned v' ∧ (v' = .slice none 0 0 ∧ ks = [] ∨ ZsQ rowZQ (fun _ _ => True) w' w.heap.size w'.heap.size v' (ks.map (·.1))) ∧ Below w.heap.size w w' := by
  by_cases hz : ks = []
  · subst hz
    obtain ⟨A, c, rfl, _, _⟩ := RdZs_at h
    clear h
    go_enter Try.func28, Try.ntmps28
    go_wp2
    go_ret
    exact ⟨_, rfl, Or.inl (by simp), Below.refl _ _⟩
  · exact (toZs_gen true rowZQ (fun _ _ => True) rowZQ_ok (fun _ _ _ _ _ _ _ _ _ _ _ _ _ => trivial) (fun k c u q l => toZ_true k c u q l) v ks w h hn (Or.inr hz) hch).mono fun e w' ⟨v', he, hs, hb⟩ => ⟨v', he, Or.inr hs, hb⟩

theorem eqZ_same (k : Zn) (c1 c2 : Value) (w : World) (h1 : RdP w c1 k.cs) (h2 : RdP w c2 k.cs) :
    Calls Try.prog 117 #[.agg #[.int .i64 k.kd, .int .i64 k.st, .int .i64 k.ea, c1], .agg #[.int .i64 k.kd, .int .i64 k.st, .int .i64 k.ea, c2]] w fun e w' => e = .returned (.bool true) ∧ Below w.heap.size w w' := by
  obtain ⟨A1, cp1, rfl, _, _⟩ := RdP_slice h1
  obtain ⟨A2, cp2, rfl, _, _⟩ := RdP_slice h2
  have H1 := Lib.hid h1; clear h1
  have H2 := Lib.hid h2; clear h2
  obtain ⟨kd, st, ea, zs⟩ := k
  dsimp only at *
  go_enter Try.func117, Try.ntmps117
  go_wp2_with fail
  refine (eqN_same _ _ zs _ (RdP_kept H1.out (by go_grown)) (RdP_kept H2.out (by go_grown))).mono ?_
  rintro e w2 ⟨rfl, hb2⟩
  have b2 := kept_trans (a := w) (by go_grown) hb2
  go_wp2
  go_ret
  exact ⟨rfl, b2⟩

set_option maxHeartbeats 1000000 in
theorem eqZs_same (v1 v2 : Value) (k1 k2 : List (Zn × Value)) (w : World) (h1 : RdZs w v1 k1) (h2 : RdZs w v2 k2) (hm : k1.map (·.1) = k2.map (·.1)) :
    Calls Try.prog 81 #[v1, v2] w fun e w' => e = .returned (.bool true) ∧ Below w.heap.size w w' := by
  obtain ⟨A1, cp1, rfl, hl1, r1⟩ := RdZs_at h1
  obtain ⟨A2, cp2, rfl, hl2, r2⟩ := RdZs_at h2
  clear h1 h2
  have hlen : k1.length = k2.length := by have := congrArg List.length hm; simpa using this
  have hel : ∀ i (h1 : i < k1.length) (h2 : i < k2.length), k1[i].1 = k2[i].1 := by
    intro i h1 h2
    have := congrArg (·[i]?) hm
    simpa [h1, h2] using this
  have R1 := Lib.hid r1; clear r1
  have R2 := Lib.hid r2; clear r2
  have HEL := Lib.hid hel; clear hel hm
  rw [← hlen]
  have HLEN := Lib.hid hlen
  clear hlen hl2
  go_enter Try.func81, Try.ntmps81
  go_wp2_with fail
  go_loopw [5] (fun i wr => ∃ j : Nat, j ≤ k1.length ∧ i = .int .i64 j ∧ Below w.heap.size w wr) (fun i _ => k1.length - (intOf i).toNat)
  case atStart => exact ⟨0, by omega, rfl, Below.refl _ _⟩
  case round =>
    obtain ⟨j, hj, rfl, hb⟩ := hrel
    by_cases hlt : j < k1.length
    · obtain ⟨b, off, rfl, hk⟩ := R1.out j hlt
      obtain ⟨b2, off2, rfl, hk2⟩ := R2.out j (by have := HLEN.out; omega)
      rw [← HEL.out j hlt (by have := HLEN.out; omega)] at hk2
      have hk := ZnAt_kept hk hb
      have hk2 := ZnAt_kept hk2 hb
      generalize k1[j].1 = k at *
      generalize k1[j].2 = cv at *
      generalize k2[j].2 = cv2 at *
      obtain ⟨hlb, ⟨c0, c1, c2, c3⟩, hrc⟩ := hk
      obtain ⟨hlb2, ⟨d0, d1, d2, d3⟩, hrd⟩ := hk2
      obtain ⟨A3, cp3, rfl, _, _⟩ := RdP_slice hrc
      obtain ⟨A4, cp4, rfl, _, _⟩ := RdP_slice hrd
      have HE := Lib.hid (fun (m : Nat) => eqZ_same k _ _ (wr.drewN m) (RdP_kept hrc (kept_drewN (Below.refl _ _) m)) (RdP_kept hrd (kept_drewN (Below.refl _ _) m)))
      clear hrc hrd
      go_wp2_with fail
      go_cut [26] (fun s26 w' => s26 = .bool false ∧ Below w.heap.size w w')
      case first =>
        go_region_with ((go_at_call 117; refine (HE.out 1).mono ?_; rintro e w1 ⟨rfl, hb1⟩; have b1 := kept_trans (a := w) (kept_drewN hb 1) hb1))
        all_goals
          go_wp2_with fail
          go_meet
          case rel => exact ⟨rfl, b1⟩
      case rest =>
      obtain ⟨rfl, hbc⟩ := hcut
      go_wp2
      go_roundw
      case rel => exact ⟨j + 1, by omega, by go_num, hbc⟩
      case measure => simp [intOf]; omega
    · have : j = k1.length := by omega
      subst this
      go_wp2
      go_ret
      exact ⟨rfl, hb⟩

theorem RdZs_tail {w : World} {lo hi g c N : Nat} {T S : List (Zn × Value)} (h : RowF 100 4 w lo hi (.slice (some ⟨g, 0, none⟩) N N) N (flatZn (T ++ S))) (hc : ∀ p ∈ S, RdP w p.2 p.1.cs) (hl : S.length ≤ 9223372036854775807) :
    RdZs w (.slice (some ⟨g, T.length * 4, none⟩) S.length c) S := by
  have hN : (flatZn (T ++ S)).length = N * 4 := h.1.1
  rw [flatZn_len, List.length_append] at hN
  refine ⟨⟨hl, flatZn_len S, some ⟨g, T.length * 4, none⟩, c, rfl, fun i hi => ⟨g, T.length * 4, rfl, (h.1.lt g rfl).2, ?_⟩⟩, hc⟩
  rw [h.1.cellAt (T.length * 4 + i) (by omega), show flatZn (T ++ S) = flatZn T ++ flatZn S by simp [flatZn], List.getElem?_append_right (by rw [flatZn_len]; omega), flatZn_len]
  congr 1
  omega

theorem ZsC_open {w : World} {lo hi : Nat} {v : Value} {ks : List Zn} (h : ZsC w lo hi v ks) : ∃ (g : Nat) (T S : List (Zn × Value)), v = .slice (some ⟨g, 0, none⟩) ks.length (ks.length + roomL ks.length) ∧ ks.length ≤ 1000000 ∧ T.length = ks.length ∧ S.length = roomL ks.length ∧ g < w.heap.size ∧
    (∀ i (h1 : i < T.length) (h2 : i < ks.length), T[i].1 = ks[i] ∧ CopyN w (g + 1) hi T[i].2 ks[i].cs ∧ ZnAt w g (i * 4) ks[i] T[i].2) ∧ S.map (·.1) = List.replicate (roomL ks.length) fillZn ∧ (∀ c, RdZs w (.slice (some ⟨g, ks.length * 4, none⟩) S.length c) S) := by
  obtain ⟨T', hR, hT'⟩ := ZsC_rd h
  obtain ⟨hn, g, T, S, rfl, hg, hT, hS, hr, hq, hf, hp⟩ := h
  have hTl : T.length = ks.length := by rw [← hT]; simp
  have hSl : S.length = roomL ks.length := by have := congrArg List.length hS; simpa using this
  have hlt : g < w.heap.size := (hr.1.lt g rfl).2
  have hsl : (T ++ S).length = ks.length + roomL ks.length := by simp [hTl, hSl]
  have hrm := roomL_le ks.length
  refine ⟨g, T, S, by rw [hsl], hn, hTl, hSl, hlt, fun i h1 h2 => ?_, hS, fun c => ?_⟩
  · have e : T[i].1 = ks[i] := by
      have := congrArg (·[i]?) hT
      simpa [h1, h2] using this
    have hc := hq T[i] (List.getElem_mem h1)
    have hc' : CopyN w (g + 1) hi T[i].2 ks[i].cs := by rw [← e]; exact hc
    refine ⟨e, hc', hlt, ?_, CopyN_rd hc'⟩
    have at_ : ∀ j, j < 4 → w.cell? ⟨g, i * 4 + j, none⟩ = (encZn T[i])[j]? := by
      intro j hj
      rw [hr.1.cellAt (i * 4 + j) (by rw [hsl]; omega), flatZn_at (T ++ S) i j (by rw [List.length_append]; omega) hj, List.getElem_append_left h1]
    rw [← e]
    exact ⟨at_ 0 (by omega), at_ 1 (by omega), at_ 2 (by omega), at_ 3 (by omega)⟩
  · rw [← hTl]
    refine RdZs_tail hr (fun p hp => ?_) (by omega)
    have e : p.1 = fillZn := by
      have : p.1 ∈ S.map (·.1) := List.mem_map.2 ⟨p, hp, rfl⟩
      rw [hS] at this
      exact (List.mem_replicate.1 this).2
    rw [e]
    exact RowF_rd (hf p hp)

set_option maxHeartbeats 2000000 in
theorem intactZs_same (v1 v2 : Value) (ks : List Zn) (lo1 hi1 lo2 hi2 : Nat) (w : World) (h1 : ZsC w lo1 hi1 v1 ks) (h2 : ZsC w lo2 hi2 v2 ks) :
    Calls Try.prog 31 #[v1, v2] w fun e w' => e = .returned (.bool true) ∧ Below w.heap.size w w' := by
  have H1 := Lib.hid h1
  have H2 := Lib.hid h2
  obtain ⟨g1, T1, S1, rfl, hn, _, _, _, _, _, _⟩ := ZsC_open h1
  obtain ⟨g2, T2, S2, rfl, _, _, _, _, _, _, _⟩ := ZsC_open h2
  clear h1 h2
  have hr := roomL_le ks.length
  have HE := Lib.hid (fun (u : World) (q1 : ZsC u lo1 hi1 (.slice (some ⟨g1, 0, none⟩) ks.length (ks.length + roomL ks.length)) ks) (q2 : ZsC u lo2 hi2 (.slice (some ⟨g2, 0, none⟩) ks.length (ks.length + roomL ks.length)) ks) => (by
    obtain ⟨g1', T1, S1, e1, _, _, hS1, _, _, hm1, hR1⟩ := ZsC_open q1
    obtain ⟨g2', T2, S2, e2, _, _, hS2, _, _, hm2, hR2⟩ := ZsC_open q2
    cases e1
    cases e2
    have hA : ∀ (g : Nat) (S : List (Zn × Value)), S.length = roomL ks.length → RdZs u (.slice (some ⟨g, ks.length * 4, none⟩) S.length (roomL ks.length)) S → RdZs u (.slice (if roomL ks.length = 0 then some ⟨g, 0, none⟩ else some ⟨g, ks.length * 4, none⟩) (roomL ks.length) (roomL ks.length)) S := by
      intro g S hS h
      by_cases h0 : roomL ks.length = 0
      · have hS0 := List.eq_nil_of_length_eq_zero (hS.trans h0)
        subst hS0
        rw [if_pos h0, h0]
        exact ⟨⟨by simp, rfl, _, _, rfl, fun i hi => by simp at hi⟩, fun p hp => by cases hp⟩
      · rw [if_neg h0]
        rw [hS] at h
        exact h
    exact eqZs_same _ _ S1 S2 u (hA g1 S1 hS1 (hR1 (roomL ks.length))) (hA g2 S2 hS2 (hR2 (roomL ks.length))) (hm1.trans hm2.symm) : Calls Try.prog 81 #[.slice (if roomL ks.length = 0 then some ⟨g1, 0, none⟩ else some ⟨g1, ks.length * 4, none⟩) (roomL ks.length) (roomL ks.length), .slice (if roomL ks.length = 0 then some ⟨g2, 0, none⟩ else some ⟨g2, ks.length * 4, none⟩) (roomL ks.length) (roomL ks.length)] u fun e w' => e = .returned (.bool true) ∧ Below u.heap.size u w'))
  have HX := Lib.hid (fun (u : World) (q1 : ZsC u lo1 hi1 (.slice (some ⟨g1, 0, none⟩) ks.length (ks.length + roomL ks.length)) ks) (q2 : ZsC u lo2 hi2 (.slice (some ⟨g2, 0, none⟩) ks.length (ks.length + roomL ks.length)) ks) (i : Nat) (hi : i < ks.length) => (by
    obtain ⟨g1', T1, S1, e1, _, hl1, _, _, ha1, _, _⟩ := ZsC_open q1
    obtain ⟨g2', T2, S2, e2, _, hl2, _, _, ha2, _, _⟩ := ZsC_open q2
    cases e1
    cases e2
    obtain ⟨_, hc1, hk1⟩ := ha1 i (by omega) hi
    obtain ⟨_, hc2, hk2⟩ := ha2 i (by omega) hi
    exact ⟨_, _, hc1, hk1, hc2, hk2⟩ : ∃ c1 c2, CopyN u (g1 + 1) hi1 c1 ks[i].cs ∧ ZnAt u g1 (i * 4) ks[i] c1 ∧ CopyN u (g2 + 1) hi2 c2 ks[i].cs ∧ ZnAt u g2 (i * 4) ks[i] c2))
  go_enter Try.func31, Try.ntmps31
  go_wp2_with (go_at_call 72; refine (room_any _ (by omega) _).mono ?_; rintro e w1 ⟨rfl, rfl⟩)
  go_loopw [6] (fun i wr => ∃ j : Nat, j ≤ ks.length ∧ i = .int .i64 j ∧ Below w.heap.size w wr) (fun i _ => ks.length - (intOf i).toNat)
  case atStart => exact ⟨0, by omega, rfl, Below.refl _ _⟩
  case round =>
    obtain ⟨j, hj, rfl, hb⟩ := hrel
    by_cases hlt : j < ks.length
    · obtain ⟨cv, cv2, hcv, ⟨hlb, ⟨c0, c1, c2, c3⟩, hrc⟩, hcv2, ⟨hlb2, ⟨d0, d1, d2, d3⟩, hrd⟩⟩ := HX.out wr (ZsC_kept H1.out hb) (ZsC_kept H2.out hb) j hlt
      generalize ks[j] = k at *
      obtain ⟨A3, cp3, rfl, _, _⟩ := RdP_slice hrc
      obtain ⟨A4, cp4, rfl, _, _⟩ := RdP_slice hrd
      have HI := Lib.hid (fun (m : Nat) => intactZ_same k _ _ _ _ _ _ (wr.drewN m) (CopyN_kept hcv (kept_drewN (Below.refl _ _) m)) (CopyN_kept hcv2 (kept_drewN (Below.refl _ _) m)))
      clear hrc hrd hcv hcv2
      go_wp2_with fail
      go_cut [33] (fun s33 w' => s33 = .bool false ∧ Below w.heap.size w w')
      case first =>
        go_region_with ((go_at_call 80; refine (HI.out 1).mono ?_; rintro e w1 ⟨rfl, hb1⟩; have b1 := kept_trans (a := w) (kept_drewN hb 1) hb1))
        all_goals
          go_wp2_with fail
          go_meet
          case rel => exact ⟨rfl, b1⟩
      case rest =>
      obtain ⟨rfl, hbc⟩ := hcut
      go_wp2
      go_roundw
      case rel => exact ⟨j + 1, by omega, by go_num, hbc⟩
      case measure => simp [intOf]; omega
    · have : j = ks.length := by omega
      subst this
      have hee := fun (m : Nat) => HE.out (wr.drewN m) (ZsC_kept H1.out (kept_drewN hb m)) (ZsC_kept H2.out (kept_drewN hb m))
      have hx1 : ¬ (ks.length + roomL ks.length < ks.length) := by omega
      have hx3 : (ks.length : Int) ≤ (ks.length : Int) + (roomL ks.length : Int) := by omega
      have hx4 : (0 : Int) ≤ (ks.length : Int) + (roomL ks.length : Int) := by omega
      have hx5 : ((ks.length : Int) + (roomL ks.length : Int)).toNat = ks.length + roomL ks.length := by omega
      have hx6 : ks.length ≤ ks.length + roomL ks.length := by omega
      have hx7 : ks.length + roomL ks.length - ks.length = roomL ks.length := by omega
      by_cases h0 : roomL ks.length = 0
      case pos =>
        simp only [h0, if_true] at hee
        have HEE := Lib.hid hee; clear hee
        go_wp2_with fail
        go_region_with ((go_at_call 81; refine (HEE.out 1).mono ?_; rintro e w1 ⟨rfl, hb1⟩; have b1 := kept_trans (a := w) (kept_drewN hb 1) hb1))
        all_goals
          go_wp2
          go_ret
          exact ⟨rfl, b1⟩
      case neg =>
        simp only [if_neg h0] at hee
        have HEE := Lib.hid hee; clear hee
        go_wp2_with fail
        go_region_with ((go_at_call 81; refine (HEE.out 1).mono ?_; rintro e w1 ⟨rfl, hb1⟩; have b1 := kept_trans (a := w) (kept_drewN hb 1) hb1))
        all_goals
          go_wp2
          go_ret
          exact ⟨rfl, b1⟩

/-- The list of zones is valid. -/
noncomputable def zonesB (ks : List (Zn × Value)) : Bool := decide (ks.length ≤ 10) && ks.all fun p => zoneB p.1

set_option maxHeartbeats 1000000 in
theorem specList_any (v : Value) (ks : List (Zn × Value)) (w : World) (h : RdZs w v ks) :
    Calls Try.prog 67 #[v] w fun e w' => e = .returned (.bool (zonesB ks)) ∧ Below w.heap.size w w' := by
  obtain ⟨A, c, rfl, hl, r⟩ := RdZs_at h
  have R := Lib.hid r; clear r h
  have hbad : ∀ j (hj : j < ks.length), zoneB ks[j].1 = false → zonesB ks = false := by
    intro j hj hz
    unfold zonesB
    rw [Bool.and_eq_false_iff]
    right
    rw [List.all_eq_false]
    exact ⟨ks[j], List.getElem_mem hj, by simp [hz]⟩
  have hend : (∀ j (hj : j < ks.length), j < ks.length → zoneB ks[j].1 = true) → zonesB ks = decide ((ks.length : Int) ≤ 10) := by
    intro hall
    unfold zonesB
    have : ks.all (fun p => zoneB p.1) = true := by
      rw [List.all_eq_true]
      intro p hp
      obtain ⟨j, hj, rfl⟩ := List.getElem_of_mem hp
      exact hall j hj hj
    rw [this, Bool.and_true, Bool.eq_iff_iff]
    simp
    omega
  have HBAD := Lib.hid hbad; clear hbad
  have HEND := Lib.hid hend; clear hend
  generalize zonesB ks = G at *
  go_enter Try.func67, Try.ntmps67
  go_wp2_with fail
  go_loopw [3] (fun i wr => ∃ j : Nat, j ≤ ks.length ∧ i = .int .i64 (j : Int) ∧ (∀ i (hi : i < ks.length), i < j → zoneB ks[i].1 = true) ∧ Below w.heap.size w wr) (fun i _ => ks.length - (intOf i).toNat)
  case atStart => exact ⟨0, by omega, rfl, fun i _ h => by omega, Below.refl _ _⟩
  case round =>
    obtain ⟨j, hj, rfl, hall, hb⟩ := hrel
    by_cases hlt : j < ks.length
    · obtain ⟨b, off, rfl, q⟩ := R.out j hlt
      have hs := specZone_any b (off + j * 4) ks[j].1 ks[j].2 wr (ZnAt_kept q hb)
      clear q
      cases hz : zoneB ks[j].1
      · have hG := HBAD.out j hlt hz
        subst hG
        rw [hz] at hs
        have HS := Lib.hid hs; clear hs hall hz
        go_wp2_with fail
        refine HS.out.mono ?_
        rintro e w1 ⟨rfl, hb1⟩
        go_wp2
        go_ret
        exact ⟨rfl, kept_trans hb hb1⟩
      · have hnx : ∀ i (hi : i < ks.length), i < j + 1 → zoneB ks[i].1 = true := fun i hi hij => by
          rcases Nat.lt_or_ge i j with h3 | h3
          · exact hall i hi h3
          · obtain rfl : i = j := by omega
            exact hz
        rw [hz] at hs
        have HS := Lib.hid hs; clear hs hall hz
        have HNX := Lib.hid hnx; clear hnx
        go_wp2_with fail
        refine HS.out.mono ?_
        rintro e w1 ⟨rfl, hb1⟩
        go_wp2
        go_roundw
        case rel => exact ⟨j + 1, by omega, by go_num, HNX.out, kept_trans hb hb1⟩
        case measure => simp [intOf]; omega
    · have : j = ks.length := by omega
      subst this
      have hE := HEND.out (fun i hi h => hall i hi h)
      clear hall
      subst hE
      go_wp2
      go_ret
      exact ⟨by simp, hb⟩

theorem zonesB_at {ks : List (Zn × Value)} (h : zonesB ks = true) : ks.length ≤ 10 ∧ ∀ j (hj : j < ks.length), zoneB ks[j].1 = true := by
  simp only [zonesB, Bool.and_eq_true, decide_eq_true_eq, List.all_eq_true] at h
  exact ⟨h.1, fun j hj => h.2 _ (List.getElem_mem hj)⟩

/-- Whether a zone stops a load on its straight way at a height. -/
noncomputable def stopB (p q : Int × Int) (h : Int) (k : Zn) : Bool := blockB 2 k h && meetsB k.cs p q

set_option maxHeartbeats 4000000 in
theorem specFirst_loop (v : Value) (ks : List (Zn × Value)) (p q : Int × Int) (h : Int) (w : World) (hr : RdZs w v ks) (hz : zonesB ks = true) (hp : okP p.1 p.2 = true) (hq : okP q.1 q.2 = true) (hh : inB h 0 2000 = true) :
    Calls Try.prog 27 #[v, .agg #[.int .i64 p.1, .int .i64 p.2], .agg #[.int .i64 q.1, .int .i64 q.2], .int .i64 h] w fun e w' => e = .returned (.tuple #[.int .i64 (idxL (fun z => stopB p q h z.1) ks), .int .i64 0]) ∧ Below w.heap.size w w' := by
  obtain ⟨hn, hzs⟩ := zonesB_at hz
  have HL := Lib.hid (fun u (x : RdZs u v ks) => (by have := specList_any v ks u x; rw [hz] at this; exact this : Calls Try.prog 67 #[v] u fun e w' => e = .returned (.bool true) ∧ Below u.heap.size u w'))
  have HP := Lib.hid (fun u => (by have := specOk_any p.1 p.2 u; rw [hp] at this; exact this : Calls Try.prog 68 #[.agg #[.int .i64 p.1, .int .i64 p.2]] u fun e w' => e = .returned (.bool true) ∧ Below u.heap.size u w'))
  have HQ := Lib.hid (fun u => (by have := specOk_any q.1 q.2 u; rw [hq] at this; exact this : Calls Try.prog 68 #[.agg #[.int .i64 q.1, .int .i64 q.2]] u fun e w' => e = .returned (.bool true) ∧ Below u.heap.size u w'))
  have HH := Lib.hid (fun u => (by have := specHeight_any h u; rw [hh] at this; exact this : Calls Try.prog 69 #[.int .i64 h] u fun e w' => e = .returned (.bool true) ∧ u = w'))
  have H := Lib.hid hr
  obtain ⟨A, cp, rfl, _, r⟩ := RdZs_at hr
  have R := Lib.hid r; clear r hr
  have HIS := Lib.hid (fun k (h' : k < ks.length) => @idxL_is _ (fun z => stopB p q h z.1) ks k h')
  have HNO := Lib.hid (@idxL_none _ (fun z => stopB p q h z.1) ks)
  have HM := Lib.hid (fun j (hj : j < ks.length) b o u (x : ZnAt u b o ks[j].1 ks[j].2) => (by
    obtain ⟨_, _, hc⟩ := zone_kd (hzs j hj)
    exact specMeets_any b o ks[j].1 ks[j].2 p q u x (by have := hc.1; omega) (corn_near hc) (near0_ok hp) (near0_ok hq) : Calls Try.prog 71 #[.pointer (some ⟨b, o, none⟩), .agg #[.int .i64 p.1, .int .i64 p.2], .agg #[.int .i64 q.1, .int .i64 q.2]] u fun e w' => e = .returned (.bool (meetsB ks[j].1.cs p q)) ∧ Below u.heap.size u w'))
  have HBL := Lib.hid (fun j (hj : j < ks.length) b o u (x : ZnAt u b o ks[j].1 ks[j].2) => (by
    obtain ⟨h1, h2, _⟩ := zone_kd (hzs j hj)
    exact specBlocks_load b o ks[j].1 ks[j].2 h u x h1 h2 : Calls Try.prog 70 #[.pointer (some ⟨b, o, none⟩), .int .i64 h] u fun e w' => e = .returned (.bool (blockB 2 ks[j].1 h)) ∧ Below u.heap.size u w'))
  clear hz hp hq hh hzs
  have hst : ∀ k, stopB p q h k = (blockB 2 k h && meetsB k.cs p q) := fun _ => rfl
  have HST := Lib.hid hst; clear hst
  generalize idxL (fun z => stopB p q h z.1) ks = G at *
  generalize stopB p q h = ST at *
  obtain ⟨px, py⟩ := p
  obtain ⟨qx, qy⟩ := q
  dsimp only at *
  go_enter Try.func27, Try.ntmps27
  go_wp2_with fail
  refine (HL.out _ (RdZs_kept H.out (by go_grown))).mono ?_
  rintro e w1 ⟨rfl, hb1⟩
  refine kept_at hb1 w.heap.size (by go_size) fun c1_0 z1_0 s1_0 => ?_
  refine kept_at hb1 (w.heap.size + 1) (by go_size) fun c1_1 z1_1 s1_1 => ?_
  have b1 := kept_trans (a := w) (by go_grown) hb1
  have e1 : w1.cell? ⟨w.heap.size, 0, none⟩ = some (.int .i64 px) := by rw [c1_0]; simp
  have e2 : w1.cell? ⟨w.heap.size, 1, none⟩ = some (.int .i64 py) := by rw [c1_0]; simp
  have e3 : w1.cell? ⟨w.heap.size + 1, 0, none⟩ = some (.int .i64 qx) := by rw [c1_1]; simp
  have e4 : w1.cell? ⟨w.heap.size + 1, 1, none⟩ = some (.int .i64 qy) := by rw [c1_1]; simp
  clear c1_0 c1_1 z1_0 z1_1
  go_wp2_with fail
  refine (HP.out _).mono ?_
  rintro e w2 ⟨rfl, hb2⟩
  have e3' : w2.cell? ⟨w.heap.size + 1, 0, none⟩ = some (.int .i64 qx) := by rw [kept_cell hb2 _ _ s1_1]; exact e3
  have e4' : w2.cell? ⟨w.heap.size + 1, 1, none⟩ = some (.int .i64 qy) := by rw [kept_cell hb2 _ _ s1_1]; exact e4
  go_wp2_with fail
  refine (HQ.out _).mono ?_
  rintro e w3 ⟨rfl, hb3⟩
  go_wp2_with fail
  refine (HH.out _).mono ?_
  rintro e w4 ⟨rfl, rfl⟩
  have k3 := kept_trans hb2 hb3
  clear e3' e4'
  go_wp2_with fail
  go_loopw [10] (fun i wr => ∃ j : Nat, j ≤ ks.length ∧ i = .int .i64 (j : Int) ∧ (∀ i (hi : i < ks.length), i < j → ST ks[i].1 = false) ∧ Below w1.heap.size w1 wr) (fun i _ => ks.length - (intOf i).toNat)
  case atStart => exact ⟨0, by omega, rfl, fun i _ h => by omega, k3⟩
  case round =>
    obtain ⟨j, hj, rfl, hall, hb⟩ := hrel
    have f1 : wr.cell? ⟨w.heap.size, 0, none⟩ = some (.int .i64 px) := by rw [kept_cell hb _ _ s1_0]; exact e1
    have f2 : wr.cell? ⟨w.heap.size, 1, none⟩ = some (.int .i64 py) := by rw [kept_cell hb _ _ s1_0]; exact e2
    have f3 : wr.cell? ⟨w.heap.size + 1, 0, none⟩ = some (.int .i64 qx) := by rw [kept_cell hb _ _ s1_1]; exact e3
    have f4 : wr.cell? ⟨w.heap.size + 1, 1, none⟩ = some (.int .i64 qy) := by rw [kept_cell hb _ _ s1_1]; exact e4
    have hlw := Nat.lt_of_lt_of_le s1_1 hb.size
    by_cases hlt : j < ks.length
    · obtain ⟨b, off, rfl, z⟩ := R.out j hlt
      have z' := ZnAt_kept z (kept_trans b1 hb)
      clear z
      have hbl := fun u (hu : Below wr.heap.size wr u) => HBL.out j hlt b (off + j * 4) u (ZnAt_kept z' hu)
      have hme := fun u (hu : Below wr.heap.size wr u) => HM.out j hlt b (off + j * 4) u (ZnAt_kept z' hu)
      have hsj := HST.out ks[j].1
      have hnx : ST ks[j].1 = false → ∀ i (hi : i < ks.length), i < j + 1 → ST ks[i].1 = false := fun he i hi hij => by
        rcases Nat.lt_or_ge i j with h3 | h3
        · exact hall i hi h3
        · obtain rfl : i = j := by omega
          exact he
      have his := fun he => HIS.out j hlt he hall
      have HNX := Lib.hid hnx; clear hnx
      have HIJ := Lib.hid his; clear his
      clear hall z'
      generalize ks[j].1 = k at *
      have HB := Lib.hid hbl; clear hbl
      have HME := Lib.hid hme; clear hme
      generalize blockB 2 k h = B at *
      generalize meetsB k.cs (px, py) (qx, qy) = M at *
      cases B
      · rw [Bool.false_and] at hsj
        have HSJ := Lib.hid hsj; clear hsj
        go_wp2_with fail
        first
          | go_region_with ((go_at_call 70; refine (HB.out _ (by go_grown)).mono ?_; rintro e w5 ⟨rfl, hb5⟩; refine kept_at hb5 w.heap.size (by go_size) fun ca5 za5 sa5 => ?_; refine kept_at hb5 (w.heap.size + 1) (by go_size) fun cb5 zb5 sb5 => ?_; have b5 := kept_trans (a := wr) (by go_grown) hb5))
          | fail
        all_goals
          go_wp2
          go_roundw
          case rel => exact ⟨j + 1, by omega, by go_num, HNX.out HSJ.out, kept_trans hb b5⟩
          case measure => simp [intOf]; omega
      · cases M
        all_goals
          simp only [Bool.true_and] at hsj
          have HSJ := Lib.hid hsj; clear hsj
          go_wp2_with fail
          go_region_held3 (fun w' => w'.cell? ⟨w.heap.size, 0, none⟩ = some (.int .i64 px) ∧ w'.cell? ⟨w.heap.size, 1, none⟩ = some (.int .i64 py) ∧ w'.cell? ⟨w.heap.size + 1, 0, none⟩ = some (.int .i64 qx) ∧ w'.cell? ⟨w.heap.size + 1, 1, none⟩ = some (.int .i64 qy)) (go_keep) (first
            | (go_at_call 70; refine (HB.out _ (by go_grown)).mono ?_; rintro e w5 ⟨rfl, hb5⟩; refine kept_at hb5 w.heap.size (by go_size) fun ca5 za5 sa5 => ?_; refine kept_at hb5 (w.heap.size + 1) (by go_size) fun cb5 zb5 sb5 => ?_; have b5 := kept_trans (a := wr) (by go_grown) hb5)
            | (go_at_call 71; refine (HME.out _ (kept_trans b5 (by go_grown))).mono ?_; rintro e w6 ⟨rfl, hb6⟩; refine kept_at hb6 w.heap.size (by go_size) fun ca6 za6 sa6 => ?_; refine kept_at hb6 (w.heap.size + 1) (by go_size) fun cb6 zb6 sb6 => ?_; have b6 := kept_trans (a := wr) (kept_trans b5 (by go_grown)) hb6))
        · go_wp2
          go_roundw
          case rel => exact ⟨j + 1, by omega, by go_num, HNX.out HSJ.out, kept_trans hb b6⟩
          case measure => simp [intOf]; omega
        · have hG := HIJ.out HSJ.out
          subst hG
          go_wp2
          go_ret2
          exact ⟨rfl, kept_trans b1 (kept_trans hb b6)⟩
    · have : j = ks.length := by omega
      subst this
      have hE := HNO.out (fun i hi => hall i hi hi)
      clear hall
      subst hE
      go_wp2
      go_ret2
      exact ⟨rfl, kept_trans b1 hb⟩

set_option maxRecDepth 100000 in
theorem indexFuncZ_any (v : Value) (zs : List (Zn × Value)) (g : FuncId) (he : Enters Try.prog g) (cap : Array Value) (p : Zn → Bool) (w : World) (h : RdZs w v zs)
    (hf : ∀ k (hk : k < zs.length) w1, Below w.heap.size w w1 → Calls Try.prog g (#[.agg #[.int .i64 zs[k].1.kd, .int .i64 zs[k].1.st, .int .i64 zs[k].1.ea, zs[k].2]] ++ cap) w1 fun e w2 => e = .returned (.bool (p zs[k].1)) ∧ Below w1.heap.size w1 w2) :
    Calls Try.prog 78 #[v, .func (.func g) #[] cap] w fun e w' => e = .returned (.int .i64 (idxL (fun z => p z.1) zs)) ∧ Below w.heap.size w w' := by
  obtain ⟨A, c, rfl, hl, r1⟩ := RdZs_at h
  clear h
  have R := Lib.hid r1; clear r1
  have Hf := Lib.hid hf; clear hf
  have HIS := Lib.hid (fun k (h : k < zs.length) => @idxL_is _ (fun z => p z.1) zs k h)
  have HNO := Lib.hid (@idxL_none _ (fun z => p z.1) zs)
  generalize idxL (fun z => p z.1) zs = G at *
  go_enter Try.func78, Try.ntmps78
  go_wp2_with fail
  go_loopw [8] (fun i wr => ∃ k : Nat, k ≤ zs.length ∧ i = .int .i64 k ∧ (∀ j (hj : j < zs.length), j < k → p zs[j].1 = false) ∧ Below w.heap.size w wr) (fun i _ => zs.length - (intOf i).toNat)
  case atStart => exact ⟨0, by omega, rfl, fun j _ h => by omega, Below.refl _ _⟩
  case round =>
    obtain ⟨k, hk, rfl, hall, hb⟩ := hrel
    by_cases hlt : k < zs.length
    · obtain ⟨b, off, rfl, hz⟩ := R.out k hlt
      obtain ⟨hbl, ⟨hc0, hc1, hc2, hc3⟩, hrz⟩ := ZnAt_kept hz hb
      have hc := fun u (hu : Below wr.heap.size wr u) => Hf.out k hlt u (kept_trans hb hu)
      obtain ⟨Az, cz, ez, _, _⟩ := RdP_slice hrz
      rw [ez] at hc3 hc
      clear hz hrz ez
      cases hp : p zs[k].1
      · have hnx : ∀ j (hj : j < zs.length), j < k + 1 → p zs[j].1 = false := fun j hj hjk => by
          rcases Nat.lt_or_ge j k with h1 | h1
          · exact hall j hj h1
          · obtain rfl : j = k := by omega
            exact hp
        rw [hp] at hc
        have HNX := Lib.hid hnx; clear hnx hall hp
        have Hc := Lib.hid hc; clear hc
        generalize zs[k].1 = x at *
        obtain ⟨kd, st, ea, cs⟩ := x
        dsimp only at *
        go_wp2_with fail
        rw [he, Oper.upon_enter]
        refine (Hc.out _ (by go_grown)).mono ?_
        rintro e w1 ⟨rfl, hb1⟩
        replace hb1 := kept_trans (a := wr) (by go_grown) hb1
        go_wp2
        go_roundw
        case rel => exact ⟨k + 1, by omega, by go_num, HNX.out, kept_trans hb hb1⟩
        case measure => simp [intOf]; omega
      · have hE := HIS.out k hlt hp hall
        subst hE
        rw [hp] at hc
        have Hc := Lib.hid hc; clear hc hall hp
        generalize zs[k].1 = x at *
        obtain ⟨kd, st, ea, cs⟩ := x
        dsimp only at *
        go_wp2_with fail
        rw [he, Oper.upon_enter]
        refine (Hc.out _ (by go_grown)).mono ?_
        rintro e w1 ⟨rfl, hb1⟩
        replace hb1 := kept_trans (a := wr) (by go_grown) hb1
        go_wp2
        go_ret
        exact ⟨rfl, kept_trans hb hb1⟩
    · have : k = zs.length := by omega
      subst this
      have hE := HNO.out (fun j hj => hall j hj hj)
      clear hall
      subst hE
      go_wp2
      go_ret
      exact ⟨rfl, hb⟩

theorem containsFuncZ_any (v : Value) (zs : List (Zn × Value)) (g : FuncId) (he : Enters Try.prog g) (cap : Array Value) (p : Zn → Bool) (w : World) (h : RdZs w v zs)
    (hf : ∀ k (hk : k < zs.length) w1, Below w.heap.size w w1 → Calls Try.prog g (#[.agg #[.int .i64 zs[k].1.kd, .int .i64 zs[k].1.st, .int .i64 zs[k].1.ea, zs[k].2]] ++ cap) w1 fun e w2 => e = .returned (.bool (p zs[k].1)) ∧ Below w1.heap.size w1 w2) :
    Calls Try.prog 111 #[v, .func (.func g) #[] cap] w fun e w' => e = .returned (.bool (zs.any fun z => p z.1)) ∧ Below w.heap.size w w' := by
  have H := Lib.hid (indexFuncZ_any v zs g he cap p w h hf)
  obtain ⟨A, c, rfl, hl, r1⟩ := RdZs_at h
  clear h hf r1
  have hbd := idxL_bd (fun z => p z.1) zs
  rw [← idxL_any]
  generalize idxL (fun z => p z.1) zs = G at *
  go_enter Try.func111, Try.ntmps111
  go_wp2_with fail
  refine H.out.mono ?_
  rintro e w1 ⟨rfl, hb1⟩
  go_wp2
  go_ret
  exact ⟨rfl, hb1⟩

theorem badZone_any (k : Zn) (c : Value) (w : World) (hr : RdP w c k.cs) :
    Calls Try.prog 112 #[.agg #[.int .i64 k.kd, .int .i64 k.st, .int .i64 k.ea, c]] w fun e w' => e = .returned (.bool (!zoneB k)) ∧ Below w.heap.size w w' := by
  have HZ := Lib.hid (fun u (q : RdP u c k.cs) => implZone_any k c u q)
  obtain ⟨A, cp, rfl, _, _⟩ := RdP_slice hr
  have H := Lib.hid hr; clear hr
  generalize zoneB k = Z at *
  obtain ⟨kd, st, ea, cs⟩ := k
  dsimp only at *
  go_enter Try.func112, Try.ntmps112
  go_wp2_with fail
  refine (HZ.out _ (RdP_kept H.out (by go_grown))).mono ?_
  rintro e w1 ⟨rfl, hb1⟩
  have b1 := kept_trans (a := w) (by go_grown) hb1
  go_wp2
  go_ret
  exact ⟨rfl, b1⟩

theorem zonesB_any (ks : List (Zn × Value)) : zonesB ks = (decide (ks.length ≤ 10) && !(ks.any fun z => !zoneB z.1)) := by
  unfold zonesB
  congr 1
  rw [List.not_any_eq_all_not]
  simp

theorem validZones_any (v : Value) (ks : List (Zn × Value)) (w : World) (h : RdZs w v ks) :
    Calls Try.prog 75 #[v] w fun e w' => e = .returned (.bool (zonesB ks)) ∧ Below w.heap.size w w' := by
  have hC := containsFuncZ_any v ks 112 (enters_of Try.func112 (by kernel_rfl) rfl) #[] (fun z => !zoneB z) w h (fun k hk w1 hb => badZone_any ks[k].1 ks[k].2 w1 (RdP_kept (h.2 _ (List.getElem_mem hk)) hb))
  have HC := Lib.hid hC; clear hC
  rw [zonesB_any]
  obtain ⟨A, c, rfl, hl, _⟩ := RdZs_at h
  clear h
  generalize (ks.any fun z => !zoneB z.1) = X at *
  by_cases h10 : ks.length ≤ 10
  · have hI : (ks.length : Int) ≤ 10 := by omega
    rw [show decide (ks.length ≤ 10) = true by simpa using h10, Bool.true_and]
    go_enter Try.func75, Try.ntmps75
    go_wp2_with fail
    refine HC.out.mono ?_
    rintro e w1 ⟨rfl, hb1⟩
    go_wp2
    go_ret
    exact ⟨rfl, hb1⟩
  · have hI : ¬ (ks.length : Int) ≤ 10 := by omega
    rw [show decide (ks.length ≤ 10) = false by simpa using h10, Bool.false_and]
    go_enter Try.func75, Try.ntmps75
    go_wp2
    go_ret
    exact ⟨rfl, Below.refl _ _⟩

/-- What FirstBlocking returns. -/
noncomputable def firstL (ks : List (Zn × Value)) (p q : Int × Int) (h : Int) : Int × Int :=
  if zonesB ks && (okP p.1 p.2 && okP q.1 q.2) then (if inB h 0 2000 then (idxL (fun z => stopB p q h z.1) ks, 0) else (0, 2)) else (0, 1)

theorem loadStopped_any (k : Zn) (c : Value) (p q : Int × Int) (h : Int) (w : World) (hr : RdP w c k.cs) (hz : zoneB k = true) (hp : near0 p) (hq : near0 q) :
    Calls Try.prog 79 #[.agg #[.int .i64 p.1, .int .i64 p.2, .int .i64 q.1, .int .i64 q.2, .int .i64 h], .agg #[.int .i64 k.kd, .int .i64 k.st, .int .i64 k.ea, c]] w fun e w' => e = .returned (.bool (stopB p q h k)) ∧ Below w.heap.size w w' := by
  obtain ⟨hk, hm, hc⟩ := zone_kd hz
  obtain ⟨A, cp, rfl, hl, _⟩ := RdP_slice hr
  have HB := Lib.hid (fun u => implBlocks_load k A k.cs.length cp h u hm)
  have HM := Lib.hid (fun u (x : RdP u (.slice A k.cs.length cp) k.cs) => implMeets_any k (.slice A k.cs.length cp) p q u x hc hp hq)
  have H := Lib.hid hr; clear hr hz hk hm hc hp hq
  unfold stopB
  generalize meetsB k.cs p q = M at *
  generalize blockB 2 k h = B at *
  obtain ⟨px, py⟩ := p
  obtain ⟨qx, qy⟩ := q
  obtain ⟨kd, st, ea, cs⟩ := k
  dsimp only at *
  cases B
  · go_enter Try.func79, Try.ntmps79
    go_wp2_with fail
    refine (HB.out _).mono ?_
    rintro e w1 ⟨rfl, hb1⟩
    have b1 := kept_trans (a := w) (by go_grown) hb1
    go_wp2
    go_ret
    exact ⟨by simp, b1⟩
  · rw [Bool.true_and]
    go_enter Try.func79, Try.ntmps79
    go_wp2_with fail
    refine (HB.out _).mono ?_
    rintro e w1 ⟨rfl, hb1⟩
    refine kept_at hb1 w.heap.size (by go_size) fun c1_0 z1_0 s1_0 => ?_
    refine kept_at hb1 (w.heap.size + 1) (by go_size) fun c1_1 z1_1 s1_1 => ?_
    have b1 := kept_trans (a := w) (by go_grown) hb1
    go_wp2_with fail
    refine (HM.out _ (RdP_kept H.out b1)).mono ?_
    rintro e w2 ⟨rfl, hb2⟩
    have b2 := kept_trans b1 hb2
    go_wp2
    go_ret
    exact ⟨rfl, b2⟩

set_option maxRecDepth 100000 in
theorem indexStop_any (v : Value) (zs : List (Zn × Value)) (r : Value) (p : Zn → Bool) (w : World) (h : RdZs w v zs)
    (hf : ∀ k (hk : k < zs.length) w1, Below w.heap.size w w1 → Calls Try.prog 79 #[r, .agg #[.int .i64 zs[k].1.kd, .int .i64 zs[k].1.st, .int .i64 zs[k].1.ea, zs[k].2]] w1 fun e w2 => e = .returned (.bool (p zs[k].1)) ∧ Below w1.heap.size w1 w2) :
    Calls Try.prog 78 #[v, .func (.func 79) #[r] #[]] w fun e w' => e = .returned (.int .i64 (idxL (fun z => p z.1) zs)) ∧ Below w.heap.size w w' := by
  obtain ⟨A, c, rfl, hl, r1⟩ := RdZs_at h
  clear h
  have R := Lib.hid r1; clear r1
  have Hf := Lib.hid hf; clear hf
  have HIS := Lib.hid (fun k (h : k < zs.length) => @idxL_is _ (fun z => p z.1) zs k h)
  have HNO := Lib.hid (@idxL_none _ (fun z => p z.1) zs)
  generalize idxL (fun z => p z.1) zs = G at *
  go_enter Try.func78, Try.ntmps78
  go_wp2_with fail
  go_loopw [8] (fun i wr => ∃ k : Nat, k ≤ zs.length ∧ i = .int .i64 k ∧ (∀ j (hj : j < zs.length), j < k → p zs[j].1 = false) ∧ Below w.heap.size w wr) (fun i _ => zs.length - (intOf i).toNat)
  case atStart => exact ⟨0, by omega, rfl, fun j _ h => by omega, Below.refl _ _⟩
  case round =>
    obtain ⟨k, hk, rfl, hall, hb⟩ := hrel
    by_cases hlt : k < zs.length
    · obtain ⟨b, off, rfl, hz⟩ := R.out k hlt
      obtain ⟨hbl, ⟨hc0, hc1, hc2, hc3⟩, hrz⟩ := ZnAt_kept hz hb
      have hc := fun u (hu : Below wr.heap.size wr u) => Hf.out k hlt u (kept_trans hb hu)
      obtain ⟨Az, cz, ez, _, _⟩ := RdP_slice hrz
      rw [ez] at hc3 hc
      clear hz hrz ez
      cases hp : p zs[k].1
      · have hnx : ∀ j (hj : j < zs.length), j < k + 1 → p zs[j].1 = false := fun j hj hjk => by
          rcases Nat.lt_or_ge j k with h1 | h1
          · exact hall j hj h1
          · obtain rfl : j = k := by omega
            exact hp
        rw [hp] at hc
        have HNX := Lib.hid hnx; clear hnx hall hp
        have Hc := Lib.hid hc; clear hc
        generalize zs[k].1 = x at *
        obtain ⟨kd, st, ea, cs⟩ := x
        dsimp only at *
        go_wp2_with fail
        refine (Hc.out _ (by go_grown)).mono ?_
        rintro e w1 ⟨rfl, hb1⟩
        replace hb1 := kept_trans (a := wr) (by go_grown) hb1
        go_wp2
        go_roundw
        case rel => exact ⟨k + 1, by omega, by go_num, HNX.out, kept_trans hb hb1⟩
        case measure => simp [intOf]; omega
      · have hE := HIS.out k hlt hp hall
        subst hE
        rw [hp] at hc
        have Hc := Lib.hid hc; clear hc hall hp
        generalize zs[k].1 = x at *
        obtain ⟨kd, st, ea, cs⟩ := x
        dsimp only at *
        go_wp2_with fail
        refine (Hc.out _ (by go_grown)).mono ?_
        rintro e w1 ⟨rfl, hb1⟩
        replace hb1 := kept_trans (a := wr) (by go_grown) hb1
        go_wp2
        go_ret
        exact ⟨rfl, kept_trans hb hb1⟩
    · have : k = zs.length := by omega
      subst this
      have hE := HNO.out (fun j hj => hall j hj hj)
      clear hall
      subst hE
      go_wp2
      go_ret
      exact ⟨rfl, hb⟩

set_option maxHeartbeats 1000000 in
theorem specFB_any (v : Value) (ks : List (Zn × Value)) (p q : Int × Int) (h : Int) (w : World) (hr : RdZs w v ks) :
    Calls Try.prog 27 #[v, .agg #[.int .i64 p.1, .int .i64 p.2], .agg #[.int .i64 q.1, .int .i64 q.2], .int .i64 h] w fun e w' => e = .returned (.tuple #[.int .i64 (firstL ks p q h).1, .int .i64 (firstL ks p q h).2]) ∧ Below w.heap.size w w' := by
  have hL := fun u (x : RdZs u v ks) => specList_any v ks u x
  have hP := fun u => specOk_any p.1 p.2 u
  have hQ := fun u => specOk_any q.1 q.2 u
  have hH := fun u => specHeight_any h u
  unfold firstL
  cases hz : zonesB ks
  · rw [hz] at hL
    have HL := Lib.hid hL; clear hL hP hQ hH hz
    obtain ⟨A, cp, rfl, _, _⟩ := RdZs_at hr
    have H := Lib.hid hr; clear hr
    obtain ⟨px, py⟩ := p
    obtain ⟨qx, qy⟩ := q
    dsimp only at *
    go_enter Try.func27, Try.ntmps27
    go_wp2_with fail
    refine (HL.out _ (RdZs_kept H.out (by go_grown))).mono ?_
    rintro e w1 ⟨rfl, hb1⟩
    refine kept_at hb1 w.heap.size (by go_size) fun c1_0 z1_0 s1_0 => ?_
    refine kept_at hb1 (w.heap.size + 1) (by go_size) fun c1_1 z1_1 s1_1 => ?_
    have b1 := kept_trans (a := w) (by go_grown) hb1
    go_wp2
    go_ret2
    exact ⟨rfl, b1⟩
  · cases hp : okP p.1 p.2
    · rw [hz] at hL
      rw [hp] at hP
      have HL := Lib.hid hL; clear hL hz
      have HP := Lib.hid hP; clear hP hp hQ hH
      obtain ⟨A, cp, rfl, _, _⟩ := RdZs_at hr
      have H := Lib.hid hr; clear hr
      obtain ⟨px, py⟩ := p
      obtain ⟨qx, qy⟩ := q
      dsimp only at *
      go_enter Try.func27, Try.ntmps27
      go_wp2_with fail
      refine (HL.out _ (RdZs_kept H.out (by go_grown))).mono ?_
      rintro e w1 ⟨rfl, hb1⟩
      refine kept_at hb1 w.heap.size (by go_size) fun c1_0 z1_0 s1_0 => ?_
      refine kept_at hb1 (w.heap.size + 1) (by go_size) fun c1_1 z1_1 s1_1 => ?_
      have b1 := kept_trans (a := w) (by go_grown) hb1
      go_wp2_with fail
      refine (HP.out _).mono ?_
      rintro e w2 ⟨rfl, hb2⟩
      refine kept_at hb2 w.heap.size (by go_size) fun c2_0 z2_0 s2_0 => ?_
      refine kept_at hb2 (w.heap.size + 1) (by go_size) fun c2_1 z2_1 s2_1 => ?_
      have b2 := kept_trans b1 hb2
      go_wp2
      go_ret2
      exact ⟨rfl, b2⟩
    · cases hq : okP q.1 q.2
      · rw [hz] at hL
        rw [hp] at hP
        rw [hq] at hQ
        have HL := Lib.hid hL; clear hL hz
        have HP := Lib.hid hP; clear hP hp
        have HQ := Lib.hid hQ; clear hQ hq hH
        obtain ⟨A, cp, rfl, _, _⟩ := RdZs_at hr
        have H := Lib.hid hr; clear hr
        obtain ⟨px, py⟩ := p
        obtain ⟨qx, qy⟩ := q
        dsimp only at *
        go_enter Try.func27, Try.ntmps27
        go_wp2_with fail
        refine (HL.out _ (RdZs_kept H.out (by go_grown))).mono ?_
        rintro e w1 ⟨rfl, hb1⟩
        refine kept_at hb1 w.heap.size (by go_size) fun c1_0 z1_0 s1_0 => ?_
        refine kept_at hb1 (w.heap.size + 1) (by go_size) fun c1_1 z1_1 s1_1 => ?_
        have b1 := kept_trans (a := w) (by go_grown) hb1
        go_wp2_with fail
        refine (HP.out _).mono ?_
        rintro e w2 ⟨rfl, hb2⟩
        refine kept_at hb2 w.heap.size (by go_size) fun c2_0 z2_0 s2_0 => ?_
        refine kept_at hb2 (w.heap.size + 1) (by go_size) fun c2_1 z2_1 s2_1 => ?_
        have b2 := kept_trans b1 hb2
        go_wp2_with fail
        refine (HQ.out _).mono ?_
        rintro e w3 ⟨rfl, hb3⟩
        refine kept_at hb3 w.heap.size (by go_size) fun c3_0 z3_0 s3_0 => ?_
        refine kept_at hb3 (w.heap.size + 1) (by go_size) fun c3_1 z3_1 s3_1 => ?_
        have b3 := kept_trans b2 hb3
        go_wp2
        go_ret2
        exact ⟨rfl, b3⟩
      · cases hh : inB h 0 2000
        · rw [hz] at hL
          rw [hp] at hP
          rw [hq] at hQ
          rw [hh] at hH
          have HL := Lib.hid hL; clear hL hz
          have HP := Lib.hid hP; clear hP hp
          have HQ := Lib.hid hQ; clear hQ hq
          have HH := Lib.hid hH; clear hH hh
          obtain ⟨A, cp, rfl, _, _⟩ := RdZs_at hr
          have H := Lib.hid hr; clear hr
          obtain ⟨px, py⟩ := p
          obtain ⟨qx, qy⟩ := q
          dsimp only at *
          go_enter Try.func27, Try.ntmps27
          go_wp2_with fail
          refine (HL.out _ (RdZs_kept H.out (by go_grown))).mono ?_
          rintro e w1 ⟨rfl, hb1⟩
          refine kept_at hb1 w.heap.size (by go_size) fun c1_0 z1_0 s1_0 => ?_
          refine kept_at hb1 (w.heap.size + 1) (by go_size) fun c1_1 z1_1 s1_1 => ?_
          have b1 := kept_trans (a := w) (by go_grown) hb1
          go_wp2_with fail
          refine (HP.out _).mono ?_
          rintro e w2 ⟨rfl, hb2⟩
          refine kept_at hb2 w.heap.size (by go_size) fun c2_0 z2_0 s2_0 => ?_
          refine kept_at hb2 (w.heap.size + 1) (by go_size) fun c2_1 z2_1 s2_1 => ?_
          have b2 := kept_trans b1 hb2
          go_wp2_with fail
          refine (HQ.out _).mono ?_
          rintro e w3 ⟨rfl, hb3⟩
          refine kept_at hb3 w.heap.size (by go_size) fun c3_0 z3_0 s3_0 => ?_
          refine kept_at hb3 (w.heap.size + 1) (by go_size) fun c3_1 z3_1 s3_1 => ?_
          have b3 := kept_trans b2 hb3
          go_wp2_with fail
          refine (HH.out _).mono ?_
          rintro e w4 ⟨rfl, rfl⟩
          go_wp2
          go_ret2
          exact ⟨rfl, b3⟩
        · exact specFirst_loop v ks p q h w hr hz hp hq hh

set_option maxHeartbeats 1000000 in
theorem implFB_any (v : Value) (ks : List (Zn × Value)) (p q : Int × Int) (h : Int) (w : World) (hr : RdZs w v ks) :
    Calls Try.prog 30 #[v, .agg #[.int .i64 p.1, .int .i64 p.2], .agg #[.int .i64 q.1, .int .i64 q.2], .int .i64 h] w fun e w' => e = .returned (.tuple #[.int .i64 (firstL ks p q h).1, .int .i64 (firstL ks p q h).2]) ∧ Below w.heap.size w w' := by
  have hL := fun u (x : RdZs u v ks) => validZones_any v ks u x
  have hP := fun u => validPlace_any p.1 p.2 u
  have hQ := fun u => validPlace_any q.1 q.2 u
  have hH := fun u => validHeight_any h u
  unfold firstL
  cases hz : zonesB ks
  · rw [hz] at hL
    have HL := Lib.hid hL; clear hL hP hQ hH hz
    obtain ⟨A, cp, rfl, _, _⟩ := RdZs_at hr
    have H := Lib.hid hr; clear hr
    obtain ⟨px, py⟩ := p
    obtain ⟨qx, qy⟩ := q
    dsimp only at *
    go_enter Try.func30, Try.ntmps30
    go_wp2_with fail
    refine (HL.out _ (RdZs_kept H.out (by go_grown))).mono ?_
    rintro e w1 ⟨rfl, hb1⟩
    refine kept_at hb1 w.heap.size (by go_size) fun c1_0 z1_0 s1_0 => ?_
    refine kept_at hb1 (w.heap.size + 1) (by go_size) fun c1_1 z1_1 s1_1 => ?_
    have b1 := kept_trans (a := w) (by go_grown) hb1
    go_wp2
    go_ret2
    exact ⟨rfl, b1⟩
  · cases hp : okP p.1 p.2
    · rw [hz] at hL
      rw [hp] at hP
      have HL := Lib.hid hL; clear hL hz
      have HP := Lib.hid hP; clear hP hp hQ hH
      obtain ⟨A, cp, rfl, _, _⟩ := RdZs_at hr
      have H := Lib.hid hr; clear hr
      obtain ⟨px, py⟩ := p
      obtain ⟨qx, qy⟩ := q
      dsimp only at *
      go_enter Try.func30, Try.ntmps30
      go_wp2_with fail
      refine (HL.out _ (RdZs_kept H.out (by go_grown))).mono ?_
      rintro e w1 ⟨rfl, hb1⟩
      refine kept_at hb1 w.heap.size (by go_size) fun c1_0 z1_0 s1_0 => ?_
      refine kept_at hb1 (w.heap.size + 1) (by go_size) fun c1_1 z1_1 s1_1 => ?_
      have b1 := kept_trans (a := w) (by go_grown) hb1
      go_wp2_with fail
      refine (HP.out _).mono ?_
      rintro e w2 ⟨rfl, hb2⟩
      refine kept_at hb2 w.heap.size (by go_size) fun c2_0 z2_0 s2_0 => ?_
      refine kept_at hb2 (w.heap.size + 1) (by go_size) fun c2_1 z2_1 s2_1 => ?_
      have b2 := kept_trans b1 hb2
      go_wp2
      go_ret2
      exact ⟨rfl, b2⟩
    · cases hq : okP q.1 q.2
      · rw [hz] at hL
        rw [hp] at hP
        rw [hq] at hQ
        have HL := Lib.hid hL; clear hL hz
        have HP := Lib.hid hP; clear hP hp
        have HQ := Lib.hid hQ; clear hQ hq hH
        obtain ⟨A, cp, rfl, _, _⟩ := RdZs_at hr
        have H := Lib.hid hr; clear hr
        obtain ⟨px, py⟩ := p
        obtain ⟨qx, qy⟩ := q
        dsimp only at *
        go_enter Try.func30, Try.ntmps30
        go_wp2_with fail
        refine (HL.out _ (RdZs_kept H.out (by go_grown))).mono ?_
        rintro e w1 ⟨rfl, hb1⟩
        refine kept_at hb1 w.heap.size (by go_size) fun c1_0 z1_0 s1_0 => ?_
        refine kept_at hb1 (w.heap.size + 1) (by go_size) fun c1_1 z1_1 s1_1 => ?_
        have b1 := kept_trans (a := w) (by go_grown) hb1
        go_wp2_with fail
        refine (HP.out _).mono ?_
        rintro e w2 ⟨rfl, hb2⟩
        refine kept_at hb2 w.heap.size (by go_size) fun c2_0 z2_0 s2_0 => ?_
        refine kept_at hb2 (w.heap.size + 1) (by go_size) fun c2_1 z2_1 s2_1 => ?_
        have b2 := kept_trans b1 hb2
        go_wp2_with fail
        refine (HQ.out _).mono ?_
        rintro e w3 ⟨rfl, hb3⟩
        refine kept_at hb3 w.heap.size (by go_size) fun c3_0 z3_0 s3_0 => ?_
        refine kept_at hb3 (w.heap.size + 1) (by go_size) fun c3_1 z3_1 s3_1 => ?_
        have b3 := kept_trans b2 hb3
        go_wp2
        go_ret2
        exact ⟨rfl, b3⟩
      · cases hh : inB h 0 2000
        · rw [hz] at hL
          rw [hp] at hP
          rw [hq] at hQ
          rw [hh] at hH
          have HL := Lib.hid hL; clear hL hz
          have HP := Lib.hid hP; clear hP hp
          have HQ := Lib.hid hQ; clear hQ hq
          have HH := Lib.hid hH; clear hH hh
          obtain ⟨A, cp, rfl, _, _⟩ := RdZs_at hr
          have H := Lib.hid hr; clear hr
          obtain ⟨px, py⟩ := p
          obtain ⟨qx, qy⟩ := q
          dsimp only at *
          go_enter Try.func30, Try.ntmps30
          go_wp2_with fail
          refine (HL.out _ (RdZs_kept H.out (by go_grown))).mono ?_
          rintro e w1 ⟨rfl, hb1⟩
          refine kept_at hb1 w.heap.size (by go_size) fun c1_0 z1_0 s1_0 => ?_
          refine kept_at hb1 (w.heap.size + 1) (by go_size) fun c1_1 z1_1 s1_1 => ?_
          have b1 := kept_trans (a := w) (by go_grown) hb1
          go_wp2_with fail
          refine (HP.out _).mono ?_
          rintro e w2 ⟨rfl, hb2⟩
          refine kept_at hb2 w.heap.size (by go_size) fun c2_0 z2_0 s2_0 => ?_
          refine kept_at hb2 (w.heap.size + 1) (by go_size) fun c2_1 z2_1 s2_1 => ?_
          have b2 := kept_trans b1 hb2
          go_wp2_with fail
          refine (HQ.out _).mono ?_
          rintro e w3 ⟨rfl, hb3⟩
          refine kept_at hb3 w.heap.size (by go_size) fun c3_0 z3_0 s3_0 => ?_
          refine kept_at hb3 (w.heap.size + 1) (by go_size) fun c3_1 z3_1 s3_1 => ?_
          have b3 := kept_trans b2 hb3
          go_wp2_with fail
          refine (HH.out _).mono ?_
          rintro e w4 ⟨rfl, rfl⟩
          go_wp2
          go_ret2
          exact ⟨rfl, b3⟩
        · have HI := Lib.hid (fun u (x : RdZs u v ks) => indexStop_any v ks (.agg #[.int .i64 p.1, .int .i64 p.2, .int .i64 q.1, .int .i64 q.2, .int .i64 h]) (stopB p q h) u x (fun k hk w1 hb => loadStopped_any ks[k].1 ks[k].2 p q h w1 (RdP_kept (x.2 _ (List.getElem_mem hk)) hb) ((zonesB_at hz).2 k hk) (near0_ok hp) (near0_ok hq)))
          rw [hz] at hL
          rw [hp] at hP
          rw [hq] at hQ
          rw [hh] at hH
          have HL := Lib.hid hL; clear hL hz
          have HP := Lib.hid hP; clear hP hp
          have HQ := Lib.hid hQ; clear hQ hq
          have HH := Lib.hid hH; clear hH hh
          generalize idxL (fun z => stopB p q h z.1) ks = G at *
          obtain ⟨A, cp, rfl, _, _⟩ := RdZs_at hr
          have H := Lib.hid hr; clear hr
          obtain ⟨px, py⟩ := p
          obtain ⟨qx, qy⟩ := q
          dsimp only at *
          go_enter Try.func30, Try.ntmps30
          go_wp2_with fail
          refine (HL.out _ (RdZs_kept H.out (by go_grown))).mono ?_
          rintro e w1 ⟨rfl, hb1⟩
          refine kept_at hb1 w.heap.size (by go_size) fun c1_0 z1_0 s1_0 => ?_
          refine kept_at hb1 (w.heap.size + 1) (by go_size) fun c1_1 z1_1 s1_1 => ?_
          have b1 := kept_trans (a := w) (by go_grown) hb1
          go_wp2_with fail
          refine (HP.out _).mono ?_
          rintro e w2 ⟨rfl, hb2⟩
          refine kept_at hb2 w.heap.size (by go_size) fun c2_0 z2_0 s2_0 => ?_
          refine kept_at hb2 (w.heap.size + 1) (by go_size) fun c2_1 z2_1 s2_1 => ?_
          have b2 := kept_trans b1 hb2
          go_wp2_with fail
          refine (HQ.out _).mono ?_
          rintro e w3 ⟨rfl, hb3⟩
          refine kept_at hb3 w.heap.size (by go_size) fun c3_0 z3_0 s3_0 => ?_
          refine kept_at hb3 (w.heap.size + 1) (by go_size) fun c3_1 z3_1 s3_1 => ?_
          have b3 := kept_trans b2 hb3
          go_wp2_with fail
          refine (HH.out _).mono ?_
          rintro e w4 ⟨rfl, rfl⟩
          have d1 : w3.cell? ⟨w.heap.size, 0, none⟩ = some (.int .i64 px) := by rw [c3_0, c2_0, c1_0]; simp
          have d2 : w3.cell? ⟨w.heap.size, 1, none⟩ = some (.int .i64 py) := by rw [c3_0, c2_0, c1_0]; simp
          have d3 : w3.cell? ⟨w.heap.size + 1, 0, none⟩ = some (.int .i64 qx) := by rw [c3_1, c2_1, c1_1]; simp
          have d4 : w3.cell? ⟨w.heap.size + 1, 1, none⟩ = some (.int .i64 qy) := by rw [c3_1, c2_1, c1_1]; simp
          clear c1_0 c1_1 c2_0 c2_1 c3_0 c3_1
          go_wp2_with fail
          refine (HI.out _ (RdZs_kept H.out (kept_trans b3 (by go_grown)))).mono ?_
          rintro e w5 ⟨rfl, hb5⟩
          have b5 := kept_trans (a := w) (kept_trans b3 (by go_grown)) hb5
          go_wp2
          go_ret2
          exact ⟨rfl, b5⟩

/-- What is known of an argument's zones. -/
def wfZs (ks : List (Zn × Value)) : Prop := (∀ p ∈ ks, wfZ p.1) ∧ ks.length ≤ maxLen

set_option maxRecDepth 100000 in
/-- Cells that read as a slice of zones. -/
theorem open_zonesC {H : Type} {enc : TypeId × Value → H} {W : World} {base fuel : Nat} {sp : Nat → Bool} {held : Bool} {cs : List Value} {z : DataW H × List MemPlace}
    (h : DataW.trod enc Try.prog W base sp held fuel 49 cs = some z) : ∃ (v : Value) (ks : List (Zn × Value)), cs = [v] ∧ RdZs W v ks ∧ wfZs ks ∧ DataLen z.1 ks.length := by
  rcases Deep.open_slice Try.underlying49 h with ⟨hcs, hx⟩ | ⟨a, len, cap, m, n, D, Pl, hcs, _, hl, hm, hmm, hx, hi⟩
  · exact ⟨_, [], hcs, ⟨⟨by simp, rfl, none, 0, rfl, fun i hi => by simp at hi⟩, fun p h => by cases h⟩, ⟨(fun p h => by cases h), by simp⟩, Or.inl ⟨by rw [hx], rfl⟩⟩
  · have hlm : len ≤ m := by rw [hmm]; split <;> omega
    have ce : Try.prog.cellsOf 93 = 4 := by kernel_rfl
    have each : ∀ i, i < len → ∃ q : Option (Zn × Value), ∃ p, q = some p ∧ W.cells? base (a.add (i * 4)) 4 = some (encZn p) ∧ RdP W p.2 p.1.cs ∧ wfZ p.1 := by
      intro i hlt
      obtain ⟨cs', g0, g1⟩ := hi i (by omega)
      obtain ⟨k, c, e, hr, wk⟩ := open_zoneC g1
      rw [ce, e] at g0
      exact ⟨some (k, c), (k, c), rfl, g0, hr, wk⟩
    obtain ⟨q, hq⟩ := Deep.choose_lt each
    have each2 : ∀ i, i < len → (q i).isSome = true := fun i hi => by obtain ⟨p, e, _⟩ := hq i hi; rw [e]; rfl
    obtain ⟨b, off, spot⟩ := a
    let ks : List (Zn × Value) := (List.range len).attach.map fun i => (q i.1).get (each2 i.1 (List.mem_range.1 i.2))
    have hkl : ks.length = len := by simp [ks]
    have hks : ∀ i (hi : i < ks.length), ∃ p, ks[i] = p ∧ q i = some p := by
      intro i hi
      refine ⟨ks[i], rfl, ?_⟩
      simp [ks]
    refine ⟨_, ks, hcs, ⟨⟨by rw [hkl]; unfold maxLen at hm; omega, by rw [flatZn_len], some ⟨b, off, spot⟩, cap, by rw [hkl], fun j hj => ?_⟩, ?_⟩, ⟨?_, by rw [hkl]; omega⟩, Or.inr ⟨_, _, by rw [hx], by rw [hkl]; simp⟩⟩
    · rw [hkl] at hj
      obtain ⟨p, e, hc, _⟩ := hq (j / 4) (by omega)
      obtain ⟨p', e', e2⟩ := hks (j / 4) (by omega)
      rw [e] at e2
      cases e2
      obtain ⟨_, _, hcell⟩ := World.cells?_some hc
      have hspot : spot = none := by
        obtain ⟨p0, _, hc0, _⟩ := hq 0 (by omega)
        obtain ⟨_, _, hcell0⟩ := World.cells?_some hc0
        have := hcell0 0 (by omega)
        rw [show (encZn p0)[0]? = some (.int .i64 p0.1.kd) from rfl] at this
        simpa [Addr.add] using World.cell?_spot this
      subst hspot
      have h4 := hcell (j % 4) (by omega)
      rw [add_plain, add_plain, ← e'] at h4
      rw [← flatZn_at ks (j / 4) (j % 4) (by omega) (by omega), show j / 4 * 4 + j % 4 = j by omega, Nat.add_assoc, show j / 4 * 4 + j % 4 = j by omega] at h4
      refine ⟨b, off, rfl, ?_, h4⟩
      have hx : (flatZn ks)[j]? = some ((flatZn ks)[j]'(by rw [flatZn_len]; omega)) := List.getElem?_eq_getElem _
      rw [hx] at h4
      exact World.block_lt_of_cell? _ _ h4
    · intro p hp
      obtain ⟨i, hi, rfl⟩ := List.mem_iff_getElem.1 hp
      obtain ⟨p, e, e2⟩ := hks i hi
      obtain ⟨p', e', _, hr, _⟩ := hq i (by omega)
      rw [e'] at e2
      cases e2
      rw [e]
      exact hr
    · intro p hp
      obtain ⟨i, hi, rfl⟩ := List.mem_iff_getElem.1 hp
      obtain ⟨p, e, e2⟩ := hks i hi
      obtain ⟨p', e', _, hr, hw⟩ := hq i (by omega)
      rw [e'] at e2
      cases e2
      rw [e]
      exact hw

set_option maxRecDepth 100000 in
/-- An argument that is a slice of zones. -/
theorem open_zones {H : Type} {enc : TypeId × Value → H} {W : World} {base : Nat} {v : Value} {d : DataW H} {p : List MemPlace}
    (hv : Value.okWide Try.prog W .any base 49 v) (h : DataW.Trod enc Try.prog W 0 (fun _ => true) true 49 v d p) :
    ∃ ks : List (Zn × Value), RdZs W v ks ∧ wfZs ks := by
  obtain ⟨a1, len, cap, rfl⟩ := okWide_slice Try.underlying49 hv
  obtain ⟨fuel, hf⟩ := h
  obtain ⟨v, ks, e, hr, hw, _⟩ := open_zonesC (show DataW.trod enc Try.prog W 0 (fun _ => true) true fuel 49 [.slice a1 len cap] = some (d, p) from by simpa [Value.cells] using hf)
  simp only [List.cons.injEq, and_true] at e
  subst e
  exact ⟨ks, hr, hw⟩

theorem zonesB_congr {ks T : List (Zn × Value)} (m : T.map (·.1) = ks.map (·.1)) : zonesB T = zonesB ks := by
  have hl : T.length = ks.length := by simpa using congrArg List.length m
  have e : ∀ zs : List (Zn × Value), (zs.all fun z => zoneB z.1) = (zs.map (·.1)).all zoneB := fun zs => by rw [List.all_map]; rfl
  unfold zonesB
  rw [hl, e, e, m]

theorem idxL_map {α β : Type} (f : α → β) (p : β → Bool) (zs : List α) : idxL (fun z => p (f z)) zs = idxL p (zs.map f) := by
  unfold idxL
  rw [List.length_map, List.findIdx_map]
  rfl

theorem firstL_congr {ks T : List (Zn × Value)} (m : T.map (·.1) = ks.map (·.1)) (p q : Int × Int) (h : Int) : firstL T p q h = firstL ks p q h := by
  unfold firstL
  rw [zonesB_congr m, idxL_map (·.1) (stopB p q h) T, idxL_map (·.1) (stopB p q h) ks, m]

theorem toZs_trueQ (v : Value) (ks : List (Zn × Value)) (w : World) (h : RdZs w v ks) (hn : ks.length ≤ 1000000) (hch : ∀ p ∈ ks, p.1.cs.length ≤ 1000000) :
    Calls Try.prog 28 #[v, .bool true] w fun e w' => ∃ v' T, e = .returned v' ∧ RdZs w' v' T ∧ T.map (·.1) = ks.map (·.1) ∧ Below w.heap.size w w' :=
  (toZs_true v ks w h hn hch).mono fun e w' ⟨v', he, hs, hb⟩ => by
    rcases hs with ⟨rfl, rfl⟩ | hs
    · exact ⟨_, [], he, ⟨⟨by simp, rfl, none, 0, rfl, fun i hi => by simp at hi⟩, fun p h => by cases h⟩, rfl, hb⟩
    · obtain ⟨T, r, m⟩ := ZsQ_rd (fun _ _ _ _ _ h => RowF_rd h) hs
      exact ⟨v', T, he, r, m, hb⟩

set_option maxHeartbeats 20000000 in
theorem walk_FnExactFirstBlocking (w : World) (v : Value) (ks : List (Zn × Value)) (hr : RdZs w v ks) (hk : wfZs ks) (px1 : Int) (wx1 : (Lit.int .i64 px1).wf = true) (py1 : Int) (wy1 : (Lit.int .i64 py1).wf = true) (px2 : Int) (wx2 : (Lit.int .i64 px2).wf = true) (py2 : Int) (wy2 : (Lit.int .i64 py2).wf = true) (hh : Int) (wh : (Lit.int .i64 hh).wf = true) :
    Calls Try.prog 5 #[v, .agg #[.int .i64 px1, .int .i64 py1], .agg #[.int .i64 px2, .int .i64 py2], .int .i64 hh] w fun e w' => e = .returned (.bool true) ∧ Below w.heap.size w w' := by
  obtain ⟨A, cp, rfl, _, _⟩ := RdZs_at hr
  have H := Lib.hid hr; clear hr hk
  have HZ := fun u q => szZs_any (.slice A ks.length cp) ks 1000000 u q (by omega)
  by_cases hfit : (ks.length : Int) + totZ ks ≤ 1000000
  case neg =>
    simp only [if_neg hfit] at HZ
    have HZ := Lib.hid HZ
    clear hfit
    go_enter Try.func5, Try.ntmps5
    go_wp2_with fail
    refine (HZ.out _ (RdZs_kept H.out (by go_grown))).mono ?_
    rintro e w1 ⟨rfl, b1⟩
    replace b1 := kept_trans (a := w) (by go_grown) b1
    have l1 := kept_cell b1
    have zz1 := b1.size
    go_wp2
    go_ret
    exact ⟨rfl, b1⟩
  simp only [if_pos hfit] at HZ
  have HZ := Lib.hid HZ
  have hn1 : ks.length ≤ 1000000 := by omega
  have hch : ∀ p ∈ ks, p.1.cs.length ≤ 1000000 := fun p hp => by have := totZ_mem hp; omega
  have HF := Lib.hid (fun u (q : RdZs u (.slice A ks.length cp) ks) => toZs_false _ ks u q hn1 hch)
  have HT := Lib.hid (fun u (q : RdZs u (.slice A ks.length cp) ks) => toZs_trueQ _ ks u q hn1 hch)
  have HS := fun c T u (q : RdZs u c T) (m : T.map (·.1) = ks.map (·.1)) => specFB_any c T (px1, py1) (px2, py2) hh u q
  have HV := fun c T u (q : RdZs u c T) (m : T.map (·.1) = ks.map (·.1)) => implFB_any c T (px1, py1) (px2, py2) hh u q
  replace HS := fun c T u q m => firstL_congr m (px1, py1) (px2, py2) hh ▸ HS c T u q m
  replace HV := fun c T u q m => firstL_congr m (px1, py1) (px2, py2) hh ▸ HV c T u q m
  have HS := Lib.hid HS
  have HV := Lib.hid HV
  have HX := Lib.hid (fun c1 c2 lo1 hi1 lo2 hi2 u h1 h2 => intactZs_same c1 c2 (ks.map (·.1)) lo1 hi1 lo2 hi2 u h1 h2)
  have hle : (0 : Int) ≤ 1000000 - ks.length - totZ ks := by omega
  clear hch hfit
  generalize firstL ks (px1, py1) (px2, py2) hh = R at *
  obtain ⟨la, lb⟩ := R
  generalize ks.map (·.1) = ms at *
  generalize (totZ ks : Int) = tk at *
  dsimp only at *
  go_enter Try.func5, Try.ntmps5
  go_wp2_with fail
  refine (HZ.out _ (RdZs_kept H.out (by go_grown))).mono ?_
  rintro e w1 ⟨rfl, b1⟩
  refine kept_at b1 (w.heap.size) (by go_size) fun c1_0 z1_0 s1_0 => ?_
  refine kept_at b1 (w.heap.size + 1) (by go_size) fun c1_1 z1_1 s1_1 => ?_
  replace b1 := kept_trans (a := w) (by go_grown) b1
  have l1 := kept_cell b1
  have zz1 := b1.size
  have fpx1 : w1.cell? ⟨w.heap.size, 0, none⟩ = some (.int .i64 px1) := by rw [c1_0]; first | (simp; done) | (go_simp; done) | (simp [World.cell?_alloc_past, World.frozen?_alloc_past]; done)
  have fpy1 : w1.cell? ⟨w.heap.size, 1, none⟩ = some (.int .i64 py1) := by rw [c1_0]; first | (simp; done) | (go_simp; done) | (simp [World.cell?_alloc_past, World.frozen?_alloc_past]; done)
  have fpx2 : w1.cell? ⟨w.heap.size + 1, 0, none⟩ = some (.int .i64 px2) := by rw [c1_1]; first | (simp; done) | (go_simp; done) | (simp [World.cell?_alloc_past, World.frozen?_alloc_past]; done)
  have fpy2 : w1.cell? ⟨w.heap.size + 1, 1, none⟩ = some (.int .i64 py2) := by rw [c1_1]; first | (simp; done) | (go_simp; done) | (simp [World.cell?_alloc_past, World.frozen?_alloc_past]; done)
  clear c1_0 c1_1
  go_wp2_with fail
  go_cut [10, 11] (fun sa sb w' => sa = .int .i64 la ∧ sb = .int .i64 lb ∧ Below w1.heap.size w1 w')
  case first =>
    go_region_held3 (fun w' => w'.cell? ⟨w.heap.size, 0, none⟩ = some (.int .i64 px1) ∧ w'.cell? ⟨w.heap.size, 1, none⟩ = some (.int .i64 py1) ∧ w'.cell? ⟨w.heap.size + 1, 0, none⟩ = some (.int .i64 px2) ∧ w'.cell? ⟨w.heap.size + 1, 1, none⟩ = some (.int .i64 py2)) (go_keep) (first
      | (go_at_call 27; refine (HS.out _ _ _ hps2 m2).mono ?_; rintro e w4 ⟨rfl, hb4⟩; refine kept_at hb4 (w.heap.size) (by go_size) fun c4h_0 z4h_0 s4h_0 => ?_; refine kept_at hb4 (w.heap.size + 1) (by go_size) fun c4h_1 z4h_1 s4h_1 => ?_; have k4 := kept_trans (a := w1) kqs2 hb4)
      | (go_at_call 29; have hqs2 := hps1; refine (toPoint_any _ _ _).mono ?_; rintro e wps2 ⟨rfl, hbqs2⟩; refine kept_at hbqs2 (w.heap.size) (by go_size) fun cqs2_0 zqs2_0 sqs2_0 => ?_; refine kept_at hbqs2 (w.heap.size + 1) (by go_size) fun cqs2_1 zqs2_1 sqs2_1 => ?_; have hps2 := RdZs_kept hps1 (kept_trans (a := wps1) (by go_grown) hbqs2); have kqs2 := kept_trans (a := w1) (by go_grown) hbqs2)
      | (go_at_call 29; have hqs1 := hc2; refine (toPoint_any _ _ _).mono ?_; rintro e wps1 ⟨rfl, hbqs1⟩; refine kept_at hbqs1 (w.heap.size) (by go_size) fun cqs1_0 zqs1_0 sqs1_0 => ?_; refine kept_at hbqs1 (w.heap.size + 1) (by go_size) fun cqs1_1 zqs1_1 sqs1_1 => ?_; have hps1 := RdZs_kept hc2 (kept_trans (a := w2) (by go_grown) hbqs1); have kqs1 := kept_trans (a := w1) (by go_grown) hbqs1)
      | (go_at_call 28; refine (HF.out _ (RdZs_kept H.out (by go_grown))).mono ?_; rintro e w2 ⟨c2, rfl, hc2, hb2⟩; obtain ⟨T2, r2, m2⟩ := ZsC_rd hc2; clear hc2; obtain ⟨A2, cp2, rfl, _, _⟩ := RdZs_at r2; have hc2 := r2; refine kept_at hb2 (w.heap.size) (by go_size) fun c2_0 z2_0 s2_0 => ?_; refine kept_at hb2 (w.heap.size + 1) (by go_size) fun c2_1 z2_1 s2_1 => ?_; have k2 := kept_trans (a := w1) (by go_grown) hb2))
    all_goals
      go_wp2_with fail
      go_meet
      case rel => exact ⟨rfl, rfl, by first | exact k4 | assumption⟩
  case rest =>
  obtain ⟨rfl, rfl, hb5⟩ := hcut
  refine kept_at hb5 (w.heap.size) (by go_size) fun c5_0 z5_0 s5_0 => ?_
  refine kept_at hb5 (w.heap.size + 1) (by go_size) fun c5_1 z5_1 s5_1 => ?_
  have b5 := kept_trans b1 hb5
  go_wp2_with fail
  refine (HF.out _ (RdZs_kept H.out b5)).mono ?_
  rintro e w6 ⟨c6, rfl, hc6, hb6⟩
  refine kept_at hb6 (w.heap.size) (by go_size) fun c6_0 z6_0 s6_0 => ?_
  refine kept_at hb6 (w.heap.size + 1) (by go_size) fun c6_1 z6_1 s6_1 => ?_
  have b6 := kept_trans b5 hb6
  obtain ⟨T6, r6, m6⟩ := ZsC_rd hc6
  obtain ⟨A6, cp6, rfl, _, _⟩ := RdZs_at r6
  have HC6 := Lib.hid hc6; clear hc6
  have R6 := Lib.hid r6; clear r6
  go_wp2_with fail
  go_cut [13, 14] (fun sa sb w' => sa = .int .i64 la ∧ sb = .int .i64 lb ∧ Below w6.heap.size w6 w')
  case first =>
    go_region_held3 (fun w' => w'.cell? ⟨w.heap.size, 0, none⟩ = some (.int .i64 px1) ∧ w'.cell? ⟨w.heap.size, 1, none⟩ = some (.int .i64 py1) ∧ w'.cell? ⟨w.heap.size + 1, 0, none⟩ = some (.int .i64 px2) ∧ w'.cell? ⟨w.heap.size + 1, 1, none⟩ = some (.int .i64 py2)) (go_keep) (first
      | (go_at_call 30; refine (HV.out _ _ _ hpt2 m6).mono ?_; rintro e w8 ⟨rfl, hb8⟩; refine kept_at hb8 (w.heap.size) (by go_size) fun c8h_0 z8h_0 s8h_0 => ?_; refine kept_at hb8 (w.heap.size + 1) (by go_size) fun c8h_1 z8h_1 s8h_1 => ?_; have k8 := kept_trans (a := w6) kqt2 hb8)
      | (go_at_call 29; have hqt2 := hpt1; refine (toPoint_any _ _ _).mono ?_; rintro e wpt2 ⟨rfl, hbqt2⟩; refine kept_at hbqt2 (w.heap.size) (by go_size) fun cqt2_0 zqt2_0 sqt2_0 => ?_; refine kept_at hbqt2 (w.heap.size + 1) (by go_size) fun cqt2_1 zqt2_1 sqt2_1 => ?_; have hpt2 := RdZs_kept hpt1 (kept_trans (a := wpt1) (by go_grown) hbqt2); have kqt2 := kept_trans (a := w6) (by go_grown) hbqt2)
      | (go_at_call 29; have hqt1 := R6; refine (toPoint_any _ _ _).mono ?_; rintro e wpt1 ⟨rfl, hbqt1⟩; refine kept_at hbqt1 (w.heap.size) (by go_size) fun cqt1_0 zqt1_0 sqt1_0 => ?_; refine kept_at hbqt1 (w.heap.size + 1) (by go_size) fun cqt1_1 zqt1_1 sqt1_1 => ?_; have hpt1 := RdZs_kept R6.out (kept_trans (a := w6) (by go_grown) hbqt1); have kqt1 := kept_trans (a := w6) (by go_grown) hbqt1))
    all_goals
      go_wp2_with fail
      go_meet
      case rel => exact ⟨rfl, rfl, by first | exact k8 | assumption⟩
  case rest =>
  obtain ⟨rfl, rfl, hb9⟩ := hcut
  refine kept_at hb9 (w.heap.size) (by go_size) fun c9_0 z9_0 s9_0 => ?_
  refine kept_at hb9 (w.heap.size + 1) (by go_size) fun c9_1 z9_1 s9_1 => ?_
  have b9 := kept_trans b6 hb9
  replace HC6 := Lib.hid (ZsC_kept HC6.out hb9)
  clear R6
  go_wp2_with fail
  refine (HF.out _ (RdZs_kept H.out (kept_trans b9 (by go_grown)))).mono ?_
  rintro e w10 ⟨c10, rfl, hc10, hb10⟩
  refine kept_at hb10 (w.heap.size) (by go_size) fun c10_0 z10_0 s10_0 => ?_
  refine kept_at hb10 (w.heap.size + 1) (by go_size) fun c10_1 z10_1 s10_1 => ?_
  have k10 := kept_trans (a := wc) (by go_grown) hb10
  have b10 := kept_trans b9 k10
  go_wp2_with fail
  refine (HX.out _ _ _ _ _ _ _ (ZsC_kept HC6.out k10) hc10).mono ?_
  rintro e w11 ⟨rfl, hb11⟩
  refine kept_at hb11 (w.heap.size) (by go_size) fun c11_0 z11_0 s11_0 => ?_
  refine kept_at hb11 (w.heap.size + 1) (by go_size) fun c11_1 z11_1 s11_1 => ?_
  have b11 := kept_trans b10 hb11
  clear HC6 hc10
  go_wp2_with fail
  go_cut [15, 16] (fun sa sb w' => sa = .int .i64 la ∧ sb = .int .i64 lb ∧ Below w11.heap.size w11 w')
  case first =>
    go_region_held3 (fun w' => w'.cell? ⟨w.heap.size, 0, none⟩ = some (.int .i64 px1) ∧ w'.cell? ⟨w.heap.size, 1, none⟩ = some (.int .i64 py1) ∧ w'.cell? ⟨w.heap.size + 1, 0, none⟩ = some (.int .i64 px2) ∧ w'.cell? ⟨w.heap.size + 1, 1, none⟩ = some (.int .i64 py2)) (go_keep) (first
      | (go_at_call 30; refine (HV.out _ _ _ hpu2 m13).mono ?_; rintro e w15 ⟨rfl, hb15⟩; refine kept_at hb15 (w.heap.size) (by go_size) fun c15h_0 z15h_0 s15h_0 => ?_; refine kept_at hb15 (w.heap.size + 1) (by go_size) fun c15h_1 z15h_1 s15h_1 => ?_; have k15 := kept_trans (a := w11) kqu2 hb15)
      | (go_at_call 29; have hqu2 := hpu1; refine (toPoint_any _ _ _).mono ?_; rintro e wpu2 ⟨rfl, hbqu2⟩; refine kept_at hbqu2 (w.heap.size) (by go_size) fun cqu2_0 zqu2_0 squ2_0 => ?_; refine kept_at hbqu2 (w.heap.size + 1) (by go_size) fun cqu2_1 zqu2_1 squ2_1 => ?_; have hpu2 := RdZs_kept hpu1 (kept_trans (a := wpu1) (by go_grown) hbqu2); have kqu2 := kept_trans (a := w11) (by go_grown) hbqu2)
      | (go_at_call 29; have hqu1 := hc13; refine (toPoint_any _ _ _).mono ?_; rintro e wpu1 ⟨rfl, hbqu1⟩; refine kept_at hbqu1 (w.heap.size) (by go_size) fun cqu1_0 zqu1_0 squ1_0 => ?_; refine kept_at hbqu1 (w.heap.size + 1) (by go_size) fun cqu1_1 zqu1_1 squ1_1 => ?_; have hpu1 := RdZs_kept hc13 (kept_trans (a := w13) (by go_grown) hbqu1); have kqu1 := kept_trans (a := w11) (by go_grown) hbqu1)
      | (go_at_call 28; refine (HT.out _ (RdZs_kept H.out (by go_grown))).mono ?_; rintro e w13 ⟨c13, T13, rfl, r13, m13, hb13⟩; obtain ⟨A13, cp13, rfl, _, _⟩ := RdZs_at r13; have hc13 := r13; refine kept_at hb13 (w.heap.size) (by go_size) fun c13_0 z13_0 s13_0 => ?_; refine kept_at hb13 (w.heap.size + 1) (by go_size) fun c13_1 z13_1 s13_1 => ?_; have k13 := kept_trans (a := w11) (by go_grown) hb13))
    all_goals
      go_wp2_with fail
      go_meet
      case rel => exact ⟨rfl, rfl, by first | exact k15 | assumption⟩
  case rest =>
  obtain ⟨rfl, rfl, hb16⟩ := hcut
  have b16 := kept_trans b11 hb16
  go_wp2
  go_ret
  exact ⟨rfl, b16⟩

end Go.Proofs.Ytjdppjcmelflbaa
namespace Go.Proofs.Ytjdppjcmelflbaa.fnExactFirstBlocking
open Go.ChangeShapes Go.WideShapes Go.ChangeAt Go.RowKit
set_option linter.unusedVariables false
set_option linter.unusedSimpArgs false
open Go.Joins Go.ChangeMaps
set_option maxRecDepth 100000 in
theorem lifted (os : Os) (started : os.Started) (H : Type) (enc : TypeId × Value → H) :
    ReturnsInHanded {} Try.checked os 5 .any (Rows.fnExactFirstBlockingSpec.pre6 enc Try.prog Try.f5 Rows.fnExactFirstBlockingRow.domain false) (Rows.fnExactFirstBlockingSpec.post enc Try.prog Try.f5 false true false false) := by
  refine returnsInHanded_of_change (C := Try.checked) (show ownKnob Try.prog.godebug = none by kernel_rfl) started (by kernel_rfl) Try.func5
    (ChangeSpec.witness6 (enc := enc) (C := Try.checked) false ⟨#[], #[.slice none 0 0, .agg #[.int .i64 0, .int .i64 0], .agg #[.int .i64 0, .int .i64 0], .int .i64 0], []⟩ 8 (by kernel_rfl) (by kernel_rfl) (by kernel_rfl) (by kernel_rfl)) ?_
  intro W base args ds gs before hval0 hW hcnd _
  have hval : ∀ (j : Nat) t v, Try.f5.params[j]? = some t → args[j]? = some v → Value.okWide Try.prog W .any base t v := hval0
  have hW' := hW
  obtain ⟨p, q, hA0, hV, rfl, hfz, hnd⟩ := hW
  have hA : DataW.TrodAll enc Try.prog W 0 (fun _ => true) true Try.f5.params.toList args.toList ds p := hA0
  rw [Try.params5] at hA hval
  obtain ⟨v0, vs0, d0, ds0, p0, q0, hargs, rfl, rfl, h0, r0⟩ := trodAll_cons hA
  obtain ⟨v1, vs1, d1, ds1, p1, q1, rfl, rfl, rfl, h1, r1⟩ := trodAll_cons r0
  obtain ⟨v2, vs2, d2, ds2, p2, q2, rfl, rfl, rfl, h2, r2⟩ := trodAll_cons r1
  obtain ⟨v3, vs3, d3, ds3, p3, q3, rfl, rfl, rfl, h3, r3⟩ := trodAll_cons r2
  obtain ⟨rfl, rfl, rfl⟩ := trodAll_nil r3
  obtain rfl : args = #[v0, v1, v2, v3] := by cases args; simp_all
  obtain ⟨rfl, rfl⟩ := trodVars_none hV
  obtain ⟨ks0, hr0, wf0⟩ := open_zones (hval 0 49 v0 rfl rfl) h0
  obtain ⟨c1_0, c1_1, y1_0, y1_1, m1, rfl, rfl, rfl, h1_0, h1_1⟩ := Joins.open_agg2 Try.underlying51 (by kernel_rfl) (show Try.prog.cellsOf 51 = 2 by kernel_rfl) (hval 1 51 v1 rfl rfl) h1
  obtain ⟨a1_0, e1_0, rfl, w1_0⟩ := DataW.trod_int Try.underlying2 h1_0
  simp at e1_0
  subst e1_0
  obtain ⟨a1_1, e1_1, rfl, w1_1⟩ := DataW.trod_int Try.underlying2 h1_1
  simp at e1_1
  subst e1_1
  obtain ⟨c2_0, c2_1, y2_0, y2_1, m2, rfl, rfl, rfl, h2_0, h2_1⟩ := Joins.open_agg2 Try.underlying51 (by kernel_rfl) (show Try.prog.cellsOf 51 = 2 by kernel_rfl) (hval 2 51 v2 rfl rfl) h2
  obtain ⟨a2_0, e2_0, rfl, w2_0⟩ := DataW.trod_int Try.underlying2 h2_0
  simp at e2_0
  subst e2_0
  obtain ⟨a2_1, e2_1, rfl, w2_1⟩ := DataW.trod_int Try.underlying2 h2_1
  simp at e2_1
  subst e2_1
  obtain ⟨a3, rfl, rfl, rfl, w3⟩ := open_int Try.underlying2 (hval 3 2 v3 rfl rfl) h3
  clear hA0 hval0
  refine (walk_FnExactFirstBlocking (w := W) _ ks0 hr0 wf0 a1_0 w1_0 a1_1 w1_1 a2_0 w2_0 a2_1 w2_1 a3 w3).mono fun e W' ⟨he, hb⟩ => ?_
  subst he
  exact ⟨_, rfl, law_post (B := 4) (by kernel_rfl) (by kernel_rfl) rfl Try.underlying4 rfl hW' rfl hb⟩

/-- The statement: for every input the law returns true, and the arguments read afterwards as before. -/
theorem proved : Rows.FnExactFirstBlockingSaid :=
  OpenClaim.holds_of_wide 5 Try.f5 rfl rfl rfl rfl rfl rfl rfl ⟨rfl, rfl, rfl, rfl, rfl⟩ rfl rfl rfl rfl rfl (by kernel_rfl) Try.func5 (by kernel_rfl)
    (of_decide_eq_true (by kernel_rfl)) (by unfold Func.isWrapper; first | (rw [if_pos (by decide +kernel)]; kernel_rfl) | (rw [if_neg (by decide +kernel)]; exact ⟨rfl, rfl⟩))
    (fun os started H enc _ => lifted os started H enc)
end Go.Proofs.Ytjdppjcmelflbaa.fnExactFirstBlocking
