/- Proved: for every input the law FnExactSameSite returns true, and each argument reads afterwards as it read before; no condition beside those of the given row. -/
import Derived.Test.YtonhndiflhbkiaaRows
import Derived.WalkKit
import Derived.ProofKit
import Derived.OpenShut
import Derived.Lib.Hide
import Derived.Handy
import Derived.BigQuiet
import Derived.Carry
import Derived.Deep.DeepCutAuto
import Derived.Deep.QuietTactic
import Derived.Deep.RegionHeld3
import Derived.Deep.SlicePairs
import Derived.Lib.SmallJoins
import Derived.Shelf.Abstract
import Derived.Lib.SmallJoins
import Derived.ChangeMaps5
namespace Go.Proofs.Ytonhndiflhbkiaa
open Go.ChangeShapes Go.WideShapes Go.ChangeAt Go.RowKit
set_option linter.unusedVariables false
set_option linter.unusedSimpArgs false

theorem tmod_pos (n k : Int) (h : 0 ≤ n) : n.tmod k = n % k := Int.tmod_eq_emod_of_nonneg h

theorem trodAll_stay {H : Type} {enc : TypeId × Value → H} {P : Program} (hl : laidOutB P = true) {W W' : World} (hb : Below W.heap.size W W') :
    ∀ (ts : List TypeId) (vs : List Value) (ds : List (DataW H)) (ps : List MemPlace), ts.all (fun t => P.readableRec t && decide (t < P.types.size)) = true →
      DataW.TrodAll enc P W 0 (fun _ => true) true ts vs ds ps → (∀ x ∈ ps, x.block < W.heap.size) →
      DataW.TrodAll enc P W' 0 (fun b => decide (b < W.heap.size)) true ts vs ds ps := by
  intro ts
  induction ts with
  | nil => intro vs ds ps _ h _; obtain ⟨rfl, rfl, rfl⟩ := trodAll_nil h; exact rfl
  | cons t ts ih =>
    intro vs ds ps hr h hlt
    simp only [List.all_cons, Bool.and_eq_true, decide_eq_true_eq] at hr
    obtain ⟨v, vs', d, ds', p, q, rfl, rfl, rfl, h0, h1⟩ := trodAll_cons h
    exact ⟨p, q, Below.trod hl hr.1.1 hr.1.2 h0 hb (fun x hx => hlt x (by simp [hx])), ih _ _ _ hr.2 h1 (fun x hx => hlt x (by simp [hx])), rfl⟩

/-- A law's row at its end: it returned true, and of what was there nothing has turned. -/
theorem law_post {H : Type} {enc : TypeId × Value → H} {P : Program} {f : Func} {s : ChangeSpec} {W W' : World} {args : Array Value} {ds gs : List (DataW H)} {before : List MemPlace} {B : TypeId}
    (hl : laidOutB P = true) (hr : f.params.toList.all (fun t => P.readableRec t && decide (t < P.types.size)) = true)
    (hres : f.resultTypes = #[B]) (hB : P.underlying B = some .bool) (hv : s.vars = [])
    (hW : DataW.Whole enc P f.params.toList s.vars false W args.toList ds gs before)
    (hfn : s.fn H (ds ++ gs) = { results := [.lit (.bool true)], args := ds }) (hb : Below W.heap.size W W') :
    s.post enc P f false true false false W args (.bool true) W' := by
  have hlt : ∀ p ∈ before, p.block < W.heap.size := fun p hp => hW.lt p hp
  have hW' := hW
  obtain ⟨p, q, hA, hV, rfl, _, _⟩ := hW'
  rw [hv] at hV
  obtain ⟨rfl, rfl⟩ := trodVars_none hV
  refine ⟨ds, [], p ++ [], [], p, [], hW, ?_, ?_, ?_, hb.frame _, fun h => by cases h⟩
  · rw [hfn, hres]
    exact trodAll_cons_mk (shut_bool hB _) trodAll_mk0
  · rw [hfn]
    exact trodAll_stay hl hb _ _ _ _ hr hA (fun x hx => hlt x (by simp [hx]))
  · rw [hfn, hv]
    exact rfl

theorem kept_cell {W w1 : World} (hb : Below W.heap.size W w1) (b o : Nat) (h : b < W.heap.size) : w1.cell? ⟨b, o, none⟩ = W.cell? ⟨b, o, none⟩ := hb.cell (p := ⟨b, o, none⟩) h

theorem kept_frozen {W w1 : World} (hb : Below W.heap.size W w1) (b o : Nat) (h : b < W.heap.size) : w1.frozen? ⟨b, o, none⟩ = W.frozen? ⟨b, o, none⟩ := hb.frozen (p := ⟨b, o, none⟩) h

theorem kept {W w1 : World} (hb : Below W.heap.size W w1) :
    (∀ b o, b < W.heap.size → w1.cell? ⟨b, o, none⟩ = W.cell? ⟨b, o, none⟩) ∧ (∀ b o, b < W.heap.size → w1.frozen? ⟨b, o, none⟩ = W.frozen? ⟨b, o, none⟩) ∧ W.heap.size ≤ w1.heap.size :=
  ⟨kept_cell hb, kept_frozen hb, hb.size⟩

theorem kept_trans {a b c : World} (h : Below a.heap.size a b) (k : Below b.heap.size b c) : Below a.heap.size a c := h.trans (k.mono h.size)

theorem kept_at {W w1 : World} (hb : Below W.heap.size W w1) (b : Nat) {G : Prop} (h : b < W.heap.size)
    (k : (∀ o, w1.cell? ⟨b, o, none⟩ = W.cell? ⟨b, o, none⟩) → (∀ o, w1.frozen? ⟨b, o, none⟩ = W.frozen? ⟨b, o, none⟩) → b < w1.heap.size → G) : G :=
  k (fun o => kept_cell hb b o h) (fun o => kept_frozen hb b o h) (Nat.lt_of_lt_of_le h hb.size)

theorem kept_drewN {B : Nat} {a w : World} (h : Below B a w) (n : Nat) : Below B a (w.drewN n) := { os := h.os, tape := h.tape, output := h.output, size := h.size, block := h.block }

theorem grown_step {a b c : World} {row : Option Nat} (h : a.grownBy b row) (k : b.grownBy c row) : a.grownBy c row :=
  ⟨k.os.trans h.os, k.tape.trans h.tape, k.output.trans h.output, Nat.le_trans h.size k.size, fun i hi hne => (k.block i (Nat.lt_of_lt_of_le hi h.size) hne).trans (h.block i hi hne)⟩

theorem grown_below {a b c : World} {row : Option Nat} (h : Below a.heap.size a b) (k : b.grownBy c row) (hr : ∀ g, row = some g → a.heap.size ≤ g) : Below a.heap.size a c := h.grown k h.size hr

theorem results_cell1 {fn : Func} {p : Tmp} {ty : TypeId} (h : fn.results = #[.cell p ty]) (tmps : Array Value) (P : Program) (w : World) :
    (results fn tmps).run P w = ((asAddr (tmps.getD p undef)).run P w).andThen fun a w₁ => (loadVar ty a).run P w₁ := by
  simp only [results, h]
  simp [Sem.run_bind, Result.andThen]

theorem grown_set (w : World) (a : Addr) (u : Value) : w.grownBy (w.setCell a u) (some a.block) :=
  ⟨rfl, rfl, rfl, by simp, fun k _ hk => heap_setCell_other w a k u (fun e => hk (by rw [e]))⟩

theorem toPoint_any (x y : Int) (w : World) :
    Calls Try.prog 74 #[.agg #[.int .i64 x, .int .i64 y]] w fun e w' => e = .returned (.agg #[.int .i64 x, .int .i64 y]) ∧ Below w.heap.size w w' := by
  go_enter Try.func74, Try.ntmps74
  go_wp2
  go_returns
  exact ⟨rfl, by go_grown⟩

theorem own_kept {W w1 : World} {base : Nat} {e : TypeId} {size : Nat} {v : Value} {n : Nat} {xs : List Value} (h : W.ownsRow base e size v n xs) (hb : Below W.heap.size W w1) : w1.ownsRow base e size v n xs := by
  refine ⟨h.1, ?_⟩
  rcases h.2 with h2 | ⟨g, cap, cur, hv, hg, hh, r⟩
  · exact Or.inl h2
  · refine Or.inr ⟨g, cap, cur, hv, hg, ?_, r⟩
    rw [hb.block g (h.lt g (by rw [hv]; rfl)).2]
    exact hh

theorem eqPoint_same (x y : Int) (w : World) :
    Calls Try.prog 94 #[.agg #[.int .i64 x, .int .i64 y], .agg #[.int .i64 x, .int .i64 y]] w fun e w' => e = .returned (.bool true) ∧ Below w.heap.size w w' := by
  go_enter Try.func94, Try.ntmps94
  go_wp2
  go_ret
  exact ⟨rfl, by go_grown⟩

theorem flat_len {α : Type} {enc : α → List Value} {sz : Nat} (h : ∀ z, (enc z).length = sz) (zs : List α) : (zs.flatMap enc).length = zs.length * sz := by
  induction zs with
  | nil => simp
  | cons z zs ih => rw [List.flatMap_cons, List.length_append, ih, h, List.length_cons, Nat.add_mul]; omega

theorem flat_at {α : Type} {enc : α → List Value} {sz : Nat} (h : ∀ z, (enc z).length = sz) (zs : List α) (k j : Nat) (hk : k < zs.length) (hj : j < sz) : (zs.flatMap enc)[k * sz + j]? = (enc zs[k])[j]? := by
  induction zs generalizing k with
  | nil => simp at hk
  | cons z zs ih =>
    cases k with
    | zero => rw [List.flatMap_cons, List.getElem?_append_left (by rw [h]; omega)]; simp
    | succ k =>
      have e : (k + 1) * sz + j - (enc z).length = k * sz + j := by rw [h, Nat.add_mul]; omega
      rw [List.flatMap_cons, List.getElem?_append_right (by rw [h, Nat.add_mul]; omega), e, ih k (by simpa using hk)]
      simp

/-- The slice value reads as n elements of sz cells each, cell for cell. -/
def RdF (w : World) (v : Value) (n sz : Nat) (xs : List Value) : Prop :=
  n ≤ 9223372036854775807 ∧ xs.length = n * sz ∧ ∃ A c, v = .slice A n c ∧ ∀ i, i < n * sz → ∃ b off, A = some ⟨b, off, none⟩ ∧ b < w.heap.size ∧ w.cell? ⟨b, off + i, none⟩ = xs[i]?

theorem RdF_kept {W w1 : World} {v : Value} {n sz : Nat} {xs : List Value} (h : RdF W v n sz xs) (hb : Below W.heap.size W w1) : RdF w1 v n sz xs := by
  obtain ⟨hl, hx, A, c, rfl, hr⟩ := h
  refine ⟨hl, hx, A, c, rfl, fun k hk => ?_⟩
  obtain ⟨b, off, e, hlt, hc⟩ := hr k hk
  exact ⟨b, off, e, Nat.lt_of_lt_of_le hlt hb.size, by rw [kept_cell hb b _ hlt]; exact hc⟩

/-- A row of elements of the call's own (type e, sz cells each), in a block from lo on and below hi. -/
def RowF (e sz : Nat) (w : World) (lo hi : Nat) (v : Value) (n : Nat) (xs : List Value) : Prop :=
  w.ownsRow lo e sz v n xs ∧ ∀ g, v.ownBlock = some g → lo ≤ g ∧ g < hi

theorem RowF_nil (e sz : Nat) (w : World) (lo hi : Nat) : RowF e sz w lo hi (.slice none 0 0) 0 [] := ⟨World.ownsRow_nil _ _ _ _, fun g h => by simp [Value.ownBlock] at h⟩

theorem RowF_form {e sz : Nat} {w : World} {lo hi : Nat} {v : Value} {n : Nat} {xs : List Value} (h : RowF e sz w lo hi v n xs) :
    (n = 0 ∧ xs = [] ∧ v = .slice none 0 0) ∨ ∃ g cap, v = .slice (some ⟨g, 0, none⟩) n cap ∧ lo ≤ g ∧ g < hi ∧ g < w.heap.size ∧ n ≤ cap ∧ cap ≤ maxLen := by
  rcases h.1.2 with ⟨h1, h2⟩ | ⟨g, cap, cur, rfl, hg, hh, h3, h4, _⟩
  · exact Or.inl ⟨h2, List.eq_nil_of_length_eq_zero (by rw [h.1.1, h2, Nat.zero_mul]), h1⟩
  · exact Or.inr ⟨g, cap, rfl, hg, (h.2 g rfl).2, (h.1.lt g rfl).2, h3, h4⟩

theorem RowF_rd {e sz : Nat} {w : World} {lo hi : Nat} {v : Value} {n : Nat} {xs : List Value} (h : RowF e sz w lo hi v n xs) : RdF w v n sz xs := by
  rcases RowF_form h with ⟨rfl, rfl, rfl⟩ | ⟨g, cap, rfl, _, _, hlt, h3, h4⟩
  · exact ⟨by simp, by simp, none, 0, rfl, fun k hk => by simp at hk⟩
  · unfold maxLen at h4
    refine ⟨by omega, h.1.1, some ⟨g, 0, none⟩, cap, rfl, fun k hk => ⟨g, 0, rfl, hlt, ?_⟩⟩
    rw [Nat.zero_add, h.1.cellAt k hk]

theorem RowF_kept {e sz : Nat} {W w1 : World} {lo hi : Nat} {v : Value} {n : Nat} {xs : List Value} (h : RowF e sz W lo hi v n xs) (hb : Below W.heap.size W w1) : RowF e sz w1 lo hi v n xs := ⟨own_kept h.1 hb, h.2⟩

theorem RowF_far {e sz : Nat} {W w1 : World} {lo hi : Nat} {v : Value} {n : Nat} {xs : List Value} {row : Option Nat} (h : RowF e sz W lo hi v n xs) (hg : W.grownBy w1 row) (hr : ∀ g, row = some g → g < lo ∨ hi ≤ g) : RowF e sz w1 lo hi v n xs := by
  refine ⟨h.1.kept hg ?_, h.2⟩
  rcases hv : v.ownBlock with _ | g
  · exact Or.inl rfl
  · refine Or.inr (fun e => ?_)
    have h1 := h.2 g hv
    have h2 := hr g e.symm
    omega

/-- The first elements of a row. -/
theorem RowF_short {e sz : Nat} {w : World} {lo hi g cap m n : Nat} {xs : List Value} (h : RowF e sz w lo hi (.slice (some ⟨g, 0, none⟩) m cap) m xs) (hn : n ≤ m) :
    RowF e sz w lo hi (.slice (some ⟨g, 0, none⟩) n cap) n (xs.take (n * sz)) := by
  refine ⟨⟨?_, ?_⟩, fun g' hg' => h.2 g' hg'⟩
  · rw [List.length_take, h.1.1]
    have := Nat.mul_le_mul_right sz hn
    omega
  · rcases h.1.2 with ⟨h1, h2⟩ | ⟨g', cap', cur, h1, hg, hh, h3, h4, h5, h6⟩
    · simp at h1
    · simp only [Value.slice.injEq, Option.some.injEq, Addr.mk.injEq, and_true, true_and] at h1
      obtain ⟨rfl, rfl⟩ := h1
      refine Or.inr ⟨g, cap, cur, rfl, hg, hh, by omega, h4, h5, ?_⟩
      rw [← h6, List.take_take]
      congr 1
      have := Nat.mul_le_mul_right sz hn
      omega

theorem RowF_lo {e sz : Nat} {w : World} {lo lo' hi hi' : Nat} {v : Value} {n : Nat} {xs : List Value} (h : RowF e sz w lo hi v n xs) (hl : lo' ≤ lo) (hh : hi ≤ hi') : RowF e sz w lo' hi' v n xs :=
  ⟨Joins.ownsRow_le h.1 hl, fun g hg => ⟨by have := (h.2 g hg).1; omega, by have := (h.2 g hg).2; omega⟩⟩

theorem RowF_set {e sz : Nat} {w : World} {lo hi b o n : Nat} {v u : Value} {xs : List Value} (h : RowF e sz w lo hi v n xs) (hb : b < lo) : RowF e sz (w.setCell ⟨b, o, none⟩ u) lo hi v n xs :=
  RowF_far h (grown_set _ _ _) (fun g hg => by simp at hg; omega)

/-- A pair of numbers, cell by cell. -/
def encP (z : Int × Int) : List Value := [.int .i64 z.1, .int .i64 z.2]

def flatP (zs : List (Int × Int)) : List Value := zs.flatMap encP

theorem flatP_len (zs : List (Int × Int)) : (flatP zs).length = zs.length * 2 := flat_len (enc := encP) (fun _ => rfl) zs

theorem flatP_at (zs : List (Int × Int)) (k : Nat) (h : k < zs.length) : (flatP zs)[k * 2]? = some (.int .i64 zs[k].1) ∧ (flatP zs)[k * 2 + 1]? = some (.int .i64 zs[k].2) :=
  ⟨flat_at (enc := encP) (sz := 2) (fun _ => rfl) zs k 0 h (by omega), flat_at (enc := encP) (sz := 2) (fun _ => rfl) zs k 1 h (by omega)⟩

/-- The slice value reads as a list of pairs of numbers. -/
def RdP (w : World) (v : Value) (zs : List (Int × Int)) : Prop := RdF w v zs.length 2 (flatP zs)

theorem RdP_kept {W w1 : World} {v : Value} {zs : List (Int × Int)} (h : RdP W v zs) (hb : Below W.heap.size W w1) : RdP w1 v zs := RdF_kept h hb

theorem RdP_slice {w : World} {v : Value} {zs : List (Int × Int)} (h : RdP w v zs) : ∃ A c, v = .slice A zs.length c ∧ zs.length ≤ 9223372036854775807 ∧
    ∀ k, (hk : k < zs.length) → ∃ b off, A = some ⟨b, off, none⟩ ∧ b < w.heap.size ∧ w.cell? ⟨b, off + k * 2, none⟩ = some (.int .i64 zs[k].1) ∧ w.cell? ⟨b, off + k * 2 + 1, none⟩ = some (.int .i64 zs[k].2) := by
  obtain ⟨hl, hx, A, c, rfl, hr⟩ := h
  refine ⟨A, c, rfl, hl, fun k hk => ?_⟩
  obtain ⟨b, off, rfl, hlt, h0⟩ := hr (k * 2) (by omega)
  obtain ⟨b', off', e, _, h1⟩ := hr (k * 2 + 1) (by omega)
  simp only [Option.some.injEq, Addr.mk.injEq, and_true] at e
  obtain ⟨rfl, rfl⟩ := e
  rw [(flatP_at zs k hk).1] at h0
  rw [(flatP_at zs k hk).2, ← Nat.add_assoc] at h1
  exact ⟨b, off, rfl, hlt, h0, h1⟩

def roomL (n : Nat) : Nat := if n % 6 = 5 then 0 else if n % 3 = 0 then 1 else n

theorem roomL_le (n : Nat) : roomL n ≤ n + 1 := by
  unfold roomL
  split
  · omega
  · split <;> omega

theorem room_any (n : Nat) (hn : n ≤ 9223372036854775807) (w : World) :
    Calls Try.prog 66 #[.int .i64 n] w fun e w' => e = .returned (.int .i64 (roomL n : Nat)) ∧ w = w' := by
  unfold roomL
  have e6 : (n : Int).tmod 6 = ((n % 6 : Nat) : Int) := by rw [tmod_pos _ _ (by omega)]; omega
  have e3 : (n : Int).tmod 3 = ((n % 3 : Nat) : Int) := by rw [tmod_pos _ _ (by omega)]; omega
  by_cases h6 : n % 6 = 5
  · rw [h6] at e6
    go_enter Try.func66, Try.ntmps66
    go_wp2
    go_ret
    exact ⟨by simp [h6], rfl⟩
  · have d6 : ((n : Int).tmod 6 == 5) = false := by rw [e6]; simp; omega
    by_cases h3 : n % 3 = 0
    · rw [h3] at e3
      go_enter Try.func66, Try.ntmps66
      go_wp2
      go_ret
      exact ⟨by simp [h6, h3], rfl⟩
    · have d3 : ((n : Int).tmod 3 == 0) = false := by rw [e3]; simp; omega
      go_enter Try.func66, Try.ntmps66
      go_wp2
      go_ret
      exact ⟨by simp [h6, h3], rfl⟩

theorem szC_any (A : Option Addr) (n c : Nat) (left : Int) (h : 0 ≤ left ∧ left ≤ 1000000) (hn : n ≤ 9223372036854775807) (w : World) :
    Calls Try.prog 89 #[.slice A n c, .int .i64 left] w fun e w' => e = .returned (.int .i64 (if (n : Int) ≤ left then left - n else -1)) ∧ w = w' := by
  by_cases h1 : (n : Int) ≤ left
  · rw [if_pos h1]
    go_enter Try.func89, Try.ntmps89
    go_wp2
    go_ret
    exact ⟨rfl, rfl⟩
  · rw [if_neg h1]
    go_enter Try.func89, Try.ntmps89
    go_wp2
    go_ret
    exact ⟨rfl, rfl⟩

theorem toStep_any (x y : Int) (w : World) :
    Calls Try.prog 102 #[.agg #[.int .i64 x, .int .i64 y]] w fun e w' => e = .returned (.agg #[.int .i64 x, .int .i64 y]) ∧ Below w.heap.size w w' := by
  go_enter Try.func102, Try.ntmps102
  go_wp2
  go_returns
  exact ⟨rfl, by go_grown⟩

def fillP : Int × Int := (-7000000000000000101, -7000000000000000101)

theorem fillStep_any (w : World) :
    Calls Try.prog 92 #[] w fun e w' => e = .returned (.agg #[.int .i64 fillP.1, .int .i64 fillP.2]) ∧ Below w.heap.size w w' := by
  unfold fillP
  go_enter Try.func92, Try.ntmps92
  go_wp2
  go_returns
  exact ⟨rfl, by go_grown⟩

theorem eqStep_same (x y : Int) (w : World) :
    Calls Try.prog 105 #[.agg #[.int .i64 x, .int .i64 y], .agg #[.int .i64 x, .int .i64 y]] w fun e w' => e = .returned (.bool true) ∧ Below w.heap.size w w' := by
  go_enter Try.func105, Try.ntmps105
  go_wp2
  go_ret
  exact ⟨rfl, by go_grown⟩

theorem info_step : (Try.prog.info? 35).map (fun i => (i.zero, i.size, i.bytes)) = some (some (.agg #[.int .i64 0, .int .i64 0]), 2, 16) := by kernel_rfl

theorem eqC_same (v1 v2 : Value) (zs : List (Int × Int)) (w : World) (h1 : RdP w v1 zs) (h2 : RdP w v2 zs) :
    Calls Try.prog 103 #[v1, v2] w fun e w' => e = .returned (.bool true) ∧ Below w.heap.size w w' := by
  obtain ⟨A, c, rfl, hl, r1⟩ := RdP_slice h1
  obtain ⟨A2, c2, rfl, _, r2⟩ := RdP_slice h2
  clear h1 h2
  have R1 := Lib.hid r1; clear r1
  have R2 := Lib.hid r2; clear r2
  go_enter Try.func103, Try.ntmps103
  go_wp2_with fail
  go_loopw [5] (fun i wr => ∃ k : Nat, k ≤ zs.length ∧ i = .int .i64 k ∧ Below w.heap.size w wr) (fun i _ => zs.length - (intOf i).toNat)
  case atStart => exact ⟨0, by omega, rfl, Below.refl _ _⟩
  case round =>
    obtain ⟨k, hk, rfl, hb⟩ := hrel
    by_cases hlt : k < zs.length
    · obtain ⟨b, off, rfl, hbl, hc0, hc1⟩ := R1.out k hlt
      obtain ⟨b2, off2, rfl, hbl2, hd0, hd1⟩ := R2.out k hlt
      rw [← kept_cell hb b _ hbl] at hc0 hc1
      rw [← kept_cell hb b2 _ hbl2] at hd0 hd1
      generalize zs[k].1 = x at *
      generalize zs[k].2 = y at *
      have hsz := hb.size
      have hbl' := Nat.lt_of_lt_of_le hbl hsz
      have hbl2' := Nat.lt_of_lt_of_le hbl2 hsz
      go_wp2_with fail
      go_region_held3 (fun w' => w'.cell? ⟨b, off + k * 2, none⟩ = some (.int .i64 x) ∧ w'.cell? ⟨b, off + k * 2 + 1, none⟩ = some (.int .i64 y) ∧ w'.cell? ⟨b2, off2 + k * 2, none⟩ = some (.int .i64 x) ∧ w'.cell? ⟨b2, off2 + k * 2 + 1, none⟩ = some (.int .i64 y)) (go_keep)
        ((go_at_call 105; refine (eqStep_same _ _ _).mono ?_; rintro e w1 ⟨rfl, hb1⟩; replace hb1 := kept_trans (a := wr) (by go_grown) hb1; have hcl := kept_cell hb1))
      go_wp2
      go_roundw
      case rel => exact ⟨k + 1, by omega, by go_num, kept_trans hb (by assumption)⟩
      case measure => simp [intOf]; omega
    · have : k = zs.length := by omega
      subst this
      go_wp2
      go_ret
      exact ⟨rfl, hb⟩

theorem flatP_set (l : List (Int × Int)) (j : Nat) (x y : Int) : ((flatP l).set (j * 2) (.int .i64 x)).set (j * 2 + 1) (.int .i64 y) = flatP (l.set j (x, y)) := by
  induction l generalizing j with
  | nil => simp [flatP]
  | cons z l ih =>
    cases j with
    | zero => simp [flatP, encP]
    | succ j =>
      have := ih j
      simp only [flatP, encP, List.flatMap_cons, List.cons_append, List.nil_append, Nat.succ_mul, List.set_cons_succ] at this ⊢
      rw [this]

theorem fill_step {α : Type} (T : List α) (z : α) (j : Nat) (h : j < T.length) : (T.take j ++ List.replicate (T.length - j) z).set j T[j] = T.take (j + 1) ++ List.replicate (T.length - (j + 1)) z := by
  obtain ⟨m, hm⟩ : ∃ m, T.length - j = m + 1 := ⟨T.length - j - 1, by omega⟩
  rw [hm, show T.length - (j + 1) = m by omega, List.replicate_succ, List.set_append, if_neg (by simp; omega), List.length_take, Nat.min_eq_left (by omega), Nat.sub_self, List.set_cons_zero, ← List.take_append_getElem h, List.append_assoc]
  rfl

/-- What a copy's block holds: the list, and behind it the filler. -/
def copyT (zs : List (Int × Int)) : List (Int × Int) := zs ++ List.replicate (roomL zs.length) fillP

theorem copyT_len (zs : List (Int × Int)) : (copyT zs).length = zs.length + roomL zs.length := by simp [copyT]

/-- A copy of a list of steps that the law made: the whole block is a row of the call's own. -/
def CopyC (w : World) (lo hi : Nat) (v : Value) (zs : List (Int × Int)) : Prop :=
  zs.length ≤ 1000000 ∧ ∃ g, v = .slice (some ⟨g, 0, none⟩) zs.length (copyT zs).length ∧ RowF 35 2 w lo hi (.slice (some ⟨g, 0, none⟩) (copyT zs).length (copyT zs).length) (copyT zs).length (flatP (copyT zs))

theorem CopyC_kept {W w1 : World} {lo hi : Nat} {v : Value} {zs : List (Int × Int)} (h : CopyC W lo hi v zs) (hb : Below W.heap.size W w1) : CopyC w1 lo hi v zs := by
  obtain ⟨hl, g, e, hr⟩ := h
  exact ⟨hl, g, e, RowF_kept hr hb⟩

theorem CopyC_row {w : World} {lo hi : Nat} {v : Value} {zs : List (Int × Int)} (h : CopyC w lo hi v zs) : RowF 35 2 w lo hi v zs.length (flatP zs) := by
  obtain ⟨hl, g, rfl, hr⟩ := h
  have := RowF_short hr (n := zs.length) (by rw [copyT_len]; omega)
  have e : (flatP (copyT zs)).take (zs.length * 2) = flatP zs := by
    rw [show flatP (copyT zs) = flatP zs ++ flatP (List.replicate (roomL zs.length) fillP) by simp [flatP, copyT]]
    rw [← flatP_len, List.take_left]
  rwa [e] at this

theorem CopyC_rd {w : World} {lo hi : Nat} {v : Value} {zs : List (Int × Int)} (h : CopyC w lo hi v zs) : RdP w v zs := RowF_rd (CopyC_row h)

theorem make_steps (n : Nat) (h : n ≤ 4000000) (w : World) :
    (Instr.makeSlice 24 (.int .i64 (n : Int)) (.int .i64 (n : Int))).run Try.prog w = .ok (.slice (some ⟨w.heap.size, 0, none⟩) n n) (w.alloc (.cells (madeCells #[.int .i64 0, .int .i64 0] (n * 2)) 35)) := by
  obtain ⟨i, hi, hz, hs, hb⟩ := info_parts info_step
  have hb' : (i.bytes : Int) * (n : Int) ≤ 281474976710656 := by rw [hb]; omega
  have hr := run_make (P := Try.prog) w 24 35 i (.agg #[.int .i64 0, .int .i64 0]) Try.underlying24 hi hz .i64 .i64 n n (by omega) (Int.le_refl _) hb' (by omega)
  simp only [Int.toNat_natCast, hs] at hr
  exact hr

theorem made_flat (n : Nat) : (madeCells #[.int .i64 0, .int .i64 0] (n * 2)).toList = flatP (List.replicate n (0, 0)) := by
  apply List.ext_getElem?
  intro j
  by_cases hj : j < n * 2
  · have h := flatP_at (List.replicate n ((0 : Int), (0 : Int))) (j / 2) (by simp; omega)
    simp only [List.getElem_replicate] at h
    rcases Nat.mod_two_eq_zero_or_one j with hp | hp
    · rw [show j / 2 * 2 = j by omega] at h
      rw [h.1]
      simp [madeCells, hj, hp]
    · rw [show j / 2 * 2 + 1 = j by omega] at h
      rw [h.2]
      simp [madeCells, hj, hp]
  · rw [List.getElem?_eq_none (by rw [Array.length_toList, size_madeCells]; omega), List.getElem?_eq_none (by rw [flatP_len]; simp; omega)]

theorem copyT_at (zs : List (Int × Int)) (j : Nat) : (h : j < zs.length) → (copyT zs)[j]'(by rw [copyT_len]; omega) = zs[j] := by
  intro h
  simp [copyT, h]

theorem copyT_fill (zs : List (Int × Int)) (j : Nat) (h : zs.length ≤ j) : (h2 : j < (copyT zs).length) → (copyT zs)[j] = fillP := by
  intro h2
  simp [copyT, h]

theorem toC_row (v : Value) (zs : List (Int × Int)) (bare : Bool) (w : World) (h : RdP w v zs) (hn : zs.length ≤ 1000000) (hbare : bare = false ∨ zs ≠ []) :
    Calls Try.prog 91 #[v, .bool bare] w fun e w' => ∃ v', e = .returned v' ∧ CopyC w' w.heap.size w'.heap.size v' zs ∧ Below w.heap.size w w' := by
  obtain ⟨A, c, rfl, hl, r1⟩ := RdP_slice h
  clear h
  have R := Lib.hid r1; clear r1
  have hN := copyT_len zs
  have hr := roomL_le zs.length
  have hmk : ∀ w : World, (Instr.makeSlice 24 (.int .i64 ((zs.length : Int) + (roomL zs.length : Int))) (.int .i64 ((zs.length : Int) + (roomL zs.length : Int)))).run Try.prog w = .ok (.slice (some ⟨w.heap.size, 0, none⟩) (copyT zs).length (copyT zs).length) (w.alloc (.cells (madeCells #[.int .i64 0, .int .i64 0] ((copyT zs).length * 2)) 35)) := by
    intro w
    have := make_steps (copyT zs).length (by omega) w
    rwa [show (((copyT zs).length : Nat) : Int) = (zs.length : Int) + (roomL zs.length : Int) by omega] at this
  have hcap : (copyT zs).length ≤ maxLen := by unfold maxLen; omega
  have hrow0 : ∀ wa : World, w.heap.size ≤ wa.heap.size → (wa.alloc (.cells (madeCells #[.int .i64 0, .int .i64 0] ((copyT zs).length * 2)) 35)).ownsRow w.heap.size 35 2 (.slice (some ⟨wa.heap.size, 0, none⟩) (copyT zs).length (copyT zs).length) (copyT zs).length (flatP ((copyT zs).take 0 ++ List.replicate ((copyT zs).length - 0) (0, 0))) := by
    intro wa hwa
    have := World.ownsRow_lit wa (e := 35) (size := 2) (madeCells #[.int .i64 0, .int .i64 0] ((copyT zs).length * 2)) (copyT zs).length hwa hcap (size_madeCells _ _)
    rw [made_flat] at this
    simpa using this
  have Hrow := Lib.hid hrow0; clear hrow0
  have hb0 : bare = true → ((zs.length : Int) == 0) = false := by
    intro hb
    have : zs.length ≠ 0 := fun h => by
      rcases hbare with h1 | h1
      · rw [hb] at h1; cases h1
      · exact h1 (List.eq_nil_of_length_eq_zero h)
    simpa using this
  clear hbare
  generalize hNN : (copyT zs).length = N at *
  have HNN := Lib.hid hNN; clear hNN
  have hNb : N ≤ 2000002 ∧ zs.length ≤ N := by omega
  have HN := Lib.hid hN; clear hN
  cases bare
  all_goals
    have hbn := hb0
    simp only [forall_const, reduceCtorEq, false_implies, Bool.false_eq_true] at hbn
    clear hb0
    go_enter Try.func91, Try.ntmps91
    go_wp2_with (go_at_call 66; refine (room_any _ (by omega) _).mono ?_; rintro e w1 ⟨rfl, rfl⟩)
    go_loopw [6] (fun i wr => ∃ j : Nat, j ≤ zs.length ∧ i = .int .i64 j ∧ wr.ownsRow w.heap.size 35 2 (.slice (some ⟨w.heap.size, 0, none⟩) N N) N (flatP ((copyT zs).take j ++ List.replicate (N - j) (0, 0))) ∧ Below w.heap.size w wr) (fun i _ => zs.length - (intOf i).toNat)
    case atStart => exact ⟨0, by omega, rfl, Hrow.out w (Nat.le_refl _), by go_grown⟩
    case round =>
      obtain ⟨j, hj, rfl, hown, hb⟩ := hrel
      have hsz := hb.size
      by_cases hlt : j < zs.length
      · obtain ⟨b, off, rfl, hbl, hc0, hc1⟩ := R.out j hlt
        rw [← kept_cell hb b _ hbl] at hc0 hc1
        go_wp2_with fail
        refine (toStep_any _ _ _).mono ?_
        rintro e w1 ⟨rfl, hb1⟩
        have hown1 := own_kept hown hb1
        have hlen : (flatP ((copyT zs).take j ++ List.replicate (N - j) (0, 0))).length = N * 2 := hown.1
        obtain ⟨u0, hu0⟩ : ∃ u, w1.cell? ⟨w.heap.size, j * 2, none⟩ = some u := by
          rw [hown1.cellAt _ (by omega)]
          exact ⟨_, List.getElem?_eq_getElem (by omega)⟩
        obtain ⟨u1, hu1⟩ : ∃ u, w1.cell? ⟨w.heap.size, j * 2 + 1, none⟩ = some u := by
          rw [hown1.cellAt _ (by omega)]
          exact ⟨_, List.getElem?_eq_getElem (by omega)⟩
        have hz0 := hown1.frozenAt (j * 2)
        have hz1 := hown1.frozenAt (j * 2 + 1)
        have hs0 := hown1.stored (j * 2) (.int .i64 zs[j].1)
        have hs1 := hs0.1.stored (j * 2 + 1) (.int .i64 zs[j].2)
        rw [flatP_set] at hs1
        have hstep := fill_step (copyT zs) (0, 0) j (by rw [HNN.out]; omega)
        rw [copyT_at zs j hlt, HNN.out] at hstep
        rw [show ((zs[j].1, zs[j].2) : Int × Int) = zs[j] from rfl, hstep] at hs1
        have Hs := Lib.hid hs1.1
        have Hg := Lib.hid (grown_step hs0.2 hs1.2)
        clear hs0 hs1 hstep hown hown1 hlen
        go_wp2
        go_roundw
        case rel => exact ⟨j + 1, by omega, by go_num, Hs.out, grown_below (kept_trans hb hb1) Hg.out (fun g hg => by simp at hg; omega)⟩
        case measure => simp [intOf]; omega
      · have : j = zs.length := by omega
        subst this
        go_wp2_with fail
        go_loopw [7] (fun i wr => ∃ j : Nat, zs.length ≤ j ∧ j ≤ N ∧ i = .int .i64 j ∧ wr.ownsRow w.heap.size 35 2 (.slice (some ⟨w.heap.size, 0, none⟩) N N) N (flatP ((copyT zs).take j ++ List.replicate (N - j) (0, 0))) ∧ Below w.heap.size w wr) (fun i _ => N - (intOf i).toNat)
        case atStart => exact ⟨zs.length, by omega, by omega, rfl, hown, hb⟩
        case round =>
          obtain ⟨j, hj0, hj, rfl, hown, hb⟩ := hrel
          have hsz := hb.size
          by_cases hlt : j < N
          · go_wp2_with fail
            refine (fillStep_any _).mono ?_
            rintro e w1 ⟨rfl, hb1⟩
            have hown1 := own_kept hown hb1
            have hlen : (flatP ((copyT zs).take j ++ List.replicate (N - j) (0, 0))).length = N * 2 := hown.1
            obtain ⟨u0, hu0⟩ : ∃ u, w1.cell? ⟨w.heap.size, j * 2, none⟩ = some u := by
              rw [hown1.cellAt _ (by omega)]
              exact ⟨_, List.getElem?_eq_getElem (by omega)⟩
            obtain ⟨u1, hu1⟩ : ∃ u, w1.cell? ⟨w.heap.size, j * 2 + 1, none⟩ = some u := by
              rw [hown1.cellAt _ (by omega)]
              exact ⟨_, List.getElem?_eq_getElem (by omega)⟩
            have hz0 := hown1.frozenAt (j * 2)
            have hz1 := hown1.frozenAt (j * 2 + 1)
            have hs0 := hown1.stored (j * 2) (.int .i64 fillP.1)
            have hs1 := hs0.1.stored (j * 2 + 1) (.int .i64 fillP.2)
            rw [flatP_set] at hs1
            have hstep := fill_step (copyT zs) (0, 0) j (by rw [HNN.out]; omega)
            rw [copyT_fill zs j hj0 (by rw [HNN.out]; omega), HNN.out] at hstep
            rw [show ((fillP.1, fillP.2) : Int × Int) = fillP from rfl, hstep] at hs1
            have Hs := Lib.hid hs1.1
            have Hg := Lib.hid (grown_step hs0.2 hs1.2)
            clear hs0 hs1 hstep hown hown1 hlen
            go_wp2
            go_roundw
            case rel => exact ⟨j + 1, by omega, by omega, by go_num, Hs.out, grown_below (kept_trans hb hb1) Hg.out (fun g hg => by simp at hg; omega)⟩
            case measure => simp [intOf]; omega
          · have : j = N := by omega
            subst this
            have Hown := Lib.hid hown; clear hown
            go_wp2
            go_ret
            have hT : (copyT zs).take j ++ List.replicate (j - j) (0, 0) = copyT zs := by rw [List.take_of_length_le (by rw [HNN.out]; exact Nat.le_refl _)]; simp
            refine ⟨_, rfl, ⟨hn, w.heap.size, by rw [HNN.out]; rfl, ?_⟩, hb⟩
            rw [HNN.out, ← hT]
            exact ⟨Hown.out, fun g hg => by simp [Value.ownBlock] at hg; subst hg; exact ⟨Nat.le_refl _, (Hown.out.lt _ rfl).2⟩⟩

theorem toC_false (v : Value) (zs : List (Int × Int)) (w : World) (h : RdP w v zs) (hn : zs.length ≤ 1000000) :
    Calls Try.prog 91 #[v, .bool false] w fun e w' => ∃ v', e = .returned v' ∧ CopyC w' w.heap.size w'.heap.size v' zs ∧ Below w.heap.size w w' := toC_row v zs false w h hn (Or.inl rfl)

theorem intactC_same (v1 v2 : Value) (zs : List (Int × Int)) (lo1 hi1 lo2 hi2 : Nat) (w : World) (h1 : CopyC w lo1 hi1 v1 zs) (h2 : CopyC w lo2 hi2 v2 zs) :
    Calls Try.prog 95 #[v1, v2] w fun e w' => e = .returned (.bool true) ∧ Below w.heap.size w w' := by
  obtain ⟨hn, g1, rfl, r1⟩ := h1
  obtain ⟨_, g2, rfl, r2⟩ := h2
  have q1 : RdP w _ (copyT zs) := RowF_rd r1
  have q2 : RdP w _ (copyT zs) := RowF_rd r2
  clear r1 r2
  have hN := copyT_len zs
  have hr := roomL_le zs.length
  generalize hT : copyT zs = T at *
  clear hT
  have Q1 := Lib.hid q1; clear q1
  have Q2 := Lib.hid q2; clear q2
  generalize hTl : T.length = N at *
  have hN' : (zs.length : Int) + (roomL zs.length : Int) = (N : Int) := by omega
  have hcap : zs.length ≤ N := by omega
  clear hN
  go_enter Try.func95, Try.ntmps95
  go_wp2_with (go_at_call 66; refine (room_any _ (by omega) _).mono ?_; rintro e w1 ⟨rfl, rfl⟩)
  go_region_held3 (fun _ => True) (trivial)
    ((go_at_call 103; refine (eqC_same _ _ T _ (by exact Q1.out) (by exact Q2.out)).mono ?_; rintro e w1 ⟨rfl, hb1⟩; replace hb1 := kept_trans (a := w) (by go_grown) hb1))
  go_wp2
  go_ret
  exact ⟨rfl, by assumption⟩

theorem drew_more {w a : World} (h : ∃ q, a = w.drewN q) (n : Nat) : ∃ q, a.drewN n = w.drewN q := by
  obtain ⟨q, rfl⟩ := h
  exact ⟨q + n, World.drewN_drewN _ _ _⟩

def sameB (zs us : List (Int × Int)) : Bool := decide (zs = us)

theorem take_step {zs us : List (Int × Int)} {k : Nat} (h : zs.take k = us.take k) (h1 : k < zs.length) (h2 : k < us.length) (e : zs[k] = us[k]) : zs.take (k + 1) = us.take (k + 1) := by
  rw [← List.take_append_getElem h1, ← List.take_append_getElem h2, h, e]

theorem specSame_quiet (v1 : Value) (zs : List (Int × Int)) (v2 : Value) (us : List (Int × Int)) (w : World) (h1 : RdP w v1 zs) (h2 : RdP w v2 us) :
    Calls Try.prog 90 #[v1, v2] w fun e w' => e = .returned (.bool (sameB zs us)) ∧ ∃ q, w' = w.drewN q := by
  obtain ⟨A, c, rfl, hl, r1⟩ := RdP_slice h1
  obtain ⟨A2, c2, rfl, hl2, r2⟩ := RdP_slice h2
  clear h1 h2
  have R1 := Lib.hid r1; clear r1
  have R2 := Lib.hid r2; clear r2
  by_cases hlen : zs.length = us.length
  · rw [← hlen]
    have hle : us.length ≤ zs.length ∧ zs.length ≤ us.length := by omega
    clear hlen
    go_enter Try.func90, Try.ntmps90
    go_wp2_with fail
    go_loopw [5] (fun i wr => ∃ k : Nat, k ≤ zs.length ∧ i = .int .i64 k ∧ zs.take k = us.take k ∧ ∃ q, wr = w.drewN q) (fun i _ => zs.length - (intOf i).toNat)
    case atStart => exact ⟨0, by omega, rfl, by simp, 0, World.drewN_zero w⟩
    case round =>
      obtain ⟨k, hk, rfl, ht, hq⟩ := hrel
      have hb : Below w.heap.size w wr := by obtain ⟨q, rfl⟩ := hq; exact kept_drewN (Below.refl _ _) _
      have HQ := Lib.hid hq; clear hq
      by_cases hlt : k < zs.length
      · obtain ⟨b, off, rfl, hbl, hc0, hc1⟩ := R1.out k hlt
        obtain ⟨b2, off2, rfl, hbl2, hd0, hd1⟩ := R2.out k (by omega)
        rw [← kept_cell hb b _ hbl] at hc0 hc1
        rw [← kept_cell hb b2 _ hbl2] at hd0 hd1
        have hstep := take_step ht hlt (by omega)
        have hno : zs[k] ≠ us[k]'(by omega) → sameB zs us = false := fun hn => by
          simp only [sameB, decide_eq_false_iff_not]
          intro he
          subst he
          exact hn rfl
        rw [show zs[k] = (zs[k].1, zs[k].2) from rfl, show us[k]'(by omega) = ((us[k]'(by omega)).1, (us[k]'(by omega)).2) from rfl] at hstep hno
        have Hstep := Lib.hid hstep; clear hstep
        have Hno := Lib.hid hno; clear hno
        have Ht := Lib.hid ht; clear ht
        generalize zs[k].1 = x at *
        generalize zs[k].2 = y at *
        generalize (us[k]'(by omega)).1 = x' at *
        generalize (us[k]'(by omega)).2 = y' at *
        by_cases he : x = x' ∧ y = y'
        · obtain ⟨rfl, rfl⟩ := he
          go_wp2_with fail
          go_quiet (fail)
          go_wp2
          go_roundw
          case rel => exact ⟨k + 1, by omega, by go_num, Hstep.out trivial, drew_more HQ.out _⟩
          case measure => simp [intOf]; omega
        · by_cases hx : x = x'
          · subst hx
            have hy : ¬ y = y' := fun e => he ⟨rfl, e⟩
            have hy1 : (y == y') = false := by simpa using hy
            have hy2 : decide (y = y') = false := by simpa using hy
            have hs := Hno.out (by simpa using hy)
            clear Hno Hstep
            go_wp2_with fail
            go_quiet (fail)
            go_wp2
            go_ret
            exact ⟨by rw [hs]; rfl, drew_more HQ.out _⟩
          · have hx1 : (x == x') = false := by simpa using hx
            have hx2 : decide (x = x') = false := by simpa using hx
            have hs := Hno.out (by simp [hx])
            clear Hno Hstep
            go_wp2_with fail
            go_quiet (fail)
            go_wp2
            go_ret
            exact ⟨by rw [hs]; rfl, drew_more HQ.out _⟩
      · have : k = zs.length := by omega
        subst this
        have hs : sameB zs us = true := by
          rw [List.take_of_length_le (Nat.le_refl _), List.take_of_length_le (by omega)] at ht
          simp [sameB, ht]
        have Ht := Lib.hid ht; clear ht
        go_wp2
        go_ret
        exact ⟨by rw [hs]; rfl, HQ.out⟩
  · have hs : sameB zs us = false := by
      simp only [sameB, decide_eq_false_iff_not]
      intro he
      exact hlen (by rw [he])
    go_enter Try.func90, Try.ntmps90
    go_wp2
    go_ret
    exact ⟨by rw [hs]; rfl, 0, World.drewN_zero w⟩

theorem equal_any (v1 : Value) (zs : List (Int × Int)) (v2 : Value) (us : List (Int × Int)) (w : World) (h1 : RdP w v1 zs) (h2 : RdP w v2 us) :
    Calls Try.prog 93 #[v1, v2] w fun e w' => e = .returned (.bool (sameB zs us)) ∧ Below w.heap.size w w' := by
  obtain ⟨A, c, rfl, hl, r1⟩ := RdP_slice h1
  obtain ⟨A2, c2, rfl, hl2, r2⟩ := RdP_slice h2
  clear h1 h2
  have R1 := Lib.hid r1; clear r1
  have R2 := Lib.hid r2; clear r2
  by_cases hlen : zs.length = us.length
  · rw [← hlen]
    have hle : us.length ≤ zs.length ∧ zs.length ≤ us.length := by omega
    clear hlen
    go_enter Try.func93, Try.ntmps93
    go_wp2_with fail
    go_loopw [13] (fun i wr => ∃ k : Nat, k ≤ zs.length ∧ i = .int .i64 k ∧ zs.take k = us.take k ∧ Below w.heap.size w wr) (fun i _ => zs.length - (intOf i).toNat)
    case atStart => exact ⟨0, by omega, rfl, by simp, Below.refl _ _⟩
    case round =>
      obtain ⟨k, hk, rfl, ht, hb⟩ := hrel
      by_cases hlt : k < zs.length
      · obtain ⟨b, off, rfl, hbl, hc0, hc1⟩ := R1.out k hlt
        obtain ⟨b2, off2, rfl, hbl2, hd0, hd1⟩ := R2.out k (by omega)
        rw [← kept_cell hb b _ hbl] at hc0 hc1
        rw [← kept_cell hb b2 _ hbl2] at hd0 hd1
        have hstep := take_step ht hlt (by omega)
        have hno : zs[k] ≠ us[k]'(by omega) → sameB zs us = false := fun hn => by
          simp only [sameB, decide_eq_false_iff_not]
          intro he
          subst he
          exact hn rfl
        rw [show zs[k] = (zs[k].1, zs[k].2) from rfl, show us[k]'(by omega) = ((us[k]'(by omega)).1, (us[k]'(by omega)).2) from rfl] at hstep hno
        have Hstep := Lib.hid hstep; clear hstep
        have Hno := Lib.hid hno; clear hno
        have Ht := Lib.hid ht; clear ht
        generalize zs[k].1 = x at *
        generalize zs[k].2 = y at *
        generalize (us[k]'(by omega)).1 = x' at *
        generalize (us[k]'(by omega)).2 = y' at *
        by_cases he : x = x' ∧ y = y'
        · obtain ⟨rfl, rfl⟩ := he
          go_wp2_with fail
          go_quiet (fail)
          go_wp2
          go_roundw
          case rel => exact ⟨k + 1, by omega, by go_num, Hstep.out trivial, kept_drewN hb _⟩
          case measure => simp [intOf]; omega
        · by_cases hx : x = x'
          · subst hx
            have hy : ¬ y = y' := fun e => he ⟨rfl, e⟩
            have hy1 : (y == y') = false := by simpa using hy
            have hy2 : decide (y = y') = false := by simpa using hy
            have hs := Hno.out (by simpa using hy)
            clear Hno Hstep
            go_wp2_with fail
            go_quiet (fail)
            go_wp2
            go_ret
            exact ⟨by rw [hs]; rfl, kept_drewN hb _⟩
          · have hx1 : (x == x') = false := by simpa using hx
            have hx2 : decide (x = x') = false := by simpa using hx
            have hs := Hno.out (by simp [hx])
            clear Hno Hstep
            go_wp2_with fail
            go_quiet (fail)
            go_wp2
            go_ret
            exact ⟨by rw [hs]; rfl, kept_drewN hb _⟩
      · have : k = zs.length := by omega
        subst this
        have hs : sameB zs us = true := by
          rw [List.take_of_length_le (Nat.le_refl _), List.take_of_length_le (by omega)] at ht
          simp [sameB, ht]
        have Ht := Lib.hid ht; clear ht
        go_wp2
        go_ret
        exact ⟨by rw [hs]; rfl, hb⟩
  · have hs : sameB zs us = false := by
      simp only [sameB, decide_eq_false_iff_not]
      intro he
      exact hlen (by rw [he])
    go_enter Try.func93, Try.ntmps93
    go_wp2
    go_ret
    exact ⟨by rw [hs]; rfl, Below.refl _ _⟩

theorem implSameC_any (v1 : Value) (zs : List (Int × Int)) (v2 : Value) (us : List (Int × Int)) (w : World) (h1 : RdP w v1 zs) (h2 : RdP w v2 us) :
    Calls Try.prog 69 #[v1, v2] w fun e w' => e = .returned (.bool (sameB zs us)) ∧ Below w.heap.size w w' := by
  go_enter Try.func69, Try.ntmps69
  go_wp2_with fail
  refine (equal_any _ zs _ us _ h1 h2).mono ?_
  rintro e w1 ⟨rfl, hb⟩
  go_wp2
  go_ret
  exact ⟨rfl, hb⟩

theorem str_ne {a b : ByteArray} (h : ¬ a = b) : (a.toList == b.toList) = false := by
  rw [ByteArray.toList_eq, ByteArray.toList_eq, beq_eq_false_iff_ne]
  intro he
  apply h
  cases a
  cases b
  simpa [Array.toList_inj] using he

/-- A crane's fields. -/
structure Cr where
  nm : ByteArray
  x : Int
  y : Int
  h : Int
  j : Int
  b : Int
  ch : List (Int × Int)

/-- A crane, cell by cell; c: its chart's slice. -/
def encK (p : Cr × Value) : List Value := [.string p.1.nm, .int .i64 p.1.x, .int .i64 p.1.y, .int .i64 p.1.h, .int .i64 p.1.j, .int .i64 p.1.b, p.2]

def wfK (k : Cr) : Prop := k.nm.size ≤ maxLen ∧ (Lit.int .i64 k.x).wf = true ∧ (Lit.int .i64 k.y).wf = true ∧ (Lit.int .i64 k.h).wf = true ∧ (Lit.int .i64 k.j).wf = true ∧ (Lit.int .i64 k.b).wf = true

def flatK (ks : List (Cr × Value)) : List Value := ks.flatMap encK

theorem flatK_len (ks : List (Cr × Value)) : (flatK ks).length = ks.length * 7 := flat_len (enc := encK) (fun _ => rfl) ks

theorem flatK_at (ks : List (Cr × Value)) (k j : Nat) (h : k < ks.length) (hj : j < 7) : (flatK ks)[k * 7 + j]? = (encK ks[k])[j]? := flat_at (enc := encK) (sz := 7) (fun _ => rfl) ks k j h hj

/-- The slice value reads as a list of cranes: their fields and their charts' slices. -/
def RdK (w : World) (v : Value) (ks : List (Cr × Value)) : Prop := RdF w v ks.length 7 (flatK ks) ∧ ∀ p ∈ ks, RdP w p.2 p.1.ch

theorem RdK_kept {W w1 : World} {v : Value} {ks : List (Cr × Value)} (h : RdK W v ks) (hb : Below W.heap.size W w1) : RdK w1 v ks := ⟨RdF_kept h.1 hb, fun p hp => RdP_kept (h.2 p hp) hb⟩

/-- A crane lies at a place. -/
def CrAt (w : World) (b o : Nat) (k : Cr) (c : Value) : Prop :=
  b < w.heap.size ∧ (w.cell? ⟨b, o, none⟩ = some (.string k.nm) ∧ w.cell? ⟨b, o + 1, none⟩ = some (.int .i64 k.x) ∧ w.cell? ⟨b, o + 2, none⟩ = some (.int .i64 k.y) ∧ w.cell? ⟨b, o + 3, none⟩ = some (.int .i64 k.h) ∧ w.cell? ⟨b, o + 4, none⟩ = some (.int .i64 k.j) ∧ w.cell? ⟨b, o + 5, none⟩ = some (.int .i64 k.b) ∧ w.cell? ⟨b, o + 6, none⟩ = some c) ∧ RdP w c k.ch

theorem CrAt_kept {W w1 : World} {b o : Nat} {k : Cr} {c : Value} (h : CrAt W b o k c) (hb : Below W.heap.size W w1) : CrAt w1 b o k c := by
  obtain ⟨hlt, ⟨h0, h1, h2, h3, h4, h5, h6⟩, hr⟩ := h
  refine ⟨Nat.lt_of_lt_of_le hlt hb.size, ⟨?_, ?_, ?_, ?_, ?_, ?_, ?_⟩, RdP_kept hr hb⟩ <;> (rw [kept_cell hb b _ hlt]; assumption)

theorem RdK_at {w : World} {v : Value} {ks : List (Cr × Value)} (h : RdK w v ks) : ∃ A c, v = .slice A ks.length c ∧ ks.length ≤ 9223372036854775807 ∧
    ∀ i, (hi : i < ks.length) → ∃ b off, A = some ⟨b, off, none⟩ ∧ CrAt w b (off + i * 7) ks[i].1 ks[i].2 := by
  obtain ⟨⟨hl, hx, A, c, rfl, hr⟩, hcs⟩ := h
  refine ⟨A, c, rfl, hl, fun i hi => ?_⟩
  obtain ⟨b, off, rfl, hlt, h0⟩ := hr (i * 7) (by omega)
  have at_ : ∀ j, j < 7 → w.cell? ⟨b, off + (i * 7 + j), none⟩ = (encK ks[i])[j]? := by
    intro j hj
    obtain ⟨b', off', e, _, h1⟩ := hr (i * 7 + j) (by omega)
    simp only [Option.some.injEq, Addr.mk.injEq, and_true] at e
    obtain ⟨rfl, rfl⟩ := e
    rw [h1, flatK_at ks i j hi hj]
  refine ⟨b, off, rfl, hlt, ⟨?_, ?_, ?_, ?_, ?_, ?_, ?_⟩, hcs _ (List.getElem_mem hi)⟩
  · exact at_ 0 (by omega)
  · exact at_ 1 (by omega)
  · exact at_ 2 (by omega)
  · exact at_ 3 (by omega)
  · exact at_ 4 (by omega)
  · exact at_ 5 (by omega)
  · exact at_ 6 (by omega)

/-- Cells that read as a slice of structs of two numbers. -/
theorem open_pairsC {H : Type} {enc : TypeId × Value → H} {P : Program} {W : World} {t e : TypeId} {f0 f1 : Field} {base fuel : Nat} {sp : Nat → Bool} {held : Bool} {cs : List Value} {z : DataW H × List MemPlace}
    (ht : P.underlying t = some (.slice e)) (he : P.underlying e = some (.struct #[f0, f1])) (i0 : P.underlying f0.type = some (.int .i64)) (i1 : P.underlying f1.type = some (.int .i64))
    (ce : P.cellsOf e = 2) (o0 : f0.offset = 0) (o1 : f1.offset = 1) (c0 : P.cellsOf f0.type = 1) (c1 : P.cellsOf f1.type = 1)
    (h : DataW.trod enc P W base sp held fuel t cs = some z) :
    ∃ (v : Value) (zs : List (Int × Int)), cs = [v] ∧ RdP W v zs := by
  rcases Deep.open_slice_pairs ht he ce o0 o1 c0 c1 h with ⟨hcs, hx⟩ | ⟨a, len, cap, m, n, V0, V1, D0, D1, P0, P1, hcs, _, hl, hm, hmm, hx, hi⟩
  · exact ⟨_, [], hcs, ⟨by simp, rfl, none, 0, rfl, fun i hi => by simp at hi⟩⟩
  · have hlm : len ≤ m := by rw [hmm]; split <;> omega
    have each : ∀ i, i < len → ∃ q : Int × Int, V0 i = .int .i64 q.1 ∧ V1 i = .int .i64 q.2 := by
      intro i hlt
      obtain ⟨_, _, g0, g1⟩ := hi i (by omega)
      obtain ⟨x, e0, _, w0⟩ := DataW.trod_int i0 g0
      obtain ⟨y, e1, _, w1⟩ := DataW.trod_int i1 g1
      simp at e0 e1
      exact ⟨(x, y), e0, e1⟩
    obtain ⟨q, hq⟩ := Deep.choose_lt each
    obtain ⟨b, off, spot⟩ := a
    refine ⟨_, (List.range len).map q, hcs, ⟨by simp; unfold maxLen at hm; omega, by rw [flatP_len], some ⟨b, off, spot⟩, cap, by simp, fun j hj => ?_⟩⟩
    simp only [List.length_map, List.length_range] at hj
    obtain ⟨h0, h1, _, _⟩ := hi (j / 2) (by omega)
    have hspot : spot = none := by simpa [Addr.add] using World.cell?_spot (hi 0 (by omega)).1
    subst hspot
    rw [add_plain] at h0 h1
    have hat := flatP_at ((List.range len).map q) (j / 2) (by simp; omega)
    simp only [List.getElem_map, List.getElem_range] at hat
    rw [← (hq (j / 2) (by omega)).1, ← (hq (j / 2) (by omega)).2] at hat
    refine ⟨b, off, rfl, World.block_lt_of_cell? _ _ h0, ?_⟩
    rcases Nat.mod_two_eq_zero_or_one j with hp | hp
    · have e : j / 2 * 2 = j := by omega
      rw [e] at hat h0
      rw [hat.1, ← h0]
    · have e : j / 2 * 2 + 1 = j := by omega
      rw [e] at hat h1
      rw [hat.2, ← h1]

set_option maxRecDepth 100000 in
/-- Cells that read as a crane. -/
theorem open_craneC {H : Type} {enc : TypeId × Value → H} {W : World} {base fuel : Nat} {sp : Nat → Bool} {held : Bool} {cs : List Value} {z : DataW H × List MemPlace}
    (h : DataW.trod enc Try.prog W base sp held fuel 102 cs = some z) : ∃ (k : Cr) (c : Value), cs = encK (k, c) ∧ RdP W c k.ch ∧ wfK k := by
  obtain ⟨xs, n, _, _, hl, hlen, hf⟩ := DataW.trod_struct Try.underlying102 h
  have hl7 : cs.length = 7 := hl.trans (by kernel_rfl)
  have h0 : DataW.trod enc Try.prog W base sp held n 9 ((cs.drop 0).take (Try.prog.cellsOf 9)) = xs[0]? := hf 0 _ rfl
  have h1 : DataW.trod enc Try.prog W base sp held n 99 ((cs.drop 1).take (Try.prog.cellsOf 99)) = xs[1]? := hf 1 _ rfl
  have h2 : DataW.trod enc Try.prog W base sp held n 2 ((cs.drop 3).take (Try.prog.cellsOf 2)) = xs[2]? := hf 2 _ rfl
  have h3 : DataW.trod enc Try.prog W base sp held n 2 ((cs.drop 4).take (Try.prog.cellsOf 2)) = xs[3]? := hf 3 _ rfl
  have h4 : DataW.trod enc Try.prog W base sp held n 2 ((cs.drop 5).take (Try.prog.cellsOf 2)) = xs[4]? := hf 4 _ rfl
  have h5 : DataW.trod enc Try.prog W base sp held n 100 ((cs.drop 6).take (Try.prog.cellsOf 100)) = xs[5]? := hf 5 _ rfl
  have z0 : Try.prog.cellsOf 9 = 1 := by kernel_rfl
  have z1 : Try.prog.cellsOf 99 = 2 := by kernel_rfl
  have z2 : Try.prog.cellsOf 2 = 1 := by kernel_rfl
  have z3 : Try.prog.cellsOf 100 = 1 := by kernel_rfl
  match cs, hl7 with
  | [c0, c1, c2, c3, c4, c5, c6], _ =>
    have i0 : xs[0]? = some (xs[0]'(by rw [hlen]; decide)) := List.getElem?_eq_getElem _
    have i1 : xs[1]? = some (xs[1]'(by rw [hlen]; decide)) := List.getElem?_eq_getElem _
    have i2 : xs[2]? = some (xs[2]'(by rw [hlen]; decide)) := List.getElem?_eq_getElem _
    have i3 : xs[3]? = some (xs[3]'(by rw [hlen]; decide)) := List.getElem?_eq_getElem _
    have i4 : xs[4]? = some (xs[4]'(by rw [hlen]; decide)) := List.getElem?_eq_getElem _
    have i5 : xs[5]? = some (xs[5]'(by rw [hlen]; decide)) := List.getElem?_eq_getElem _
    simp only [i0, i1, i2, i3, i4, i5, z0, z1, z2, z3, List.drop_succ_cons, List.drop_zero, List.take_succ_cons, List.take_zero] at h0 h1 h2 h3 h4 h5
    obtain ⟨s, e0, _, ws⟩ := DataW.trod_string Try.underlying9 h0
    obtain ⟨y0, y1, m, _, _, p0', p1'⟩ := trod_struct2 Try.underlying99 h1
    have p0 : DataW.trod enc Try.prog W base sp held m 2 (([c1, c2].drop 0).take (Try.prog.cellsOf 2)) = some y0 := p0'
    have p1 : DataW.trod enc Try.prog W base sp held m 2 (([c1, c2].drop 1).take (Try.prog.cellsOf 2)) = some y1 := p1'
    simp only [z2, List.drop_succ_cons, List.drop_zero, List.take_succ_cons, List.take_zero] at p0 p1
    obtain ⟨ix, e1, _, w1⟩ := DataW.trod_int Try.underlying2 p0
    obtain ⟨iy, e2, _, w2⟩ := DataW.trod_int Try.underlying2 p1
    obtain ⟨ih, e3, _, w3⟩ := DataW.trod_int Try.underlying2 h2
    obtain ⟨ij, e4, _, w4⟩ := DataW.trod_int Try.underlying2 h3
    obtain ⟨ib, e5, _, w5⟩ := DataW.trod_int Try.underlying2 h4
    obtain ⟨c, zs, e6, hr⟩ := open_pairsC Try.underlying100 Try.underlying135 Try.underlying2 Try.underlying2 (by kernel_rfl) rfl rfl (by kernel_rfl) (by kernel_rfl) h5
    simp only [List.cons.injEq, and_true] at e0 e1 e2 e3 e4 e5 e6
    subst e0 e1 e2 e3 e4 e5 e6
    exact ⟨⟨s, ix, iy, ih, ij, ib, zs⟩, _, rfl, hr, ws, w1, w2, w3, w4, w5⟩

/-- A datum that is a list of n elements. -/
def DataLen {H : Type} (d : DataW H) (n : Nat) : Prop := (d = .nil ∧ n = 0) ∨ ∃ es rs, d = .slice es rs ∧ es.length = n

/-- What is known of an argument's cranes. -/
def wfS (ks : List (Cr × Value)) : Prop := (∀ p ∈ ks, wfK p.1) ∧ ks.length ≤ maxLen

set_option maxRecDepth 100000 in
/-- Cells that read as a slice of cranes. -/
theorem open_cranesC {H : Type} {enc : TypeId × Value → H} {W : World} {base fuel : Nat} {sp : Nat → Bool} {held : Bool} {cs : List Value} {z : DataW H × List MemPlace}
    (h : DataW.trod enc Try.prog W base sp held fuel 37 cs = some z) : ∃ (v : Value) (ks : List (Cr × Value)), cs = [v] ∧ RdK W v ks ∧ wfS ks ∧ DataLen z.1 ks.length := by
  rcases Deep.open_slice Try.underlying37 h with ⟨hcs, hx⟩ | ⟨a, len, cap, m, n, D, Pl, hcs, _, hl, hm, hmm, hx, hi⟩
  · exact ⟨_, [], hcs, ⟨⟨by simp, rfl, none, 0, rfl, fun i hi => by simp at hi⟩, fun p h => by cases h⟩, ⟨(fun p h => by cases h), by simp⟩, Or.inl ⟨by rw [hx], rfl⟩⟩
  · have hlm : len ≤ m := by rw [hmm]; split <;> omega
    have ce : Try.prog.cellsOf 102 = 7 := by kernel_rfl
    have each : ∀ i, i < len → ∃ q : Option (Cr × Value), ∃ p, q = some p ∧ W.cells? base (a.add (i * 7)) 7 = some (encK p) ∧ RdP W p.2 p.1.ch ∧ wfK p.1 := by
      intro i hlt
      obtain ⟨cs', g0, g1⟩ := hi i (by omega)
      obtain ⟨k, c, e, hr, wk⟩ := open_craneC g1
      rw [ce, e] at g0
      exact ⟨some (k, c), (k, c), rfl, g0, hr, wk⟩
    obtain ⟨q, hq⟩ := Deep.choose_lt each
    have each2 : ∀ i, i < len → (q i).isSome = true := fun i hi => by obtain ⟨p, e, _⟩ := hq i hi; rw [e]; rfl
    obtain ⟨b, off, spot⟩ := a
    let ks : List (Cr × Value) := (List.range len).attach.map fun i => (q i.1).get (each2 i.1 (List.mem_range.1 i.2))
    have hkl : ks.length = len := by simp [ks]
    have hks : ∀ i (hi : i < ks.length), ∃ p, ks[i] = p ∧ q i = some p := by
      intro i hi
      refine ⟨ks[i], rfl, ?_⟩
      simp [ks]
    refine ⟨_, ks, hcs, ⟨⟨by rw [hkl]; unfold maxLen at hm; omega, by rw [flatK_len], some ⟨b, off, spot⟩, cap, by rw [hkl], fun j hj => ?_⟩, ?_⟩, ⟨?_, by rw [hkl]; omega⟩, Or.inr ⟨_, _, by rw [hx], by rw [hkl]; simp⟩⟩
    · rw [hkl] at hj
      obtain ⟨p, e, hc, _⟩ := hq (j / 7) (by omega)
      obtain ⟨p', e', e2⟩ := hks (j / 7) (by omega)
      rw [e] at e2
      cases e2
      obtain ⟨_, _, hcell⟩ := World.cells?_some hc
      have hspot : spot = none := by
        obtain ⟨p0, _, hc0, _⟩ := hq 0 (by omega)
        obtain ⟨_, _, hcell0⟩ := World.cells?_some hc0
        have := hcell0 0 (by omega)
        rw [show (encK p0)[0]? = some (.string p0.1.nm) from rfl] at this
        simpa [Addr.add] using World.cell?_spot this
      subst hspot
      have h7 := hcell (j % 7) (by omega)
      rw [add_plain, add_plain, ← e'] at h7
      rw [← flatK_at ks (j / 7) (j % 7) (by omega) (by omega), show j / 7 * 7 + j % 7 = j by omega, Nat.add_assoc, show j / 7 * 7 + j % 7 = j by omega] at h7
      refine ⟨b, off, rfl, ?_, h7⟩
      have hx : (flatK ks)[j]? = some ((flatK ks)[j]'(by rw [flatK_len]; omega)) := List.getElem?_eq_getElem _
      rw [hx] at h7
      exact World.block_lt_of_cell? _ _ h7
    · intro p hp
      obtain ⟨i, hi, rfl⟩ := List.mem_iff_getElem.1 hp
      obtain ⟨p, e, e2⟩ := hks i hi
      obtain ⟨p', e', _, hr, _⟩ := hq i (by omega)
      rw [e'] at e2
      cases e2
      rw [e]
      exact hr
    · intro p hp
      obtain ⟨i, hi, rfl⟩ := List.mem_iff_getElem.1 hp
      obtain ⟨p, e, e2⟩ := hks i hi
      obtain ⟨p', e', _, hr, hw⟩ := hq i (by omega)
      rw [e'] at e2
      cases e2
      rw [e]
      exact hw

set_option maxRecDepth 100000 in
theorem open_site {H : Type} {enc : TypeId × Value → H} {W : World} {base : Nat} {v : Value} {d : DataW H} {p : List MemPlace}
    (hv : Value.okWide Try.prog W .any base 39 v) (h : DataW.Trod enc Try.prog W 0 (fun _ => true) true 39 v d p) :
    ∃ (c : Value) (ks : List (Cr × Value)), v = .agg #[c] ∧ RdK W c ks ∧ wfS ks ∧ ∃ y, d = .agg [y] ∧ DataLen y ks.length := by
  obtain ⟨cs, rfl, hsz⟩ := okWide_struct Try.underlying39 hv
  obtain ⟨fuel, hf⟩ := h
  obtain ⟨y0, n, hx, hl, h0'⟩ := trod_struct1 Try.underlying39 (show DataW.trod enc Try.prog W 0 (fun _ => true) true fuel 39 cs.toList = some (d, p) from by simpa [Value.cells] using hf)
  have h0 : DataW.trod enc Try.prog W 0 (fun _ => true) true n 37 ((cs.toList.drop 0).take (Try.prog.cellsOf 37)) = some y0 := h0'
  have hl1 : cs.size = 1 := hsz.trans (by kernel_rfl)
  have z0 : Try.prog.cellsOf 37 = 1 := by kernel_rfl
  obtain ⟨c, rfl⟩ : ∃ c, cs = #[c] := by
    rcases cs with ⟨l⟩
    match l, hl1 with
    | [c], _ => exact ⟨c, rfl⟩
  simp only [z0, List.drop_zero, List.take_succ_cons, List.take_zero] at h0
  obtain ⟨v, ks, e, hr, hw, hdl⟩ := open_cranesC h0
  simp at e
  subst e
  exact ⟨_, ks, rfl, hr, hw, y0.1, congrArg Prod.fst hx, hdl⟩

/-- What is left of a measure behind a crane; less than 0: too much. -/
def szK (k : Cr) (left : Int) : Int := if (k.nm.size : Int) + (k.ch.length : Int) ≤ left then left - k.nm.size - k.ch.length else -1

theorem szK_any (k : Cr) (c : Value) (left : Int) (h : 0 ≤ left ∧ left ≤ 1000000) (hs : k.nm.size ≤ maxLen) (w : World) (hr : RdP w c k.ch) :
    Calls Try.prog 64 #[.agg #[.string k.nm, .int .i64 k.x, .int .i64 k.y, .int .i64 k.h, .int .i64 k.j, .int .i64 k.b, c], .int .i64 left] w fun e w' => e = .returned (.int .i64 (szK k left)) ∧ Below w.heap.size w w' := by
  obtain ⟨A, cp, rfl, hl, _⟩ := RdP_slice hr
  clear hr
  unfold maxLen at hs
  unfold szK
  obtain ⟨s, x, y, hh, j, b, zs⟩ := k
  dsimp only at *
  by_cases h1 : left < (s.size : Int)
  · rw [if_neg (by omega)]
    go_enter Try.func64, Try.ntmps64
    go_wp2
    go_ret
    exact ⟨rfl, by go_grown⟩
  · by_cases h2 : (s.size : Int) + (zs.length : Int) ≤ left
    · rw [if_pos h2]
      have e : (if (zs.length : Int) ≤ left - s.size then left - s.size - zs.length else -1) = left - s.size - zs.length := if_pos (by omega)
      go_enter Try.func64, Try.ntmps64
      go_wp2_with (go_at_call 89; refine ((szC_any _ _ _ _ (by omega) (by omega) _)).mono ?_; rintro e w1 ⟨rfl, rfl⟩)
      go_ret
      exact ⟨rfl, by go_grown⟩
    · rw [if_neg h2]
      go_enter Try.func64, Try.ntmps64
      go_wp2_with (go_at_call 89; refine ((szC_any _ _ _ _ (by omega) (by omega) _)).mono ?_; rintro e w1 ⟨rfl, rfl⟩)
      go_ret
      exact ⟨rfl, by go_grown⟩

theorem CopyC_set {w : World} {lo hi b o : Nat} {v u : Value} {zs : List (Int × Int)} (h : CopyC w lo hi v zs) (hb : b < lo) : CopyC (w.setCell ⟨b, o, none⟩ u) lo hi v zs := by
  obtain ⟨hl, g, e, hr⟩ := h
  exact ⟨hl, g, e, RowF_far hr (grown_set _ _ _) (fun g hg => by simp at hg; omega)⟩

theorem CopyC_lo {w : World} {lo lo' hi hi' : Nat} {v : Value} {zs : List (Int × Int)} (h : CopyC w lo hi v zs) (hl : lo' ≤ lo) (hh : hi ≤ hi') : CopyC w lo' hi' v zs := by
  obtain ⟨hn, g, e, hr⟩ := h
  exact ⟨hn, g, e, RowF_lo hr hl hh⟩

theorem toK_false (k : Cr) (c : Value) (w : World) (hr : RdP w c k.ch) (hn : k.ch.length ≤ 1000000) :
    Calls Try.prog 67 #[.agg #[.string k.nm, .int .i64 k.x, .int .i64 k.y, .int .i64 k.h, .int .i64 k.j, .int .i64 k.b, c], .bool false] w fun e w' => ∃ c', e = .returned (.agg #[.string k.nm, .int .i64 k.x, .int .i64 k.y, .int .i64 k.h, .int .i64 k.j, .int .i64 k.b, c']) ∧ CopyC w' w.heap.size w'.heap.size c' k.ch ∧ Below w.heap.size w w' := by
  obtain ⟨A0, cp0, rfl, _, _⟩ := RdP_slice hr
  have H := Lib.hid hr; clear hr
  obtain ⟨s, x, y, hh, j, b, zs⟩ := k
  dsimp only at *
  go_enter Try.func67, Try.ntmps67
  go_wp2_with fail
  refine (toPoint_any _ _ _).mono ?_
  rintro e w1 ⟨rfl, b1⟩
  refine kept_at b1 (w.heap.size) (by go_size) fun c1_0 z1_0 s1_0 => ?_
  refine kept_at b1 (w.heap.size + 1) (by go_size) fun c1_1 z1_1 s1_1 => ?_
  refine kept_at b1 (w.heap.size + 2) (by go_size) fun c1_2 z1_2 s1_2 => ?_
  replace b1 := kept_trans (a := w) (by go_grown) b1
  have l1 := kept_cell b1
  have zz1 := b1.size
  go_wp2_with fail
  refine (toC_false _ zs _ (RdP_kept H.out (by go_grown)) hn).mono ?_
  rintro e w2 ⟨c', rfl, hc, hb2⟩
  obtain ⟨A1, cp1, rfl, _, _⟩ := RdP_slice (CopyC_rd hc)
  have HC := Lib.hid hc; clear hc
  refine kept_at hb2 (w.heap.size + 1) (by go_size) fun c2_1 z2_1 s2_1 => ?_
  refine kept_at hb2 (w.heap.size + 2) (by go_size) fun c2_2 z2_2 s2_2 => ?_
  have b2 := kept_trans (a := w) (by go_grown) hb2
  go_wp2
  (try simp only [Exit.inBlock, Exit.then])
  refine bodyPost_ret (v := .agg #[.string s, .int .i64 x, .int .i64 y, .int .i64 hh, .int .i64 j, .int .i64 b, .slice A1 zs.length cp1]) ?_ rfl ⟨_, rfl, ?_, ?_⟩
  · rw [results_cell1 rfl]
    go_simp
  · refine CopyC_lo (lo := w1.heap.size) ?_ (by omega) (show w2.heap.size ≤ _ by simp)
    have := HC.out
    simp only [World.size_setCell] at this
    exact CopyC_set (CopyC_set (CopyC_set (CopyC_set (CopyC_set (CopyC_set (CopyC_set (CopyC_set this (by omega)) (by omega)) (by omega)) (by omega)) (by omega)) (by omega)) (by omega)) (by omega)
  · go_grown

theorem toC_bare (v : Value) (zs : List (Int × Int)) (w : World) (h : RdP w v zs) (hn : zs.length ≤ 1000000) :
    Calls Try.prog 91 #[v, .bool true] w fun e w' => ∃ v', e = .returned v' ∧ RowF 35 2 w' w.heap.size w'.heap.size v' zs.length (flatP zs) ∧ Below w.heap.size w w' := by
  by_cases hz : zs = []
  · subst hz
    obtain ⟨A, c, rfl, hl, _⟩ := RdP_slice h
    clear h
    go_enter Try.func91, Try.ntmps91
    go_wp2
    go_ret
    exact ⟨_, rfl, RowF_nil _ _ _ _ _, Below.refl _ _⟩
  · exact (toC_row v zs true w h hn (Or.inr hz)).mono fun e w' ⟨v', he, hc, hb⟩ => ⟨v', he, CopyC_row hc, hb⟩

theorem toK_true (k : Cr) (c : Value) (w : World) (hr : RdP w c k.ch) (hn : k.ch.length ≤ 1000000) :
    Calls Try.prog 67 #[.agg #[.string k.nm, .int .i64 k.x, .int .i64 k.y, .int .i64 k.h, .int .i64 k.j, .int .i64 k.b, c], .bool true] w fun e w' => ∃ c', e = .returned (.agg #[.string k.nm, .int .i64 k.x, .int .i64 k.y, .int .i64 k.h, .int .i64 k.j, .int .i64 k.b, c']) ∧ RowF 35 2 w' w.heap.size w'.heap.size c' k.ch.length (flatP k.ch) ∧ Below w.heap.size w w' := by
  obtain ⟨A0, cp0, rfl, _, _⟩ := RdP_slice hr
  have H := Lib.hid hr; clear hr
  obtain ⟨s, x, y, hh, j, b, zs⟩ := k
  dsimp only at *
  go_enter Try.func67, Try.ntmps67
  go_wp2_with fail
  refine (toPoint_any _ _ _).mono ?_
  rintro e w1 ⟨rfl, b1⟩
  refine kept_at b1 (w.heap.size) (by go_size) fun c1_0 z1_0 s1_0 => ?_
  refine kept_at b1 (w.heap.size + 1) (by go_size) fun c1_1 z1_1 s1_1 => ?_
  refine kept_at b1 (w.heap.size + 2) (by go_size) fun c1_2 z1_2 s1_2 => ?_
  replace b1 := kept_trans (a := w) (by go_grown) b1
  have l1 := kept_cell b1
  have zz1 := b1.size
  go_wp2_with fail
  refine (toC_bare _ zs _ (RdP_kept H.out (by go_grown)) hn).mono ?_
  rintro e w2 ⟨c', rfl, hc, hb2⟩
  obtain ⟨A1, cp1, rfl, _, _⟩ := RdP_slice (RowF_rd hc)
  have HC := Lib.hid hc; clear hc
  refine kept_at hb2 (w.heap.size + 1) (by go_size) fun c2_1 z2_1 s2_1 => ?_
  refine kept_at hb2 (w.heap.size + 2) (by go_size) fun c2_2 z2_2 s2_2 => ?_
  have b2 := kept_trans (a := w) (by go_grown) hb2
  go_wp2
  (try simp only [Exit.inBlock, Exit.then])
  refine bodyPost_ret (v := .agg #[.string s, .int .i64 x, .int .i64 y, .int .i64 hh, .int .i64 j, .int .i64 b, .slice A1 zs.length cp1]) ?_ rfl ⟨_, rfl, ?_, ?_⟩
  · rw [results_cell1 rfl]
    go_simp
  · refine RowF_lo (lo := w1.heap.size) ?_ (by omega) (show w2.heap.size ≤ _ by simp)
    have := HC.out
    simp only [World.size_setCell] at this
    exact RowF_set (RowF_set (RowF_set (RowF_set (RowF_set (RowF_set (RowF_set (RowF_set this (by omega)) (by omega)) (by omega)) (by omega)) (by omega)) (by omega)) (by omega)) (by omega)
  · go_grown

theorem intactK_same (k : Cr) (c1 c2 : Value) (lo1 hi1 lo2 hi2 : Nat) (w : World) (h1 : CopyC w lo1 hi1 c1 k.ch) (h2 : CopyC w lo2 hi2 c2 k.ch) :
    Calls Try.prog 70 #[.agg #[.string k.nm, .int .i64 k.x, .int .i64 k.y, .int .i64 k.h, .int .i64 k.j, .int .i64 k.b, c1], .agg #[.string k.nm, .int .i64 k.x, .int .i64 k.y, .int .i64 k.h, .int .i64 k.j, .int .i64 k.b, c2]] w fun e w' => e = .returned (.bool true) ∧ Below w.heap.size w w' := by
  obtain ⟨A1, cp1, rfl, _, _⟩ := RdP_slice (CopyC_rd h1)
  obtain ⟨A2, cp2, rfl, _, _⟩ := RdP_slice (CopyC_rd h2)
  have H1 := Lib.hid h1; clear h1
  have H2 := Lib.hid h2; clear h2
  obtain ⟨s, x, y, hh, j, b, zs⟩ := k
  dsimp only at *
  go_enter Try.func70, Try.ntmps70
  go_wp2_with fail
  refine (eqPoint_same _ _ _).mono ?_
  rintro e w1 ⟨rfl, b1⟩
  refine kept_at b1 (w.heap.size) (by go_size) fun c1_0 z1_0 s1_0 => ?_
  refine kept_at b1 (w.heap.size + 1) (by go_size) fun c1_1 z1_1 s1_1 => ?_
  replace b1 := kept_trans (a := w) (by go_grown) b1
  have l1 := kept_cell b1
  have zz1 := b1.size
  go_wp2_with fail
  refine (intactC_same _ _ zs _ _ _ _ _ (CopyC_kept H1.out (by go_grown)) (CopyC_kept H2.out (by go_grown))).mono ?_
  rintro e w2 ⟨rfl, hb2⟩
  have b2 := kept_trans (a := w) (by go_grown) hb2
  go_wp2
  go_ret
  exact ⟨rfl, b2⟩

/-- The measure of a list of cranes, beside its length. -/
def totK : List (Cr × Value) → Nat
  | [] => 0
  | p :: ks => p.1.nm.size + p.1.ch.length + totK ks

theorem totK_step (ks : List (Cr × Value)) (i : Nat) (h : i < ks.length) : totK (ks.drop i) = ks[i].1.nm.size + ks[i].1.ch.length + totK (ks.drop (i + 1)) := by
  rw [List.drop_eq_getElem_cons h]
  rfl

theorem szKs_any (v : Value) (ks : List (Cr × Value)) (left : Int) (w : World) (h : RdK w v ks) (hl : 0 ≤ left ∧ left ≤ 1000000) (hw : ∀ p ∈ ks, wfK p.1) :
    Calls Try.prog 44 #[v, .int .i64 left] w fun e w' => e = .returned (.int .i64 (if (ks.length : Int) + totK ks ≤ left then left - ks.length - totK ks else -1)) ∧ Below w.heap.size w w' := by
  obtain ⟨A, c, rfl, hln, r⟩ := RdK_at h
  clear h
  by_cases h1 : left < (ks.length : Int)
  · rw [if_neg (by omega)]
    go_enter Try.func44, Try.ntmps44
    go_wp2
    go_ret
    exact ⟨rfl, Below.refl _ _⟩
  have R := Lib.hid r; clear r
  have HW := Lib.hid hw; clear hw
  have HS := Lib.hid (fun i (hi : i < ks.length) => totK_step ks i hi)
  have hd0 : totK (ks.drop 0) = totK ks := by simp
  have hdn : totK (ks.drop ks.length) = 0 := by simp [totK]
  have HD0 := Lib.hid hd0; clear hd0
  have HDN := Lib.hid hdn; clear hdn
  go_enter Try.func44, Try.ntmps44
  go_wp2_with fail
  go_loopw [1, 5] (fun q i wr => ∃ (j : Nat) (l : Int), j ≤ ks.length ∧ i = .int .i64 j ∧ q = .int .i64 l ∧ 0 ≤ l ∧ l ≤ 1000000 ∧ l - totK (ks.drop j) = left - ks.length - totK ks ∧ Below w.heap.size w wr) (fun _ i _ => ks.length - (intOf i).toNat)
  case atStart => exact ⟨0, left - ks.length, by omega, rfl, by simp [IntWalk.i64_in, IntWalk.wrap64_in, *] <;> omega, by omega, by omega, by rw [HD0.out], Below.refl _ _⟩
  case round =>
    obtain ⟨j, l, hj, rfl, rfl, h0, h1, heq, hb⟩ := hrel
    by_cases hlt : j < ks.length
    · obtain ⟨b, off, rfl, hk⟩ := R.out j hlt
      have hs := HS.out j hlt
      have hwk := (HW.out ks[j] (List.getElem_mem hlt)).1
      have hk := CrAt_kept hk hb
      generalize ks[j].1 = k at *
      generalize ks[j].2 = cv at *
      obtain ⟨hlb, ⟨c0, c1, c2, c3, c4, c5, c6⟩, hr⟩ := hk
      obtain ⟨A2, cp2, rfl, _, _⟩ := RdP_slice hr
      have HZ := Lib.hid (szK_any k (.slice A2 k.ch.length cp2) l ⟨h0, h1⟩ hwk wr hr)
      clear hr
      have hszk : szK k l = if (k.nm.size : Int) + (k.ch.length : Int) ≤ l then l - k.nm.size - k.ch.length else -1 := rfl
      generalize szK k l = z at *
      by_cases hz : (k.nm.size : Int) + (k.ch.length : Int) ≤ l
      · rw [if_pos hz] at hszk
        have hz0 : ¬ z < 0 := by omega
        go_wp2_with fail
        refine HZ.out.mono ?_
        rintro e w1 ⟨rfl, hb1⟩
        go_wp2
        go_roundw
        case rel => exact ⟨j + 1, _, by omega, by go_num, rfl, by omega, by omega, by omega, kept_trans hb hb1⟩
        case measure => simp [intOf]; omega
      · rw [if_neg hz] at hszk
        subst hszk
        go_wp2_with fail
        refine HZ.out.mono ?_
        rintro e w1 ⟨rfl, hb1⟩
        go_wp2
        go_ret
        exact ⟨by first | rfl | rw [if_neg (by omega)], kept_trans hb hb1⟩
    · have : j = ks.length := by omega
      subst this
      rw [HDN.out] at heq
      go_wp2
      go_ret
      have hE : (if (ks.length : Int) + (totK ks : Nat) ≤ left then left - (ks.length : Int) - (totK ks : Nat) else -1) = l := by rw [if_pos (by omega)]; omega
      exact ⟨by first | (rw [hE]; rfl) | (rw [show left - (ks.length : Int) - (totK ks : Nat) = l by omega]; rfl), hb⟩

def fillK : Cr := ⟨⟨#[126, 115, 112, 97, 114, 101, 126]⟩, -7000000000000000101, -7000000000000000101, -7000000000000000101, -7000000000000000101, -7000000000000000101, [fillP]⟩

theorem fillPoint_any (w : World) :
    Calls Try.prog 75 #[] w fun e w' => e = .returned (.agg #[.int .i64 (-7000000000000000101), .int .i64 (-7000000000000000101)]) ∧ Below w.heap.size w w' := by
  go_enter Try.func75, Try.ntmps75
  go_wp2
  go_returns
  exact ⟨rfl, by go_grown⟩

set_option maxHeartbeats 4000000 in
theorem fillK_any (w : World) :
    Calls Try.prog 68 #[] w fun e w' => ∃ c', e = .returned (.agg #[.string ⟨#[126, 115, 112, 97, 114, 101, 126]⟩, .int .i64 (-7000000000000000101), .int .i64 (-7000000000000000101), .int .i64 (-7000000000000000101), .int .i64 (-7000000000000000101), .int .i64 (-7000000000000000101), c']) ∧ RowF 35 2 w' w.heap.size w'.heap.size c' 1 (flatP [fillP]) ∧ Below w.heap.size w w' := by
  have HR := Lib.hid (fun (u : World) => World.ownsRow_lit (base := w.heap.size) u (e := 35) (size := 2) #[.int .i64 (-7000000000000000101), .int .i64 (-7000000000000000101)] 1)
  have hq := fun u => fillStep_any u
  simp only [fillP] at hq
  have HQ := Lib.hid hq; clear hq
  go_enter Try.func68, Try.ntmps68
  go_wp2_with fail
  refine (fillPoint_any _).mono ?_
  rintro e w1 ⟨rfl, b1⟩
  refine kept_at b1 (w.heap.size) (by go_size) fun c1_0 z1_0 s1_0 => ?_
  replace b1 := kept_trans (a := w) (by go_grown) b1
  have l1 := kept_cell b1
  have zz1 := b1.size
  go_wp2_with fail
  refine (HQ.out _).mono ?_
  rintro e w2 ⟨rfl, b2⟩
  refine kept_at b2 (w.heap.size) (by go_size) fun c2_0 z2_0 s2_0 => ?_
  replace b2 := kept_trans (a := w) (by go_grown) b2
  have l2 := kept_cell b2
  have zz2 := b2.size
  clear HQ
  go_simp
  go_step
  go_step
  go_simp
  go_step
  go_step
  go_simp
  go_step
  go_step
  go_simp
  repeat go_step
  (try simp only [Exit.inBlock, Exit.then])
  refine bodyPost_ret (v := .agg #[.string ⟨#[126, 115, 112, 97, 114, 101, 126]⟩, .int .i64 (-7000000000000000101), .int .i64 (-7000000000000000101), .int .i64 (-7000000000000000101), .int .i64 (-7000000000000000101), .int .i64 (-7000000000000000101), .slice (some ⟨w2.heap.size, 0, none⟩) 1 1]) ?_ rfl ⟨_, rfl, ?_, ?_⟩
  · rw [results_cell1 rfl]
    go_simp
  · suffices h : ∀ X : World, X.heap.size = w2.heap.size → RowF 35 2 (X.alloc (.cells #[.int .i64 (-7000000000000000101), .int .i64 (-7000000000000000101)] 35)) w.heap.size (X.alloc (.cells #[.int .i64 (-7000000000000000101), .int .i64 (-7000000000000000101)] 35)).heap.size (.slice (some ⟨w2.heap.size, 0, none⟩) 1 1) 1 (flatP [fillP]) from h _ (by simp)
    intro X hX
    have h := HR.out X (by omega) (by unfold maxLen; omega) (by simp)
    rw [hX] at h
    refine ⟨by simpa [flatP, encP, fillP] using h, fun g hg => ?_⟩
    simp [Value.ownBlock] at hg
    subst hg
    simp
    omega
  · go_grown

def zeroK : Cr × Value := (⟨⟨#[]⟩, 0, 0, 0, 0, 0, []⟩, .slice none 0 0)

/-- The block of a slice. -/
def blkOf : Value → Nat
  | .slice (some a) _ _ => a.block
  | _ => 0

theorem info_crane : (Try.prog.info? 80).map (fun i => (i.zero, i.size, i.bytes)) = some (some (.agg #[.string ⟨#[]⟩, .int .i64 0, .int .i64 0, .int .i64 0, .int .i64 0, .int .i64 0, .slice none 0 0]), 7, 80) := by kernel_rfl

theorem make_cranes (n : Nat) (h : n ≤ 4000000) (w : World) :
    (Instr.makeSlice 42 (.int .i64 (n : Int)) (.int .i64 (n : Int))).run Try.prog w = .ok (.slice (some ⟨w.heap.size, 0, none⟩) n n) (w.alloc (.cells (madeCells #[.string ⟨#[]⟩, .int .i64 0, .int .i64 0, .int .i64 0, .int .i64 0, .int .i64 0, .slice none 0 0] (n * 7)) 80)) := by
  obtain ⟨i, hi, hz, hs, hb⟩ := info_parts info_crane
  have hb' : (i.bytes : Int) * (n : Int) ≤ 281474976710656 := by rw [hb]; omega
  have hr := run_make (P := Try.prog) w 42 80 i (.agg #[.string ⟨#[]⟩, .int .i64 0, .int .i64 0, .int .i64 0, .int .i64 0, .int .i64 0, .slice none 0 0]) Try.underlying42 hi hz .i64 .i64 n n (by omega) (Int.le_refl _) hb' (by omega)
  simp only [Int.toNat_natCast, hs] at hr
  exact hr

theorem madeK_flat (n : Nat) : (madeCells #[.string ⟨#[]⟩, .int .i64 0, .int .i64 0, .int .i64 0, .int .i64 0, .int .i64 0, .slice none 0 0] (n * 7)).toList = flatK (List.replicate n zeroK) := by
  apply List.ext_getElem?
  intro j
  by_cases hj : j < n * 7
  · have h := flatK_at (List.replicate n zeroK) (j / 7) (j % 7) (by simp; omega) (by omega)
    rw [show j / 7 * 7 + j % 7 = j by omega, List.getElem_replicate] at h
    rw [h]
    have hm := Nat.mod_lt j (show 0 < 7 by omega)
    rcases (show j % 7 = 0 ∨ j % 7 = 1 ∨ j % 7 = 2 ∨ j % 7 = 3 ∨ j % 7 = 4 ∨ j % 7 = 5 ∨ j % 7 = 6 by omega) with hp | hp | hp | hp | hp | hp | hp <;> simp [madeCells, hj, hp, encK, zeroK]
  · rw [List.getElem?_eq_none (by rw [Array.length_toList, size_madeCells]; omega), List.getElem?_eq_none (by rw [flatK_len]; simp; omega)]

theorem flatK_set (L : List (Cr × Value)) (j : Nat) (p : Cr × Value) :
    ((((((((flatK L).set (j * 7) (.string p.1.nm)).set (j * 7 + 1) (.int .i64 p.1.x)).set (j * 7 + 2) (.int .i64 p.1.y)).set (j * 7 + 3) (.int .i64 p.1.h)).set (j * 7 + 4) (.int .i64 p.1.j)).set (j * 7 + 5) (.int .i64 p.1.b)).set (j * 7 + 6) p.2) = flatK (L.set j p) := by
  induction L generalizing j with
  | nil => simp [flatK]
  | cons z L ih =>
    cases j with
    | zero => simp [flatK, encK]
    | succ j =>
      have := ih j
      simp only [flatK, encK, List.flatMap_cons, List.cons_append, List.nil_append, Nat.succ_mul, List.set_cons_succ] at this ⊢
      rw [← this]

/-- A crane is stored in a row, cell by cell. -/
def setK7 (w : World) (g o : Nat) (p : Cr × Value) : World :=
  (((((((w.setCell ⟨g, o, none⟩ (.string p.1.nm)).setCell ⟨g, o + 1, none⟩ (.int .i64 p.1.x)).setCell ⟨g, o + 2, none⟩ (.int .i64 p.1.y)).setCell ⟨g, o + 3, none⟩ (.int .i64 p.1.h)).setCell ⟨g, o + 4, none⟩ (.int .i64 p.1.j)).setCell ⟨g, o + 5, none⟩ (.int .i64 p.1.b)).setCell ⟨g, o + 6, none⟩ p.2)

theorem row_setK7 {w : World} {base g n cap : Nat} {L : List (Cr × Value)} (h : w.ownsRow base 80 7 (.slice (some ⟨g, 0, none⟩) n cap) n (flatK L)) (j : Nat) (p : Cr × Value) :
    (setK7 w g (j * 7) p).ownsRow base 80 7 (.slice (some ⟨g, 0, none⟩) n cap) n (flatK (L.set j p)) ∧ w.grownBy (setK7 w g (j * 7) p) (some g) := by
  have h0 := h.stored (j * 7) (.string p.1.nm)
  have h1 := h0.1.stored (j * 7 + 1) (.int .i64 p.1.x)
  have h2 := h1.1.stored (j * 7 + 2) (.int .i64 p.1.y)
  have h3 := h2.1.stored (j * 7 + 3) (.int .i64 p.1.h)
  have h4 := h3.1.stored (j * 7 + 4) (.int .i64 p.1.j)
  have h5 := h4.1.stored (j * 7 + 5) (.int .i64 p.1.b)
  have h6 := h5.1.stored (j * 7 + 6) p.2
  rw [flatK_set] at h6
  exact ⟨h6.1, grown_step h0.2 (grown_step h1.2 (grown_step h2.2 (grown_step h3.2 (grown_step h4.2 (grown_step h5.2 h6.2)))))⟩

theorem row_cellsK {w : World} {base g n cap : Nat} {L : List (Cr × Value)} (h : w.ownsRow base 80 7 (.slice (some ⟨g, 0, none⟩) n cap) n (flatK L)) (j : Nat) (hj : j < n) :
    ∃ u0 u1 u2 u3 u4 u5 u6, w.cell? ⟨g, j * 7, none⟩ = some u0 ∧ w.cell? ⟨g, j * 7 + 1, none⟩ = some u1 ∧ w.cell? ⟨g, j * 7 + 2, none⟩ = some u2 ∧ w.cell? ⟨g, j * 7 + 3, none⟩ = some u3 ∧ w.cell? ⟨g, j * 7 + 4, none⟩ = some u4 ∧ w.cell? ⟨g, j * 7 + 5, none⟩ = some u5 ∧ w.cell? ⟨g, j * 7 + 6, none⟩ = some u6 := by
  have hl : (flatK L).length = n * 7 := h.1
  have at_ : ∀ o, o < n * 7 → ∃ u, w.cell? ⟨g, o, none⟩ = some u := fun o ho => ⟨_, by rw [h.cellAt o ho]; exact List.getElem?_eq_getElem (by omega)⟩
  obtain ⟨u0, h0⟩ := at_ (j * 7) (by omega)
  obtain ⟨u1, h1⟩ := at_ (j * 7 + 1) (by omega)
  obtain ⟨u2, h2⟩ := at_ (j * 7 + 2) (by omega)
  obtain ⟨u3, h3⟩ := at_ (j * 7 + 3) (by omega)
  obtain ⟨u4, h4⟩ := at_ (j * 7 + 4) (by omega)
  obtain ⟨u5, h5⟩ := at_ (j * 7 + 5) (by omega)
  obtain ⟨u6, h6⟩ := at_ (j * 7 + 6) (by omega)
  exact ⟨u0, u1, u2, u3, u4, u5, u6, h0, h1, h2, h3, h4, h5, h6⟩

/-- A copy of a list of cranes that the law made; Q: what is known of each chart, ρ: of two of them. -/
def SiteQ (Q : World → Nat → Nat → Cr → Value → Prop) (ρ : Value → Value → Prop) (w : World) (lo hi : Nat) (v : Value) (ks : List Cr) : Prop :=
  ks.length ≤ 1000000 ∧ ∃ (g : Nat) (T S : List (Cr × Value)), v = .slice (some ⟨g, 0, none⟩) ks.length (T ++ S).length ∧ lo ≤ g ∧ T.map (·.1) = ks ∧ S.map (·.1) = List.replicate (roomL ks.length) fillK ∧
    RowF 80 7 w lo hi (.slice (some ⟨g, 0, none⟩) (T ++ S).length (T ++ S).length) (T ++ S).length (flatK (T ++ S)) ∧ (∀ p ∈ T, Q w (g + 1) hi p.1 p.2) ∧ (∀ p ∈ S, RowF 35 2 w (g + 1) hi p.2 1 (flatP [fillP])) ∧ T.Pairwise (fun p q => ρ p.2 q.2)

theorem set_mid {α : Type} (T : List α) (z p : α) (m : Nat) : (T ++ List.replicate (m + 1) z).set T.length p = (T ++ [p]) ++ List.replicate m z := by
  rw [List.set_append_right _ _ (Nat.le_refl _), Nat.sub_self, List.replicate_succ, List.set_cons_zero, List.append_assoc]
  rfl

/-- What a chart's predicate must bear. -/
structure ChartQ (Q : World → Nat → Nat → Cr → Value → Prop) : Prop where
  set : ∀ {w : World} {lo hi : Nat} {k : Cr} {c : Value} (b o : Nat) (u : Value), Q w lo hi k c → b < lo → Q (w.setCell ⟨b, o, none⟩ u) lo hi k c
  kept : ∀ {W w1 : World} {lo hi : Nat} {k : Cr} {c : Value}, Q W lo hi k c → Below W.heap.size W w1 → Q w1 lo hi k c
  wide : ∀ {w : World} {lo lo' hi hi' : Nat} {k : Cr} {c : Value}, Q w lo hi k c → lo' ≤ lo → hi ≤ hi' → Q w lo' hi' k c
  form : ∀ {w : World} {lo hi : Nat} {k : Cr} {c : Value}, Q w lo hi k c → ∃ A n cp, c = .slice A n cp

theorem ChartQ_setK7 {Q : World → Nat → Nat → Cr → Value → Prop} (q : ChartQ Q) {w : World} {lo hi g o : Nat} {k : Cr} {c : Value} {p : Cr × Value} (h : Q w lo hi k c) (hb : g < lo) : Q (setK7 w g o p) lo hi k c :=
  q.set _ _ _ (q.set _ _ _ (q.set _ _ _ (q.set _ _ _ (q.set _ _ _ (q.set _ _ _ (q.set _ _ _ h hb) hb) hb) hb) hb) hb) hb

/-- The chart of a filler. -/
def fillQ (w : World) (lo hi : Nat) (_ : Cr) (c : Value) : Prop := RowF 35 2 w lo hi c 1 (flatP [fillP])

theorem fillQ_ok : ChartQ fillQ where
  set := fun b o u h hb => RowF_set h hb
  kept := fun h hb => RowF_kept h hb
  wide := fun h hl hh => RowF_lo h hl hh
  form := fun h => by
    rcases RowF_form h with ⟨h1, _, _⟩ | ⟨g, cap, e, _⟩
    · cases h1
    · exact ⟨_, _, _, e⟩

set_option maxHeartbeats 1000000 in
set_option maxRecDepth 100000 in
theorem toKs_gen (bare : Bool) (Q : World → Nat → Nat → Cr → Value → Prop) (ρ : Value → Value → Prop) (q : ChartQ Q)
    (qρ : ∀ (w w' : World) (lo hi lo' hi' : Nat) (k k' : Cr) (c c' : Value), Q w lo hi k c → Q w' lo' hi' k' c' → hi ≤ lo' → ρ c c')
    (qto : ∀ (k : Cr) (c : Value) (u : World), RdP u c k.ch → k.ch.length ≤ 1000000 → Calls Try.prog 67 #[.agg #[.string k.nm, .int .i64 k.x, .int .i64 k.y, .int .i64 k.h, .int .i64 k.j, .int .i64 k.b, c], .bool bare] u fun e w' => ∃ c', e = .returned (.agg #[.string k.nm, .int .i64 k.x, .int .i64 k.y, .int .i64 k.h, .int .i64 k.j, .int .i64 k.b, c']) ∧ Q w' u.heap.size w'.heap.size k c' ∧ Below u.heap.size u w')
    (v : Value) (ks : List (Cr × Value)) (w : World) (h : RdK w v ks) (hn : ks.length ≤ 1000000) (hbare : bare = false ∨ ks ≠ []) (hch : ∀ p ∈ ks, p.1.ch.length ≤ 1000000) :
    Calls Try.prog 46 #[v, .bool bare] w fun e w' => ∃ v', e = .returned v' ∧ SiteQ Q ρ w' w.heap.size w'.heap.size v' (ks.map (·.1)) ∧ Below w.heap.size w w' := by
  obtain ⟨A, c, rfl, hl, r1⟩ := RdK_at h
  clear h
  have R := Lib.hid r1; clear r1
  have hr := roomL_le ks.length
  obtain ⟨N, hN⟩ : ∃ N, N = ks.length + roomL ks.length := ⟨_, rfl⟩
  have hmk : ∀ w : World, (Instr.makeSlice 42 (.int .i64 ((ks.length : Int) + (roomL ks.length : Int))) (.int .i64 ((ks.length : Int) + (roomL ks.length : Int)))).run Try.prog w = .ok (.slice (some ⟨w.heap.size, 0, none⟩) N N) (w.alloc (.cells (madeCells #[.string ⟨#[]⟩, .int .i64 0, .int .i64 0, .int .i64 0, .int .i64 0, .int .i64 0, .slice none 0 0] (N * 7)) 80)) := by
    intro w
    have := make_cranes N (by omega) w
    rwa [show ((N : Nat) : Int) = (ks.length : Int) + (roomL ks.length : Int) by omega] at this
  have hcap : N ≤ maxLen := by unfold maxLen; omega
  have hrow0 : ∀ wa : World, w.heap.size ≤ wa.heap.size → (wa.alloc (.cells (madeCells #[.string ⟨#[]⟩, .int .i64 0, .int .i64 0, .int .i64 0, .int .i64 0, .int .i64 0, .slice none 0 0] (N * 7)) 80)).ownsRow w.heap.size 80 7 (.slice (some ⟨wa.heap.size, 0, none⟩) N N) N (flatK ([] ++ List.replicate N zeroK)) := by
    intro wa hwa
    have := World.ownsRow_lit wa (e := 80) (size := 7) (madeCells #[.string ⟨#[]⟩, .int .i64 0, .int .i64 0, .int .i64 0, .int .i64 0, .int .i64 0, .slice none 0 0] (N * 7)) N hwa hcap (size_madeCells _ _)
    rw [madeK_flat] at this
    simpa using this
  have Hrow := Lib.hid hrow0; clear hrow0
  have hb0 : bare = true → ((ks.length : Int) == 0) = false := by
    intro hb
    have : ks.length ≠ 0 := fun h => by
      rcases hbare with h1 | h1
      · rw [hb] at h1; cases h1
      · exact h1 (List.eq_nil_of_length_eq_zero h)
    simpa using this
  clear hbare
  have HN := Lib.hid hN
  have hNb : N ≤ 2000002 ∧ ks.length ≤ N ∧ 0 < N := by
    refine ⟨by omega, by omega, ?_⟩
    rcases Nat.eq_zero_or_pos ks.length with h0 | h0
    · rw [h0] at hN; simp [roomL] at hN; omega
    · omega
  clear hN
  have HQ := Lib.hid q; clear q
  have HQT := Lib.hid qto; clear qto
  have HQR := Lib.hid qρ; clear qρ
  have HCH := Lib.hid hch; clear hch
  cases bare
  all_goals
    have hbn := hb0
    simp only [forall_const, reduceCtorEq, false_implies, Bool.false_eq_true] at hbn
    clear hb0
    go_enter Try.func46, Try.ntmps46
    go_wp2_with (go_at_call 66; refine (room_any _ (by omega) _).mono ?_; rintro e w1 ⟨rfl, rfl⟩)
    go_loopw [6] (fun i wr => ∃ (j : Nat) (T : List (Cr × Value)), j ≤ ks.length ∧ i = .int .i64 j ∧ T.length = j ∧ T.map (·.1) = (ks.take j).map (·.1) ∧ wr.ownsRow w.heap.size 80 7 (.slice (some ⟨w.heap.size, 0, none⟩) N N) N (flatK (T ++ List.replicate (N - j) zeroK)) ∧ (∀ p ∈ T, Q wr (w.heap.size + 1) wr.heap.size p.1 p.2) ∧ T.Pairwise (fun p q => ρ p.2 q.2) ∧ w.heap.size < wr.heap.size ∧ Below w.heap.size w wr) (fun i _ => ks.length - (intOf i).toNat)
    case atStart => exact ⟨0, [], by omega, rfl, rfl, by simp, Hrow.out w (Nat.le_refl _), (fun p hp => by cases hp), List.Pairwise.nil, by simp, by go_grown⟩
    case round =>
      obtain ⟨j, T, hj, rfl, hTl, hTm, hown, hT, hTp, hlw, hb⟩ := hrel
      have hsz := hb.size
      by_cases hlt : j < ks.length
      · obtain ⟨b, off, rfl, hk⟩ := R.out j hlt
        have hkch := HCH.out ks[j] (List.getElem_mem hlt)
        have hk := CrAt_kept hk hb
        have htk : (ks.take (j + 1)).map (·.1) = (ks.take j).map (·.1) ++ [ks[j].1] := by rw [← List.take_append_getElem hlt, List.map_append]; rfl
        generalize ks[j].1 = k at *
        generalize ks[j].2 = cv at *
        obtain ⟨hlb, ⟨c0, c1, c2, c3, c4, c5, c6⟩, hrc⟩ := hk
        obtain ⟨A2, cp2, rfl, _, _⟩ := RdP_slice hrc
        have HRC := Lib.hid hrc; clear hrc
        have HT := Lib.hid hT; clear hT
        have HTP := Lib.hid hTp; clear hTp
        have HTM := Lib.hid hTm; clear hTm
        have HTK := Lib.hid htk; clear htk
        have HOWN := Lib.hid hown; clear hown
        go_wp2_with fail
        refine (HQT.out k _ wr HRC.out hkch).mono ?_
        rintro e w1 ⟨c', rfl, hq, hb1⟩
        obtain ⟨A3, n3, cp3, rfl⟩ := HQ.out.form hq
        have hown1 := own_kept HOWN.out hb1
        obtain ⟨x0, x1, x2, x3, x4, x5, x6, g0, g1, g2, g3, g4, g5, g6⟩ := row_cellsK hown1 j (by omega)
        have z0 := hown1.frozenAt (j * 7)
        have z1 := hown1.frozenAt (j * 7 + 1)
        have z2 := hown1.frozenAt (j * 7 + 2)
        have z3 := hown1.frozenAt (j * 7 + 3)
        have z4 := hown1.frozenAt (j * 7 + 4)
        have z5 := hown1.frozenAt (j * 7 + 5)
        have z6 := hown1.frozenAt (j * 7 + 6)
        have hst := row_setK7 hown1 j (k, Value.slice A3 n3 cp3)
        rw [show N - j = (N - (j + 1)) + 1 by omega, ← hTl, set_mid, hTl] at hst
        have hcq := fun lo hi k' c' (h : Q w1 lo hi k' c') (hb : w.heap.size < lo) => ChartQ_setK7 HQ.out (o := j * 7) (p := (k, Value.slice A3 n3 cp3)) h hb
        unfold setK7 at hst hcq
        dsimp only at hst hcq
        have HST := Lib.hid hst; clear hst hown1
        have HCQ := Lib.hid hcq; clear hcq
        have HQN := Lib.hid hq; clear hq
        have hsz1 := hb1.size
        have HB := Lib.hid (kept_trans hb hb1)
        have HB1 := Lib.hid hb1
        go_wp2
        go_roundw
        case rel =>
          refine ⟨j + 1, T ++ [(k, Value.slice A3 n3 cp3)], by omega, by go_num, by simp [hTl], by rw [HTK.out, List.map_append, HTM.out]; rfl, HST.out.1, ?_, ?_, by simp; omega, grown_below HB.out HST.out.2 (fun g hg => by simp at hg; omega)⟩
          · intro p hp
            refine HQ.out.wide (HCQ.out (w.heap.size + 1) w1.heap.size _ _ ?_ (Nat.lt_succ_self _)) (Nat.le_refl _) (by simp)
            rcases List.mem_append.1 hp with hp | hp
            · exact HQ.out.wide (HQ.out.kept (HT.out p hp) HB1.out) (Nat.le_refl _) hsz1
            · rw [List.mem_singleton.1 hp]
              exact HQ.out.wide HQN.out (by omega) (Nat.le_refl _)
          · refine List.pairwise_append.2 ⟨HTP.out, List.pairwise_singleton _ _, fun p hp p' hp' => ?_⟩
            rw [List.mem_singleton.1 hp']
            exact HQR.out _ _ _ _ _ _ _ _ _ _ (HT.out p hp) HQN.out (Nat.le_refl _)
        case measure => simp [intOf]; omega
      · have : j = ks.length := by omega
        subst this
        have hTm2 : T.map (·.1) = ks.map (·.1) := by rw [hTm, List.take_length]
        have hrep : N - ks.length = roomL ks.length := by have := HN.out; omega
        have HTM := Lib.hid hTm2; clear hTm hTm2
        have HT0 := Lib.hid hT; clear hT
        have HTP := Lib.hid hTp; clear hTp
        have HREP := Lib.hid hrep
        go_wp2_with fail
        go_loopw [7] (fun i wr => ∃ (M : Nat) (S : List (Cr × Value)), M ≤ N ∧ i = .int .i64 (M : Int) ∧ ks.length + S.length = M ∧ S.map (·.1) = List.replicate S.length fillK ∧ wr.ownsRow w.heap.size 80 7 (.slice (some ⟨w.heap.size, 0, none⟩) N N) N (flatK ((T ++ S) ++ List.replicate (N - M) zeroK)) ∧ (∀ p ∈ T, Q wr (w.heap.size + 1) wr.heap.size p.1 p.2) ∧ (∀ p ∈ S, fillQ wr (w.heap.size + 1) wr.heap.size p.1 p.2) ∧ w.heap.size < wr.heap.size ∧ Below w.heap.size w wr) (fun i _ => N - (intOf i).toNat)
        case atStart => exact ⟨ks.length, [], by omega, rfl, by simp, rfl, by simpa using hown, HT0.out, (fun p hp => by cases hp), hlw, hb⟩
        case round =>
          obtain ⟨M, S, hm, rfl, hSl, hSm, hown, hT, hS, hlw, hb⟩ := hrel
          have hsz := hb.size
          by_cases hlt : M < N
          · have HT := Lib.hid hT; clear hT
            have HSS := Lib.hid hS; clear hS
            have HSM := Lib.hid hSm; clear hSm
            have HOWN := Lib.hid hown; clear hown
            go_wp2_with fail
            refine (fillK_any wr).mono ?_
            rintro e w1 ⟨c', rfl, hq, hb1⟩
            obtain ⟨A3, n3, cp3, rfl⟩ := fillQ_ok.form (k := fillK) hq
            have hown1 := own_kept HOWN.out hb1
            obtain ⟨x0, x1, x2, x3, x4, x5, x6, g0, g1, g2, g3, g4, g5, g6⟩ := row_cellsK hown1 M (by omega)
            have z0 := hown1.frozenAt (M * 7)
            have z1 := hown1.frozenAt (M * 7 + 1)
            have z2 := hown1.frozenAt (M * 7 + 2)
            have z3 := hown1.frozenAt (M * 7 + 3)
            have z4 := hown1.frozenAt (M * 7 + 4)
            have z5 := hown1.frozenAt (M * 7 + 5)
            have z6 := hown1.frozenAt (M * 7 + 6)
            have hst := row_setK7 hown1 M (fillK, .slice A3 n3 cp3)
            have hTS : M = (T ++ S).length := by simp [hTl]; omega
            have hset := set_mid (T ++ S) zeroK (fillK, Value.slice A3 n3 cp3) (N - (M + 1))
            rw [← hTS] at hset
            rw [show N - M = (N - (M + 1)) + 1 by omega, hset] at hst
            have hcq := fun lo hi k' c' (h : Q w1 lo hi k' c') (hb : w.heap.size < lo) => ChartQ_setK7 HQ.out (o := M * 7) (p := (fillK, Value.slice A3 n3 cp3)) h hb
            have hcf := fun lo hi k' c' (h : fillQ w1 lo hi k' c') (hb : w.heap.size < lo) => ChartQ_setK7 fillQ_ok (o := M * 7) (p := (fillK, Value.slice A3 n3 cp3)) h hb
            clear hset
            unfold setK7 at hst hcq hcf
            dsimp only at hst hcq hcf
            have hwf : (Value.agg #[.string ⟨#[126, 115, 112, 97, 114, 101, 126]⟩, .int .i64 (-7000000000000000101), .int .i64 (-7000000000000000101), .int .i64 (-7000000000000000101), .int .i64 (-7000000000000000101), .int .i64 (-7000000000000000101), .slice A3 n3 cp3]) = .agg #[.string fillK.nm, .int .i64 fillK.x, .int .i64 fillK.y, .int .i64 fillK.h, .int .i64 fillK.j, .int .i64 fillK.b, .slice A3 n3 cp3] := rfl
            rw [hwf]
            clear hwf
            have hfm : fillK = (⟨fillK.nm, fillK.x, fillK.y, fillK.h, fillK.j, fillK.b, fillK.ch⟩ : Cr) := rfl
            have HFM := Lib.hid hfm; clear hfm
            have HST := Lib.hid hst; clear hst hown1
            have HCQ := Lib.hid hcq; clear hcq
            have HCF := Lib.hid hcf; clear hcf
            have HQN := Lib.hid hq; clear hq
            have hsz1 := hb1.size
            have HB := Lib.hid (kept_trans hb hb1)
            have HB1 := Lib.hid hb1
            have HSL := Lib.hid hSl
            have HOW2 := Lib.hid hTl
            clear hTS hSl hTl
            go_wp2
            go_roundw
            case rel =>
              have hSl := HSL.out
              refine ⟨M + 1, S ++ [(fillK, Value.slice A3 n3 cp3)], by omega, by go_num, by simp; omega, ?_, ?_, ?_, ?_, by simp; omega, grown_below HB.out HST.out.2 (fun g hg => by simp at hg; omega)⟩
              · rw [List.map_append, HSM.out, List.length_append, List.length_singleton, List.replicate_succ']; rfl
              · rw [← List.append_assoc]; exact HST.out.1
              · intro p hp
                exact HQ.out.wide (HCQ.out (w.heap.size + 1) w1.heap.size _ _ (HQ.out.wide (HQ.out.kept (HT.out p hp) HB1.out) (Nat.le_refl _) hsz1) (Nat.lt_succ_self _)) (Nat.le_refl _) (by simp)
              · intro p hp
                refine fillQ_ok.wide (k := p.1) (HCF.out (w.heap.size + 1) w1.heap.size p.1 _ ?_ (Nat.lt_succ_self _)) (Nat.le_refl _) (by simp)
                rcases List.mem_append.1 hp with hp | hp
                · exact fillQ_ok.wide (k := p.1) (fillQ_ok.kept (k := p.1) (HSS.out p hp) HB1.out) (Nat.le_refl _) hsz1
                · rw [List.mem_singleton.1 hp]
                  exact fillQ_ok.wide (k := fillK) HQN.out (by omega) (Nat.le_refl _)
            case measure => simp [intOf]; omega
          · have : M = N := by omega
            subst this
            have hSl2 : S.length = roomL ks.length := by have := HN.out; omega
            have hTS : (T ++ S).length = M := by simp [hTl, hSl2]; exact HN.out.symm
            have HT := Lib.hid hT; clear hT
            have HSS := Lib.hid hS; clear hS
            have HSM := Lib.hid hSm; clear hSm
            have HOWN := Lib.hid hown; clear hown
            have HTS := Lib.hid hTS; clear hTS
            have HSL := Lib.hid hSl2; clear hSl2 hSl hrep
            have HTL := Lib.hid hTl; clear hTl
            go_wp2
            go_ret
            have hTS := HTS.out
            have hSl2 := HSL.out
            refine ⟨_, rfl, ⟨by simpa using hn, w.heap.size, T, S, ?_, Nat.le_refl _, HTM.out, ?_, ?_, HT.out, fun p hp => HSS.out p hp, HTP.out⟩, hb⟩
            · rw [hTS, List.length_map]; rfl
            · rw [List.length_map, HSM.out, hSl2]
            · have h := HOWN.out
              rw [Nat.sub_self, List.replicate_zero, List.append_nil] at h
              rw [hTS]
              exact ⟨h, fun g hg => by simp [Value.ownBlock] at hg; subst hg; exact ⟨Nat.le_refl _, hlw⟩⟩

def copyQ (w : World) (lo hi : Nat) (k : Cr) (c : Value) : Prop := CopyC w lo hi c k.ch

theorem copyQ_ok : ChartQ copyQ where
  set := fun b o u h hb => CopyC_set h hb
  kept := fun h hb => CopyC_kept h hb
  wide := fun h hl hh => CopyC_lo h hl hh
  form := fun h => by obtain ⟨_, g, e, _⟩ := h; exact ⟨_, _, _, e⟩

def rowQ (w : World) (lo hi : Nat) (k : Cr) (c : Value) : Prop := RowF 35 2 w lo hi c k.ch.length (flatP k.ch)

theorem rowQ_ok : ChartQ rowQ where
  set := fun b o u h hb => RowF_set h hb
  kept := fun h hb => RowF_kept h hb
  wide := fun h hl hh => RowF_lo h hl hh
  form := fun h => by obtain ⟨A, c, e, _⟩ := RdP_slice (RowF_rd h); exact ⟨_, _, _, e⟩

def blkLt (c c' : Value) : Prop := blkOf c < blkOf c'

theorem copyQ_blk {w : World} {lo hi : Nat} {k : Cr} {c : Value} (h : copyQ w lo hi k c) : lo ≤ blkOf c ∧ blkOf c < hi := by
  obtain ⟨_, g, rfl, hr⟩ := h
  exact hr.2 g rfl

theorem SiteQ_kept {Q : World → Nat → Nat → Cr → Value → Prop} {ρ : Value → Value → Prop} (q : ChartQ Q) {W w1 : World} {lo hi : Nat} {v : Value} {ks : List Cr} (h : SiteQ Q ρ W lo hi v ks) (hb : Below W.heap.size W w1) : SiteQ Q ρ w1 lo hi v ks := by
  obtain ⟨hn, g, T, S, hv, hg, hT, hS, hr, hq, hf, hp⟩ := h
  exact ⟨hn, g, T, S, hv, hg, hT, hS, RowF_kept hr hb, fun p hp => q.kept (hq p hp) hb, fun p hp => RowF_kept (hf p hp) hb, hp⟩

theorem SiteQ_set {Q : World → Nat → Nat → Cr → Value → Prop} {ρ : Value → Value → Prop} (q : ChartQ Q) {w : World} {lo hi : Nat} {v : Value} {ks : List Cr} (b o : Nat) (u : Value) (h : SiteQ Q ρ w lo hi v ks) (hb : b < lo) : SiteQ Q ρ (w.setCell ⟨b, o, none⟩ u) lo hi v ks := by
  obtain ⟨hn, g, T, S, hv, hg, hT, hS, hr, hq, hf, hp⟩ := h
  exact ⟨hn, g, T, S, hv, hg, hT, hS, RowF_set hr hb, fun p hp => q.set b o u (hq p hp) (by omega), fun p hp => RowF_set (hf p hp) (by omega), hp⟩

theorem SiteQ_wide {Q : World → Nat → Nat → Cr → Value → Prop} {ρ : Value → Value → Prop} (q : ChartQ Q) {w : World} {lo lo' hi hi' : Nat} {v : Value} {ks : List Cr} (h : SiteQ Q ρ w lo hi v ks) (hl : lo' ≤ lo) (hh : hi ≤ hi') : SiteQ Q ρ w lo' hi' v ks := by
  obtain ⟨hn, g, T, S, hv, hg, hT, hS, hr, hq, hf, hp⟩ := h
  exact ⟨hn, g, T, S, hv, by omega, hT, hS, RowF_lo hr hl hh, fun p hp => q.wide (hq p hp) (Nat.le_refl _) hh, fun p hp => RowF_lo (hf p hp) (Nat.le_refl _) hh, hp⟩

theorem flatK_take (T S : List (Cr × Value)) : (flatK (T ++ S)).take (T.length * 7) = flatK T := by
  rw [show flatK (T ++ S) = flatK T ++ flatK S by simp [flatK], ← flatK_len, List.take_left]

theorem SiteQ_rd {Q : World → Nat → Nat → Cr → Value → Prop} {ρ : Value → Value → Prop} (qrd : ∀ (w : World) (lo hi : Nat) (k : Cr) (c : Value), Q w lo hi k c → RdP w c k.ch) {w : World} {lo hi : Nat} {v : Value} {ks : List Cr} (h : SiteQ Q ρ w lo hi v ks) : ∃ T : List (Cr × Value), RdK w v T ∧ T.map (·.1) = ks := by
  obtain ⟨hn, g, T, S, rfl, hg, hT, hS, hr, hq, hf, hp⟩ := h
  have hTl : T.length = ks.length := by rw [← hT]; simp
  refine ⟨T, ⟨?_, fun p hp => qrd _ _ _ _ _ (hq p hp)⟩, hT⟩
  have := RowF_short hr (n := T.length) (by simp)
  rw [flatK_take, hTl] at this
  rw [hTl]
  exact RowF_rd this

/-- A site's cranes, copied by the law with room behind them. -/
def SiteC (w : World) (lo hi : Nat) (v : Value) (ks : List Cr) : Prop := SiteQ copyQ blkLt w lo hi v ks

theorem SiteC_rd {w : World} {lo hi : Nat} {v : Value} {ks : List Cr} (h : SiteC w lo hi v ks) : ∃ T : List (Cr × Value), RdK w v T ∧ T.map (·.1) = ks := SiteQ_rd (fun _ _ _ _ _ h => CopyC_rd h) h

theorem SiteC_kept {W w1 : World} {lo hi : Nat} {v : Value} {ks : List Cr} (h : SiteC W lo hi v ks) (hb : Below W.heap.size W w1) : SiteC w1 lo hi v ks := SiteQ_kept copyQ_ok h hb

theorem toKs_false (v : Value) (ks : List (Cr × Value)) (w : World) (h : RdK w v ks) (hn : ks.length ≤ 1000000) (hch : ∀ p ∈ ks, p.1.ch.length ≤ 1000000) :
    Calls Try.prog 46 #[v, .bool false] w fun e w' => ∃ v', e = .returned v' ∧ SiteC w' w.heap.size w'.heap.size v' (ks.map (·.1)) ∧ Below w.heap.size w w' :=
  toKs_gen false copyQ blkLt copyQ_ok (fun w w' lo hi lo' hi' k k' c c' h h' hl => by have := copyQ_blk h; have := copyQ_blk h'; unfold blkLt; omega)
    (fun k c u q l => toK_false k c u q l) v ks w h hn (Or.inl rfl) hch

theorem toKs_true (v : Value) (ks : List (Cr × Value)) (w : World) (h : RdK w v ks) (hn : ks.length ≤ 1000000) (hch : ∀ p ∈ ks, p.1.ch.length ≤ 1000000) :
    Calls Try.prog 46 #[v, .bool true] w fun e w' => ∃ v', e = .returned v' ∧ (v' = .slice none 0 0 ∧ ks = [] ∨ SiteQ rowQ (fun _ _ => True) w' w.heap.size w'.heap.size v' (ks.map (·.1))) ∧ Below w.heap.size w w' := by
  by_cases hz : ks = []
  · subst hz
    obtain ⟨A, c, rfl, _, _⟩ := RdK_at h
    clear h
    go_enter Try.func46, Try.ntmps46
    go_wp2
    go_ret
    exact ⟨_, rfl, Or.inl (by simp), Below.refl _ _⟩
  · exact (toKs_gen true rowQ (fun _ _ => True) rowQ_ok (fun _ _ _ _ _ _ _ _ _ _ _ _ _ => trivial) (fun k c u q l => toK_true k c u q l) v ks w h hn (Or.inr hz) hch).mono fun e w' ⟨v', he, hs, hb⟩ => ⟨v', he, Or.inr hs, hb⟩

set_option maxHeartbeats 1000000 in
theorem toS_false (c : Value) (ks : List (Cr × Value)) (w : World) (h : RdK w c ks) (hn : ks.length ≤ 1000000) (hch : ∀ p ∈ ks, p.1.ch.length ≤ 1000000) :
    Calls Try.prog 18 #[.agg #[c], .bool false] w fun e w' => ∃ c', e = .returned (.agg #[c']) ∧ SiteC w' w.heap.size w'.heap.size c' (ks.map (·.1)) ∧ Below w.heap.size w w' := by
  obtain ⟨A0, cp0, rfl, _, _⟩ := RdK_at h
  have H := Lib.hid h; clear h
  have HQ := Lib.hid (fun u q => toKs_false (.slice A0 ks.length cp0) ks u q hn hch)
  generalize ks.map (·.1) = ms at *
  go_enter Try.func18, Try.ntmps18
  go_wp2_with fail
  refine (HQ.out _ (RdK_kept H.out (by go_grown))).mono ?_
  rintro e w1 ⟨c', rfl, hc, hb1⟩
  obtain ⟨g, T, S, hv, hrest⟩ := hc.2
  have hc := hc
  rw [hv] at hc ⊢
  clear hv hrest
  have HC := Lib.hid hc; clear hc
  refine kept_at hb1 (w.heap.size + 1) (by go_size) fun c1_1 z1_1 s1_1 => ?_
  refine kept_at hb1 (w.heap.size + 2) (by go_size) fun c1_2 z1_2 s1_2 => ?_
  have b1 := kept_trans (a := w) (by go_grown) hb1
  go_wp2
  (try simp only [Exit.inBlock, Exit.then])
  refine bodyPost_ret (v := .agg #[.slice (some ⟨g, 0, none⟩) ms.length (T ++ S).length]) ?_ rfl ⟨_, rfl, ?_, ?_⟩
  · rw [results_cell1 rfl]
    go_simp
  · have h := HC.out
    simp only [World.size_alloc] at h
    refine SiteQ_wide copyQ_ok (lo := w.heap.size + 1 + 1 + 1) (hi := w1.heap.size) (SiteQ_set copyQ_ok _ _ _ (SiteQ_set copyQ_ok _ _ _ h (by omega)) (by omega)) (by omega) (by simp)
  · go_grown

set_option maxHeartbeats 1000000 in
theorem toS_true (c : Value) (ks : List (Cr × Value)) (w : World) (h : RdK w c ks) (hn : ks.length ≤ 1000000) (hch : ∀ p ∈ ks, p.1.ch.length ≤ 1000000) :
    Calls Try.prog 18 #[.agg #[c], .bool true] w fun e w' => ∃ c' T, e = .returned (.agg #[c']) ∧ RdK w' c' T ∧ (∃ A cp, c' = .slice A T.length cp ∧ T.length ≤ cp) ∧ T.map (·.1) = ks.map (·.1) ∧ Below w.heap.size w w' := by
  obtain ⟨A0, cp0, rfl, _, _⟩ := RdK_at h
  have H := Lib.hid h; clear h
  have HQ := Lib.hid (fun u q => toKs_true (.slice A0 ks.length cp0) ks u q hn hch)
  go_enter Try.func18, Try.ntmps18
  go_wp2_with fail
  refine (HQ.out _ (RdK_kept H.out (by go_grown))).mono ?_
  rintro e w1 ⟨c', rfl, hc, hb1⟩
  have hf : ∃ A n cp, c' = .slice A n cp := by
    rcases hc with ⟨rfl, _⟩ | hc
    · exact ⟨_, _, _, rfl⟩
    · obtain ⟨g, T, S, hv, _⟩ := hc.2
      exact ⟨_, _, _, hv⟩
  obtain ⟨A1, n1, cp1, rfl⟩ := hf
  have HC := Lib.hid hc; clear hc
  refine kept_at hb1 (w.heap.size + 1) (by go_size) fun c1_1 z1_1 s1_1 => ?_
  refine kept_at hb1 (w.heap.size + 2) (by go_size) fun c1_2 z1_2 s1_2 => ?_
  have b1 := kept_trans (a := w) (by go_grown) hb1
  go_wp2
  (try simp only [Exit.inBlock, Exit.then])
  rcases HC.out with ⟨h1, h2⟩ | h
  · refine bodyPost_ret (v := .agg #[.slice A1 n1 cp1]) ?_ rfl ⟨_, [], rfl, ?_, ⟨none, 0, h1, Nat.le_refl _⟩, by rw [h2], ?_⟩
    · rw [results_cell1 rfl]
      go_simp
    · rw [h1]
      exact ⟨⟨by simp, rfl, none, 0, rfl, fun i hi => by simp at hi⟩, fun p hp => by cases hp⟩
    · go_grown
  · simp only [World.size_alloc] at h
    have h2 := SiteQ_set rowQ_ok (w.heap.size + 1) 0 (.slice A1 n1 cp1) (SiteQ_set rowQ_ok (w.heap.size + 1 + 1) 0 (.slice A1 n1 cp1) h (by omega)) (by omega)
    have hcap : ∃ A cp, Value.slice A1 n1 cp1 = .slice A (ks.map (·.1)).length cp ∧ (ks.map (·.1)).length ≤ cp := by
      obtain ⟨_, g, T0, S0, hv, _, hT0, _⟩ := h2
      exact ⟨_, _, hv, by rw [← hT0]; simp⟩
    obtain ⟨T, hT, hm⟩ := SiteQ_rd (fun _ _ _ _ _ h => RowF_rd h) h2
    have hTl : T.length = (ks.map (·.1)).length := by rw [← hm]; simp
    rw [← hTl] at hcap
    refine bodyPost_ret (v := .agg #[.slice A1 n1 cp1]) ?_ rfl ⟨_, T, rfl, hT, hcap, hm, ?_⟩
    · rw [results_cell1 rfl]
      go_simp
    · go_grown

theorem eqK_same (k : Cr) (c1 c2 : Value) (w : World) (h1 : RdP w c1 k.ch) (h2 : RdP w c2 k.ch) :
    Calls Try.prog 96 #[.agg #[.string k.nm, .int .i64 k.x, .int .i64 k.y, .int .i64 k.h, .int .i64 k.j, .int .i64 k.b, c1], .agg #[.string k.nm, .int .i64 k.x, .int .i64 k.y, .int .i64 k.h, .int .i64 k.j, .int .i64 k.b, c2]] w fun e w' => e = .returned (.bool true) ∧ Below w.heap.size w w' := by
  obtain ⟨A1, cp1, rfl, _, _⟩ := RdP_slice h1
  obtain ⟨A2, cp2, rfl, _, _⟩ := RdP_slice h2
  have H1 := Lib.hid h1; clear h1
  have H2 := Lib.hid h2; clear h2
  obtain ⟨s, x, y, hh, j, b, zs⟩ := k
  dsimp only at *
  go_enter Try.func96, Try.ntmps96
  go_wp2_with fail
  refine (eqPoint_same _ _ _).mono ?_
  rintro e w1 ⟨rfl, b1⟩
  refine kept_at b1 (w.heap.size) (by go_size) fun c1_0 z1_0 s1_0 => ?_
  refine kept_at b1 (w.heap.size + 1) (by go_size) fun c1_1 z1_1 s1_1 => ?_
  replace b1 := kept_trans (a := w) (by go_grown) b1
  have l1 := kept_cell b1
  have zz1 := b1.size
  go_wp2_with fail
  refine (eqC_same _ _ zs _ (RdP_kept H1.out (by go_grown)) (RdP_kept H2.out (by go_grown))).mono ?_
  rintro e w2 ⟨rfl, hb2⟩
  have b2 := kept_trans (a := w) (by go_grown) hb2
  go_wp2
  go_ret
  exact ⟨rfl, b2⟩

set_option maxHeartbeats 1000000 in
theorem eqKs_same (v1 v2 : Value) (k1 k2 : List (Cr × Value)) (w : World) (h1 : RdK w v1 k1) (h2 : RdK w v2 k2) (hm : k1.map (·.1) = k2.map (·.1)) :
    Calls Try.prog 71 #[v1, v2] w fun e w' => e = .returned (.bool true) ∧ Below w.heap.size w w' := by
  obtain ⟨A1, cp1, rfl, hl1, r1⟩ := RdK_at h1
  obtain ⟨A2, cp2, rfl, hl2, r2⟩ := RdK_at h2
  clear h1 h2
  have hlen : k1.length = k2.length := by have := congrArg List.length hm; simpa using this
  have hel : ∀ i (h1 : i < k1.length) (h2 : i < k2.length), k1[i].1 = k2[i].1 := by
    intro i h1 h2
    have := congrArg (·[i]?) hm
    simpa [h1, h2] using this
  have R1 := Lib.hid r1; clear r1
  have R2 := Lib.hid r2; clear r2
  have HEL := Lib.hid hel; clear hel hm
  rw [← hlen]
  have HLEN := Lib.hid hlen
  clear hlen hl2
  go_enter Try.func71, Try.ntmps71
  go_wp2_with fail
  go_loopw [5] (fun i wr => ∃ j : Nat, j ≤ k1.length ∧ i = .int .i64 j ∧ Below w.heap.size w wr) (fun i _ => k1.length - (intOf i).toNat)
  case atStart => exact ⟨0, by omega, rfl, Below.refl _ _⟩
  case round =>
    obtain ⟨j, hj, rfl, hb⟩ := hrel
    by_cases hlt : j < k1.length
    · obtain ⟨b, off, rfl, hk⟩ := R1.out j hlt
      obtain ⟨b2, off2, rfl, hk2⟩ := R2.out j (by have := HLEN.out; omega)
      rw [← HEL.out j hlt (by have := HLEN.out; omega)] at hk2
      have hk := CrAt_kept hk hb
      have hk2 := CrAt_kept hk2 hb
      generalize k1[j].1 = k at *
      generalize k1[j].2 = cv at *
      generalize k2[j].2 = cv2 at *
      obtain ⟨hlb, ⟨c0, c1, c2, c3, c4, c5, c6⟩, hrc⟩ := hk
      obtain ⟨hlb2, ⟨d0, d1, d2, d3, d4, d5, d6⟩, hrd⟩ := hk2
      obtain ⟨A3, cp3, rfl, _, _⟩ := RdP_slice hrc
      obtain ⟨A4, cp4, rfl, _, _⟩ := RdP_slice hrd
      have HE := Lib.hid (fun (m : Nat) => eqK_same k _ _ (wr.drewN m) (RdP_kept hrc (kept_drewN (Below.refl _ _) m)) (RdP_kept hrd (kept_drewN (Below.refl _ _) m)))
      clear hrc hrd
      go_wp2_with fail
      go_cut [26] (fun s26 w' => s26 = .bool false ∧ Below w.heap.size w w')
      case first =>
        go_region_with ((go_at_call 96; refine (HE.out 1).mono ?_; rintro e w1 ⟨rfl, hb1⟩; have b1 := kept_trans (a := w) (kept_drewN hb 1) hb1))
        all_goals
          go_wp2_with fail
          go_meet
          case rel => exact ⟨rfl, b1⟩
      case rest =>
      obtain ⟨rfl, hbc⟩ := hcut
      go_wp2
      go_roundw
      case rel => exact ⟨j + 1, by omega, by go_num, hbc⟩
      case measure => simp [intOf]; omega
    · have : j = k1.length := by omega
      subst this
      go_wp2
      go_ret
      exact ⟨rfl, hb⟩

theorem RdK_tail {w : World} {lo hi g c N : Nat} {T S : List (Cr × Value)} (h : RowF 80 7 w lo hi (.slice (some ⟨g, 0, none⟩) N N) N (flatK (T ++ S))) (hc : ∀ p ∈ S, RdP w p.2 p.1.ch) (hl : S.length ≤ 9223372036854775807) :
    RdK w (.slice (some ⟨g, T.length * 7, none⟩) S.length c) S := by
  have hN : (flatK (T ++ S)).length = N * 7 := h.1.1
  rw [flatK_len, List.length_append] at hN
  refine ⟨⟨hl, flatK_len S, some ⟨g, T.length * 7, none⟩, c, rfl, fun i hi => ⟨g, T.length * 7, rfl, (h.1.lt g rfl).2, ?_⟩⟩, hc⟩
  rw [h.1.cellAt (T.length * 7 + i) (by omega), show flatK (T ++ S) = flatK T ++ flatK S by simp [flatK], List.getElem?_append_right (by rw [flatK_len]; omega), flatK_len]
  congr 1
  omega

theorem SiteC_open {w : World} {lo hi : Nat} {v : Value} {ks : List Cr} (h : SiteC w lo hi v ks) : ∃ (g : Nat) (T S : List (Cr × Value)), v = .slice (some ⟨g, 0, none⟩) ks.length (ks.length + roomL ks.length) ∧ ks.length ≤ 1000000 ∧ T.length = ks.length ∧ S.length = roomL ks.length ∧ g < w.heap.size ∧
    (∀ i (h1 : i < T.length) (h2 : i < ks.length), T[i].1 = ks[i] ∧ CopyC w (g + 1) hi T[i].2 ks[i].ch ∧ CrAt w g (i * 7) ks[i] T[i].2) ∧ S.map (·.1) = List.replicate (roomL ks.length) fillK ∧ (∀ c, RdK w (.slice (some ⟨g, ks.length * 7, none⟩) S.length c) S) := by
  obtain ⟨T', hR, hT'⟩ := SiteC_rd h
  obtain ⟨hn, g, T, S, rfl, hg, hT, hS, hr, hq, hf, hp⟩ := h
  have hTl : T.length = ks.length := by rw [← hT]; simp
  have hSl : S.length = roomL ks.length := by have := congrArg List.length hS; simpa using this
  have hlt : g < w.heap.size := (hr.1.lt g rfl).2
  have hsl : (T ++ S).length = ks.length + roomL ks.length := by simp [hTl, hSl]
  have hrm := roomL_le ks.length
  refine ⟨g, T, S, by rw [hsl], hn, hTl, hSl, hlt, fun i h1 h2 => ?_, hS, fun c => ?_⟩
  · have e : T[i].1 = ks[i] := by
      have := congrArg (·[i]?) hT
      simpa [h1, h2] using this
    have hc := hq T[i] (List.getElem_mem h1)
    have hc' : CopyC w (g + 1) hi T[i].2 ks[i].ch := by rw [← e]; exact hc
    refine ⟨e, hc', hlt, ?_, CopyC_rd hc'⟩
    have at_ : ∀ j, j < 7 → w.cell? ⟨g, i * 7 + j, none⟩ = (encK T[i])[j]? := by
      intro j hj
      rw [hr.1.cellAt (i * 7 + j) (by rw [hsl]; omega), flatK_at (T ++ S) i j (by rw [List.length_append]; omega) hj, List.getElem_append_left h1]
    rw [← e]
    exact ⟨at_ 0 (by omega), at_ 1 (by omega), at_ 2 (by omega), at_ 3 (by omega), at_ 4 (by omega), at_ 5 (by omega), at_ 6 (by omega)⟩
  · rw [← hTl]
    refine RdK_tail hr (fun p hp => ?_) (by omega)
    have e : p.1 = fillK := by
      have : p.1 ∈ S.map (·.1) := List.mem_map.2 ⟨p, hp, rfl⟩
      rw [hS] at this
      exact (List.mem_replicate.1 this).2
    rw [e]
    exact RowF_rd (hf p hp)

set_option maxHeartbeats 2000000 in
theorem intactKs_same (v1 v2 : Value) (ks : List Cr) (lo1 hi1 lo2 hi2 : Nat) (w : World) (h1 : SiteC w lo1 hi1 v1 ks) (h2 : SiteC w lo2 hi2 v2 ks) :
    Calls Try.prog 49 #[v1, v2] w fun e w' => e = .returned (.bool true) ∧ Below w.heap.size w w' := by
  have H1 := Lib.hid h1
  have H2 := Lib.hid h2
  obtain ⟨g1, T1, S1, rfl, hn, _, _, _, _, _, _⟩ := SiteC_open h1
  obtain ⟨g2, T2, S2, rfl, _, _, _, _, _, _, _⟩ := SiteC_open h2
  clear h1 h2
  have hr := roomL_le ks.length
  have HE := Lib.hid (fun (u : World) (q1 : SiteC u lo1 hi1 (.slice (some ⟨g1, 0, none⟩) ks.length (ks.length + roomL ks.length)) ks) (q2 : SiteC u lo2 hi2 (.slice (some ⟨g2, 0, none⟩) ks.length (ks.length + roomL ks.length)) ks) => (by
    obtain ⟨g1', T1, S1, e1, _, _, hS1, _, _, hm1, hR1⟩ := SiteC_open q1
    obtain ⟨g2', T2, S2, e2, _, _, hS2, _, _, hm2, hR2⟩ := SiteC_open q2
    cases e1
    cases e2
    have hA : ∀ (g : Nat) (S : List (Cr × Value)), S.length = roomL ks.length → RdK u (.slice (some ⟨g, ks.length * 7, none⟩) S.length (roomL ks.length)) S → RdK u (.slice (if roomL ks.length = 0 then some ⟨g, 0, none⟩ else some ⟨g, ks.length * 7, none⟩) (roomL ks.length) (roomL ks.length)) S := by
      intro g S hS h
      by_cases h0 : roomL ks.length = 0
      · have hS0 := List.eq_nil_of_length_eq_zero (hS.trans h0)
        subst hS0
        rw [if_pos h0, h0]
        exact ⟨⟨by simp, rfl, _, _, rfl, fun i hi => by simp at hi⟩, fun p hp => by cases hp⟩
      · rw [if_neg h0]
        rw [hS] at h
        exact h
    exact eqKs_same _ _ S1 S2 u (hA g1 S1 hS1 (hR1 (roomL ks.length))) (hA g2 S2 hS2 (hR2 (roomL ks.length))) (hm1.trans hm2.symm) : Calls Try.prog 71 #[.slice (if roomL ks.length = 0 then some ⟨g1, 0, none⟩ else some ⟨g1, ks.length * 7, none⟩) (roomL ks.length) (roomL ks.length), .slice (if roomL ks.length = 0 then some ⟨g2, 0, none⟩ else some ⟨g2, ks.length * 7, none⟩) (roomL ks.length) (roomL ks.length)] u fun e w' => e = .returned (.bool true) ∧ Below u.heap.size u w'))
  have HX := Lib.hid (fun (u : World) (q1 : SiteC u lo1 hi1 (.slice (some ⟨g1, 0, none⟩) ks.length (ks.length + roomL ks.length)) ks) (q2 : SiteC u lo2 hi2 (.slice (some ⟨g2, 0, none⟩) ks.length (ks.length + roomL ks.length)) ks) (i : Nat) (hi : i < ks.length) => (by
    obtain ⟨g1', T1, S1, e1, _, hl1, _, _, ha1, _, _⟩ := SiteC_open q1
    obtain ⟨g2', T2, S2, e2, _, hl2, _, _, ha2, _, _⟩ := SiteC_open q2
    cases e1
    cases e2
    obtain ⟨_, hc1, hk1⟩ := ha1 i (by omega) hi
    obtain ⟨_, hc2, hk2⟩ := ha2 i (by omega) hi
    exact ⟨_, _, hc1, hk1, hc2, hk2⟩ : ∃ c1 c2, CopyC u (g1 + 1) hi1 c1 ks[i].ch ∧ CrAt u g1 (i * 7) ks[i] c1 ∧ CopyC u (g2 + 1) hi2 c2 ks[i].ch ∧ CrAt u g2 (i * 7) ks[i] c2))
  go_enter Try.func49, Try.ntmps49
  go_wp2_with (go_at_call 66; refine (room_any _ (by omega) _).mono ?_; rintro e w1 ⟨rfl, rfl⟩)
  go_loopw [6] (fun i wr => ∃ j : Nat, j ≤ ks.length ∧ i = .int .i64 j ∧ Below w.heap.size w wr) (fun i _ => ks.length - (intOf i).toNat)
  case atStart => exact ⟨0, by omega, rfl, Below.refl _ _⟩
  case round =>
    obtain ⟨j, hj, rfl, hb⟩ := hrel
    by_cases hlt : j < ks.length
    · obtain ⟨cv, cv2, hcv, ⟨hlb, ⟨c0, c1, c2, c3, c4, c5, c6⟩, hrc⟩, hcv2, ⟨hlb2, ⟨d0, d1, d2, d3, d4, d5, d6⟩, hrd⟩⟩ := HX.out wr (SiteC_kept H1.out hb) (SiteC_kept H2.out hb) j hlt
      generalize ks[j] = k at *
      obtain ⟨A3, cp3, rfl, _, _⟩ := RdP_slice hrc
      obtain ⟨A4, cp4, rfl, _, _⟩ := RdP_slice hrd
      have HI := Lib.hid (fun (m : Nat) => intactK_same k _ _ _ _ _ _ (wr.drewN m) (CopyC_kept hcv (kept_drewN (Below.refl _ _) m)) (CopyC_kept hcv2 (kept_drewN (Below.refl _ _) m)))
      clear hrc hrd hcv hcv2
      go_wp2_with fail
      go_cut [33] (fun s33 w' => s33 = .bool false ∧ Below w.heap.size w w')
      case first =>
        go_region_with ((go_at_call 70; refine (HI.out 1).mono ?_; rintro e w1 ⟨rfl, hb1⟩; have b1 := kept_trans (a := w) (kept_drewN hb 1) hb1))
        all_goals
          go_wp2_with fail
          go_meet
          case rel => exact ⟨rfl, b1⟩
      case rest =>
      obtain ⟨rfl, hbc⟩ := hcut
      go_wp2
      go_roundw
      case rel => exact ⟨j + 1, by omega, by go_num, hbc⟩
      case measure => simp [intOf]; omega
    · have : j = ks.length := by omega
      subst this
      have hee := fun (m : Nat) => HE.out (wr.drewN m) (SiteC_kept H1.out (kept_drewN hb m)) (SiteC_kept H2.out (kept_drewN hb m))
      have hx1 : ¬ (ks.length + roomL ks.length < ks.length) := by omega
      have hx3 : (ks.length : Int) ≤ (ks.length : Int) + (roomL ks.length : Int) := by omega
      have hx4 : (0 : Int) ≤ (ks.length : Int) + (roomL ks.length : Int) := by omega
      have hx5 : ((ks.length : Int) + (roomL ks.length : Int)).toNat = ks.length + roomL ks.length := by omega
      have hx6 : ks.length ≤ ks.length + roomL ks.length := by omega
      have hx7 : ks.length + roomL ks.length - ks.length = roomL ks.length := by omega
      by_cases h0 : roomL ks.length = 0
      case pos =>
        simp only [h0, if_true] at hee
        have HEE := Lib.hid hee; clear hee
        go_wp2_with fail
        go_region_with ((go_at_call 71; refine (HEE.out 1).mono ?_; rintro e w1 ⟨rfl, hb1⟩; have b1 := kept_trans (a := w) (kept_drewN hb 1) hb1))
        all_goals
          go_wp2
          go_ret
          exact ⟨rfl, b1⟩
      case neg =>
        simp only [if_neg h0] at hee
        have HEE := Lib.hid hee; clear hee
        go_wp2_with fail
        go_region_with ((go_at_call 71; refine (HEE.out 1).mono ?_; rintro e w1 ⟨rfl, hb1⟩; have b1 := kept_trans (a := w) (kept_drewN hb 1) hb1))
        all_goals
          go_wp2
          go_ret
          exact ⟨rfl, b1⟩

open Classical in
noncomputable def sameKB (a b : Cr) : Bool := decide (a = b)

theorem sameKB_cases (a b : Cr) : (¬ a.nm = b.nm ∧ sameKB a b = false) ∨ (a.nm = b.nm ∧ ¬ a.x = b.x ∧ sameKB a b = false) ∨ (a.nm = b.nm ∧ a.x = b.x ∧ ¬ a.y = b.y ∧ sameKB a b = false) ∨ (a.nm = b.nm ∧ a.x = b.x ∧ a.y = b.y ∧ ¬ a.h = b.h ∧ sameKB a b = false) ∨
    (a.nm = b.nm ∧ a.x = b.x ∧ a.y = b.y ∧ a.h = b.h ∧ ¬ a.j = b.j ∧ sameKB a b = false) ∨ (a.nm = b.nm ∧ a.x = b.x ∧ a.y = b.y ∧ a.h = b.h ∧ a.j = b.j ∧ ¬ a.b = b.b ∧ sameKB a b = false) ∨ (a.nm = b.nm ∧ a.x = b.x ∧ a.y = b.y ∧ a.h = b.h ∧ a.j = b.j ∧ a.b = b.b ∧ sameKB a b = sameB a.ch b.ch) := by
  obtain ⟨s, x, y, h, j, bb, zs⟩ := a
  obtain ⟨s2, x2, y2, h2, j2, bb2, zs2⟩ := b
  simp only [sameKB, sameB, Cr.mk.injEq]
  by_cases e0 : s = s2 <;> by_cases e1 : x = x2 <;> by_cases e2 : y = y2 <;> by_cases e3 : h = h2 <;> by_cases e4 : j = j2 <;> by_cases e5 : bb = bb2 <;> simp [*]

set_option maxHeartbeats 400000 in
theorem specSameK_quiet (b1 o1 b2 o2 : Nat) (k1 k2 : Cr) (c1 c2 : Value) (w : World) (h1 : CrAt w b1 o1 k1 c1) (h2 : CrAt w b2 o2 k2 c2) :
    Calls Try.prog 65 #[.pointer (some ⟨b1, o1, none⟩), .pointer (some ⟨b2, o2, none⟩)] w fun e w' => e = .returned (.bool (sameKB k1 k2)) ∧ ∃ q, w' = w.drewN q := by
  obtain ⟨_, ⟨c0, c1, c2, c3, c4, c5, c6⟩, hr1⟩ := h1
  obtain ⟨_, ⟨d0, d1, d2, d3, d4, d5, d6⟩, hr2⟩ := h2
  have HS := Lib.hid (fun (m : Nat) => specSame_quiet _ k1.ch _ k2.ch (w.drewN m) (RdP_kept hr1 (kept_drewN (Below.refl _ _) m)) (RdP_kept hr2 (kept_drewN (Below.refl _ _) m)))
  obtain ⟨A1, cp1, rfl, _, _⟩ := RdP_slice hr1
  obtain ⟨A2, cp2, rfl, _, _⟩ := RdP_slice hr2
  clear hr1 hr2
  rcases sameKB_cases k1 k2 with ⟨e0, hE⟩ | ⟨e0, e1, hE⟩ | ⟨e0, e1, e2, hE⟩ | ⟨e0, e1, e2, e3, hE⟩ | ⟨e0, e1, e2, e3, e4, hE⟩ | ⟨e0, e1, e2, e3, e4, e5, hE⟩ | ⟨e0, e1, e2, e3, e4, e5, hE⟩
  all_goals
    rw [hE]
    clear hE
    obtain ⟨s, x, y, h, j, bb, zs⟩ := k1
    obtain ⟨s2, x2, y2, h2, j2, bb2, zs2⟩ := k2
    dsimp only at *
    (try subst e0)
    (try subst e1)
    (try subst e2)
    (try subst e3)
    (try subst e4)
    (try subst e5)
  case inl =>
    have hne := str_ne e0
    have hne3 : decide (s = s2) = false := by simpa using e0
    have hne4 : ¬ s.toList = s2.toList := by simpa using hne
    have hne5 : decide (s.toList = s2.toList) = false := by simpa using hne4
    go_enter Try.func65, Try.ntmps65
    go_wp2_with fail
    simp only [List.append]
    go_big_quiet (fail)
    go_wp2
    go_ret
    exact ⟨by simp, _, rfl⟩
  case inr.inl =>
    have hne1 : (x == x2) = false := by simpa using e1
    have hne2 : decide (x = x2) = false := by simpa using e1
    go_enter Try.func65, Try.ntmps65
    go_wp2_with fail
    simp only [List.append]
    go_big_quiet (fail)
    go_wp2
    go_ret
    exact ⟨by simp, _, rfl⟩
  case inr.inr.inl =>
    have hne1 : (y == y2) = false := by simpa using e2
    have hne2 : decide (y = y2) = false := by simpa using e2
    go_enter Try.func65, Try.ntmps65
    go_wp2_with fail
    simp only [List.append]
    go_big_quiet (fail)
    go_wp2
    go_ret
    exact ⟨by simp, _, rfl⟩
  case inr.inr.inr.inl =>
    have hne1 : (h == h2) = false := by simpa using e3
    have hne2 : decide (h = h2) = false := by simpa using e3
    go_enter Try.func65, Try.ntmps65
    go_wp2_with fail
    simp only [List.append]
    go_big_quiet (fail)
    go_wp2
    go_ret
    exact ⟨by simp, _, rfl⟩
  case inr.inr.inr.inr.inl =>
    have hne1 : (j == j2) = false := by simpa using e4
    have hne2 : decide (j = j2) = false := by simpa using e4
    go_enter Try.func65, Try.ntmps65
    go_wp2_with fail
    simp only [List.append]
    go_big_quiet (fail)
    go_wp2
    go_ret
    exact ⟨by simp, _, rfl⟩
  case inr.inr.inr.inr.inr.inl =>
    have hne1 : (bb == bb2) = false := by simpa using e5
    have hne2 : decide (bb = bb2) = false := by simpa using e5
    go_enter Try.func65, Try.ntmps65
    go_wp2_with fail
    simp only [List.append]
    go_big_quiet (fail)
    go_wp2
    go_ret
    exact ⟨by simp, _, rfl⟩
  case inr.inr.inr.inr.inr.inr =>
    generalize sameB zs zs2 = R at *
    go_enter Try.func65, Try.ntmps65
    go_wp2_with fail
    simp only [List.append]
    go_big_quiet ((go_at_call 90; exact Calls.quiet_of (HS.out _)))
    go_wp2
    go_ret
    exact ⟨by simp, _, rfl⟩

set_option maxHeartbeats 1000000 in
theorem implSameK_any (k1 k2 : Cr) (c1 c2 : Value) (w : World) (h1 : RdP w c1 k1.ch) (h2 : RdP w c2 k2.ch) :
    Calls Try.prog 48 #[.agg #[.string k1.nm, .int .i64 k1.x, .int .i64 k1.y, .int .i64 k1.h, .int .i64 k1.j, .int .i64 k1.b, c1], .agg #[.string k2.nm, .int .i64 k2.x, .int .i64 k2.y, .int .i64 k2.h, .int .i64 k2.j, .int .i64 k2.b, c2]] w fun e w' => e = .returned (.bool (sameKB k1 k2)) ∧ Below w.heap.size w w' := by
  have HS := Lib.hid (fun (u : World) (hb : Below w.heap.size w u) => implSameC_any _ k1.ch _ k2.ch u (RdP_kept h1 hb) (RdP_kept h2 hb))
  obtain ⟨A1, cp1, rfl, _, _⟩ := RdP_slice h1
  obtain ⟨A2, cp2, rfl, _, _⟩ := RdP_slice h2
  clear h1 h2
  rcases sameKB_cases k1 k2 with ⟨e0, hE⟩ | ⟨e0, e1, hE⟩ | ⟨e0, e1, e2, hE⟩ | ⟨e0, e1, e2, e3, hE⟩ | ⟨e0, e1, e2, e3, e4, hE⟩ | ⟨e0, e1, e2, e3, e4, e5, hE⟩ | ⟨e0, e1, e2, e3, e4, e5, hE⟩
  all_goals
    rw [hE]
    clear hE
    obtain ⟨s, x, y, h, j, bb, zs⟩ := k1
    obtain ⟨s2, x2, y2, h2, j2, bb2, zs2⟩ := k2
    dsimp only at *
    (try subst e0)
    (try subst e1)
    (try subst e2)
    (try subst e3)
    (try subst e4)
    (try subst e5)
  case inl =>
    have hne := str_ne e0
    have hne3 : decide (s = s2) = false := by simpa using e0
    have hne4 : ¬ s.toList = s2.toList := by simpa using hne
    have hne5 : decide (s.toList = s2.toList) = false := by simpa using hne4
    go_enter Try.func48, Try.ntmps48
    go_wp2
    go_ret
    exact ⟨by simp, by go_grown⟩
  case inr.inl =>
    have hne1 : (x == x2) = false := by simpa using e1
    have hne2 : decide (x = x2) = false := by simpa using e1
    go_enter Try.func48, Try.ntmps48
    go_wp2
    go_ret
    exact ⟨by simp, by go_grown⟩
  case inr.inr.inl =>
    have hne1 : (y == y2) = false := by simpa using e2
    have hne2 : decide (y = y2) = false := by simpa using e2
    go_enter Try.func48, Try.ntmps48
    go_wp2
    go_ret
    exact ⟨by simp, by go_grown⟩
  case inr.inr.inr.inl =>
    have hne1 : (h == h2) = false := by simpa using e3
    have hne2 : decide (h = h2) = false := by simpa using e3
    go_enter Try.func48, Try.ntmps48
    go_wp2
    go_ret
    exact ⟨by simp, by go_grown⟩
  case inr.inr.inr.inr.inl =>
    have hne1 : (j == j2) = false := by simpa using e4
    have hne2 : decide (j = j2) = false := by simpa using e4
    go_enter Try.func48, Try.ntmps48
    go_wp2
    go_ret
    exact ⟨by simp, by go_grown⟩
  case inr.inr.inr.inr.inr.inl =>
    have hne1 : (bb == bb2) = false := by simpa using e5
    have hne2 : decide (bb = bb2) = false := by simpa using e5
    go_enter Try.func48, Try.ntmps48
    go_wp2
    go_ret
    exact ⟨by simp, by go_grown⟩
  case inr.inr.inr.inr.inr.inr =>
    generalize sameB zs zs2 = R at *
    go_enter Try.func48, Try.ntmps48
    go_wp2_with fail
    refine (HS.out _ (by go_grown)).mono ?_
    rintro e w1 ⟨rfl, hb1⟩
    have b1 := kept_trans (a := w) (by go_grown) hb1
    go_wp2
    go_ret
    exact ⟨by simp, b1⟩

open Classical in
noncomputable def sameSB (a b : List Cr) : Bool := decide (a = b)

theorem sameSB_bad (L M : List (Cr × Value)) (i : Nat) (h1 : i < L.length) (h2 : i < M.length) (h : sameKB L[i].1 M[i].1 = false) : sameSB (L.map (·.1)) (M.map (·.1)) = false := by
  simp only [sameKB, decide_eq_false_iff_not] at h
  simp only [sameSB, decide_eq_false_iff_not]
  intro he
  have := congrArg (·[i]?) he
  simp [h1, h2] at this
  exact h this

theorem sameSB_len (L M : List (Cr × Value)) (h : ¬ L.length = M.length) : sameSB (L.map (·.1)) (M.map (·.1)) = false := by
  simp only [sameSB, decide_eq_false_iff_not]
  intro he
  have := congrArg List.length he
  simp at this
  exact h this

theorem sameSB_end (L M : List (Cr × Value)) (hl : L.length = M.length) (h : ∀ i (h1 : i < L.length) (h2 : i < M.length), i < L.length → sameKB L[i].1 M[i].1 = true) : sameSB (L.map (·.1)) (M.map (·.1)) = true := by
  simp only [sameSB, decide_eq_true_eq]
  refine List.ext_getElem (by simpa using hl) fun i h1 h2 => ?_
  simp only [List.length_map] at h1 h2
  have := h i h1 h2 h1
  simp only [sameKB, decide_eq_true_eq] at this
  simpa using this

set_option maxHeartbeats 1000000 in
theorem specSites_any (b1 b2 : Nat) (v1 v2 : Value) (L M : List (Cr × Value)) (w : World) (hb1 : b1 < w.heap.size) (hb2 : b2 < w.heap.size) (g1 : w.cell? ⟨b1, 0, none⟩ = some v1) (g2 : w.cell? ⟨b2, 0, none⟩ = some v2) (h1 : RdK w v1 L) (h2 : RdK w v2 M) :
    Calls Try.prog 45 #[.pointer (some ⟨b1, 0, none⟩), .pointer (some ⟨b2, 0, none⟩)] w fun e w' => e = .returned (.bool (sameSB (L.map (·.1)) (M.map (·.1)))) ∧ Below w.heap.size w w' := by
  obtain ⟨A1, cp1, rfl, hl1, r1⟩ := RdK_at h1
  obtain ⟨A2, cp2, rfl, hl2, r2⟩ := RdK_at h2
  clear h1 h2
  by_cases hlen : L.length = M.length
  · have R1 := Lib.hid r1; clear r1
    have R2 := Lib.hid r2; clear r2
    have HBAD := Lib.hid (sameSB_bad L M)
    have HEND := Lib.hid (sameSB_end L M hlen)
    generalize sameSB (L.map (·.1)) (M.map (·.1)) = G at *
    have HLEN := Lib.hid hlen
    rw [← hlen] at g2
    clear hlen hl2
    go_enter Try.func45, Try.ntmps45
    go_wp2_with fail
    go_quiet (fail)
    go_wp2_with fail
    go_loopw [5] (fun i wr => ∃ k : Nat, k ≤ L.length ∧ i = .int .i64 (k : Int) ∧ (∀ i (h1 : i < L.length) (h2 : i < M.length), i < k → sameKB L[i].1 M[i].1 = true) ∧ Below w.heap.size w wr) (fun i _ => L.length - (intOf i).toNat)
    case atStart => exact ⟨0, by omega, rfl, fun i _ _ h => by omega, kept_drewN (Below.refl _ _) _⟩
    case round =>
      obtain ⟨k, hk, rfl, hall, hb⟩ := hrel
      have a1 : wr.cell? ⟨b1, 0, none⟩ = some (.slice A1 L.length cp1) := by rw [kept_cell hb _ _ hb1]; exact g1
      have a2 : wr.cell? ⟨b2, 0, none⟩ = some (.slice A2 L.length cp2) := by rw [kept_cell hb _ _ hb2]; exact g2
      by_cases hlt : k < L.length
      · have hlt2 : k < M.length := by have := HLEN.out; omega
        obtain ⟨b, off, rfl, q1⟩ := R1.out k hlt
        obtain ⟨d, off2, rfl, q2⟩ := R2.out k hlt2
        have hs := fun (m : Nat) => specSameK_quiet _ _ _ _ _ _ _ _ (wr.drewN m) (CrAt_kept q1 (kept_drewN hb m)) (CrAt_kept q2 (kept_drewN hb m))
        clear q1 q2
        cases hE : sameKB L[k].1 M[k].1
        · have hG := HBAD.out k hlt hlt2 hE
          rw [hE] at hs
          have HS := Lib.hid hs; clear hs hall hE
          go_wp2_with fail
          go_quiet ((go_at_call 65; exact Calls.quiet_of (HS.out _)))
          go_wp2
          go_ret
          exact ⟨by rw [hG]; rfl, kept_drewN hb _⟩
        · have hnx : ∀ i (h1 : i < L.length) (h2 : i < M.length), i < k + 1 → sameKB L[i].1 M[i].1 = true := fun i h1 h2 hik => by
            rcases Nat.lt_or_ge i k with h3 | h3
            · exact hall i h1 h2 h3
            · obtain rfl : i = k := by omega
              exact hE
          rw [hE] at hs
          have HS := Lib.hid hs; clear hs hall hE
          have HNX := Lib.hid hnx; clear hnx
          go_wp2_with fail
          go_quiet ((go_at_call 65; exact Calls.quiet_of (HS.out _)))
          go_wp2
          go_roundw
          case rel => exact ⟨k + 1, by omega, by go_num, HNX.out, kept_drewN hb _⟩
          case measure => simp [intOf]; omega
      · have : k = L.length := by omega
        subst this
        have hE := HEND.out hall
        clear hall
        go_wp2
        go_ret
        exact ⟨by rw [hE]; rfl, hb⟩
  · rw [sameSB_len L M hlen]
    clear r1 r2
    have hne : ((L.length : Int) == (M.length : Int)) = false := by rw [beq_eq_false_iff_ne]; omega
    go_enter Try.func45, Try.ntmps45
    go_wp2_with fail
    go_quiet (fail)
    go_wp2
    go_ret
    exact ⟨rfl, kept_drewN (Below.refl _ _) _⟩

theorem totK_mem {ks : List (Cr × Value)} {p : Cr × Value} (h : p ∈ ks) : p.1.nm.size + p.1.ch.length ≤ totK ks := by
  induction ks with
  | nil => cases h
  | cons q ks ih =>
    simp only [totK]
    rcases List.mem_cons.1 h with rfl | h
    · omega
    · have := ih h
      omega

theorem szS_any (c : Value) (ks : List (Cr × Value)) (left : Int) (w : World) (h : RdK w c ks) (hl : 0 ≤ left ∧ left ≤ 1000000) (hw : ∀ p ∈ ks, wfK p.1) :
    Calls Try.prog 16 #[.agg #[c], .int .i64 left] w fun e w' => e = .returned (.int .i64 (if (ks.length : Int) + totK ks ≤ left then left - ks.length - totK ks else -1)) ∧ Below w.heap.size w w' := by
  obtain ⟨A, cp, rfl, _, _⟩ := RdK_at h
  have H := Lib.hid h; clear h
  have HQ := Lib.hid (fun u q => szKs_any (.slice A ks.length cp) ks left u q hl hw)
  by_cases h1 : (ks.length : Int) + totK ks ≤ left
  all_goals
    simp only [h1, if_true, if_false] at HQ ⊢
    have hle : 0 ≤ left - (ks.length : Int) - (totK ks : Nat) ∨ True := Or.inr trivial
    generalize (totK ks : Int) = tk at *
    go_enter Try.func16, Try.ntmps16
    go_wp2_with fail
    refine (HQ.out _ (RdK_kept H.out (by go_grown))).mono ?_
    rintro e w1 ⟨rfl, hb1⟩
    have b1 := kept_trans (a := w) (by go_grown) hb1
    go_wp2
    go_ret
    exact ⟨rfl, b1⟩

theorem intactS_same (ks : List Cr) (c1 c2 : Value) (lo1 hi1 lo2 hi2 : Nat) (w : World) (h1 : SiteC w lo1 hi1 c1 ks) (h2 : SiteC w lo2 hi2 c2 ks) :
    Calls Try.prog 20 #[.agg #[c1], .agg #[c2]] w fun e w' => e = .returned (.bool true) ∧ Below w.heap.size w w' := by
  obtain ⟨T1, r1, _⟩ := SiteC_rd h1
  obtain ⟨T2, r2, _⟩ := SiteC_rd h2
  obtain ⟨A1, cp1, rfl, _, _⟩ := RdK_at r1
  obtain ⟨A2, cp2, rfl, _, _⟩ := RdK_at r2
  clear r1 r2
  have H1 := Lib.hid h1; clear h1
  have H2 := Lib.hid h2; clear h2
  go_enter Try.func20, Try.ntmps20
  go_wp2_with fail
  refine (intactKs_same _ _ ks _ _ _ _ _ (SiteC_kept H1.out (by go_grown)) (SiteC_kept H2.out (by go_grown))).mono ?_
  rintro e w1 ⟨rfl, hb1⟩
  have b1 := kept_trans (a := w) (by go_grown) hb1
  go_wp2
  go_ret
  exact ⟨rfl, b1⟩

theorem SiteC_use {w : World} {lo hi : Nat} {v : Value} {ks : List Cr} (h : SiteC w lo hi v ks) : ∃ T : List (Cr × Value), RdK w v T ∧ (∃ A cp, v = .slice A T.length cp ∧ T.length ≤ cp) ∧ T.map (·.1) = ks := by
  obtain ⟨T, hR, hT⟩ := SiteC_rd h
  obtain ⟨g, _, _, e, _, _, _, _⟩ := SiteC_open h
  have hl : T.length = ks.length := by rw [← hT]; simp
  exact ⟨T, hR, ⟨_, _, by rw [e, hl], by omega⟩, hT⟩

set_option maxRecDepth 100000 in
set_option maxHeartbeats 1000000 in
theorem equalFuncK_any (v1 v2 : Value) (L M : List (Cr × Value)) (w : World) (h1 : RdK w v1 L) (h2 : RdK w v2 M) :
    Calls Try.prog 47 #[v1, v2, .func (.func 48) #[] #[]] w fun e w' => e = .returned (.bool (sameSB (L.map (·.1)) (M.map (·.1)))) ∧ Below w.heap.size w w' := by
  obtain ⟨A1, cp1, rfl, hl1, r1⟩ := RdK_at h1
  obtain ⟨A2, cp2, rfl, hl2, r2⟩ := RdK_at h2
  clear h1 h2
  by_cases hlen : L.length = M.length
  · have R1 := Lib.hid r1; clear r1
    have R2 := Lib.hid r2; clear r2
    have HBAD := Lib.hid (sameSB_bad L M)
    have HEND := Lib.hid (sameSB_end L M hlen)
    generalize sameSB (L.map (·.1)) (M.map (·.1)) = G at *
    have HLEN := Lib.hid hlen
    rw [← hlen]
    clear hlen hl2
    go_enter Try.func47, Try.ntmps47
    go_wp2_with fail
    go_loopw [17] (fun i wr => ∃ k : Nat, k ≤ L.length ∧ i = .int .i64 (k : Int) ∧ (∀ i (h1 : i < L.length) (h2 : i < M.length), i < k → sameKB L[i].1 M[i].1 = true) ∧ Below w.heap.size w wr) (fun i _ => L.length - (intOf i).toNat)
    case atStart => exact ⟨0, by omega, rfl, fun i _ _ h => by omega, Below.refl _ _⟩
    case round =>
      obtain ⟨k, hk, rfl, hall, hb⟩ := hrel
      by_cases hlt : k < L.length
      · have hlt2 : k < M.length := by have := HLEN.out; omega
        obtain ⟨b, off, rfl, q1⟩ := R1.out k hlt
        obtain ⟨d, off2, rfl, q2⟩ := R2.out k hlt2
        have t1 := CrAt_kept q1 hb
        have t2 := CrAt_kept q2 hb
        clear q1 q2
        obtain ⟨z1, ⟨c0, c1, c2, c3, c4, c5, c6⟩, p1⟩ := t1
        obtain ⟨z2, ⟨d0, d1, d2, d3, d4, d5, d6⟩, p2⟩ := t2
        have hs := fun (u : World) (hu : Below wr.heap.size wr u) => implSameK_any L[k].1 M[k].1 L[k].2 M[k].2 u (RdP_kept p1 hu) (RdP_kept p2 hu)
        obtain ⟨Aa, cpa, eva, _, _⟩ := RdP_slice p1
        obtain ⟨Ab, cpb, evb, _, _⟩ := RdP_slice p2
        rw [eva, evb] at hs
        rw [eva] at c6
        rw [evb] at d6
        clear p1 p2 eva evb
        cases hE : sameKB L[k].1 M[k].1
        · have hG := HBAD.out k hlt hlt2 hE
          subst hG
          rw [hE] at hs
          have HS := Lib.hid hs; clear hs hall hE
          generalize L[k].1 = ka at *
          generalize M[k].1 = kb at *
          obtain ⟨s, x, y, h, j, bb, zs⟩ := ka
          obtain ⟨s2, x2, y2, h2, j2, bb2, zs2⟩ := kb
          dsimp only at *
          go_wp2_with fail
          refine (HS.out _ (by go_grown)).mono ?_
          rintro e w1 ⟨rfl, hb1⟩
          have b1 := kept_trans (a := wr) (by go_grown) hb1
          go_wp2
          go_ret
          exact ⟨rfl, kept_trans hb b1⟩
        · have hnx : ∀ i (h1 : i < L.length) (h2 : i < M.length), i < k + 1 → sameKB L[i].1 M[i].1 = true := fun i h1 h2 hik => by
            rcases Nat.lt_or_ge i k with h3 | h3
            · exact hall i h1 h2 h3
            · obtain rfl : i = k := by omega
              exact hE
          rw [hE] at hs
          have HS := Lib.hid hs; clear hs hall hE
          have HNX := Lib.hid hnx; clear hnx
          generalize L[k].1 = ka at c0 c1 c2 c3 c4 c5 c6 HS
          generalize M[k].1 = kb at d0 d1 d2 d3 d4 d5 d6 HS
          obtain ⟨s, x, y, h, j, bb, zs⟩ := ka
          obtain ⟨s2, x2, y2, h2, j2, bb2, zs2⟩ := kb
          dsimp only at *
          go_wp2_with fail
          refine (HS.out _ (by go_grown)).mono ?_
          rintro e w1 ⟨rfl, hb1⟩
          have b1 := kept_trans (a := wr) (by go_grown) hb1
          go_wp2
          go_roundw
          case rel => exact ⟨k + 1, by omega, by go_num, HNX.out, kept_trans hb b1⟩
          case measure => simp [intOf]; omega
      · have : k = L.length := by omega
        subst this
        have hE := HEND.out hall
        clear hall
        subst hE
        go_wp2
        go_ret
        exact ⟨rfl, hb⟩
  · rw [sameSB_len L M hlen]
    clear r1 r2
    have hne : ((L.length : Int) == (M.length : Int)) = false := by rw [beq_eq_false_iff_ne]; omega
    go_enter Try.func47, Try.ntmps47
    go_wp2
    go_ret
    exact ⟨rfl, Below.refl _ _⟩

theorem specSS_any (c d : Value) (T S ks ls : List (Cr × Value)) (w : World) (h1 : RdK w c T) (h2 : RdK w d S) (m1 : T.map (·.1) = ks.map (·.1)) (m2 : S.map (·.1) = ls.map (·.1)) :
    Calls Try.prog 17 #[.agg #[c], .agg #[d]] w fun e w' => e = .returned (.bool (sameSB (ks.map (·.1)) (ls.map (·.1)))) ∧ Below w.heap.size w w' := by
  rw [← m1, ← m2]
  obtain ⟨A, cp, rfl, _, _⟩ := RdK_at h1
  obtain ⟨B, cq, rfl, _, _⟩ := RdK_at h2
  have H1 := Lib.hid h1
  have H2 := Lib.hid h2
  have HS := Lib.hid (fun b1 b2 u x1 x2 x3 x4 x5 x6 => specSites_any b1 b2 (.slice A T.length cp) (.slice B S.length cq) T S u x1 x2 x3 x4 x5 x6)
  clear h1 h2 m1 m2
  generalize sameSB (T.map (·.1)) (S.map (·.1)) = G at *
  go_enter Try.func17, Try.ntmps17
  go_wp2_with fail
  refine (HS.out _ _ _ (by simp; try omega) (by simp; try omega) (by simp) (by simp) (RdK_kept H1.out (by go_grown)) (RdK_kept H2.out (by go_grown))).mono ?_
  rintro e w1 ⟨rfl, hb1⟩
  have b1 := kept_trans (a := w) (by go_grown) hb1
  go_wp2
  go_ret
  exact ⟨rfl, b1⟩

theorem implSS_any (c d : Value) (T S ks ls : List (Cr × Value)) (w : World) (h1 : RdK w c T) (h2 : RdK w d S) (m1 : T.map (·.1) = ks.map (·.1)) (m2 : S.map (·.1) = ls.map (·.1)) :
    Calls Try.prog 19 #[.agg #[c], .agg #[d]] w fun e w' => e = .returned (.bool (sameSB (ks.map (·.1)) (ls.map (·.1)))) ∧ Below w.heap.size w w' := by
  rw [← m1, ← m2]
  have HS := Lib.hid (fun u (x1 : RdK u c T) (x2 : RdK u d S) => equalFuncK_any c d T S u x1 x2)
  obtain ⟨A, cp, rfl, _, _⟩ := RdK_at h1
  obtain ⟨B, cq, rfl, _, _⟩ := RdK_at h2
  have H1 := Lib.hid h1
  have H2 := Lib.hid h2
  clear h1 h2 m1 m2
  generalize sameSB (T.map (·.1)) (S.map (·.1)) = G at *
  go_enter Try.func19, Try.ntmps19
  go_wp2_with fail
  refine (HS.out _ (RdK_kept H1.out (by go_grown)) (RdK_kept H2.out (by go_grown))).mono ?_
  rintro e w1 ⟨rfl, hb1⟩
  have b1 := kept_trans (a := w) (by go_grown) hb1
  go_wp2
  go_ret
  exact ⟨rfl, b1⟩

set_option maxRecDepth 100000 in
set_option maxHeartbeats 4000000 in
theorem walk_FnExactSameSite (w : World) (c : Value) (ks : List (Cr × Value)) (hr : RdK w c ks) (hk : wfS ks) (d : Value) (ls : List (Cr × Value)) (hs : RdK w d ls) (hl : wfS ls) :
    Calls Try.prog 4 #[.agg #[c], .agg #[d]] w fun e w' => e = .returned (.bool true) ∧ Below w.heap.size w w' := by
  obtain ⟨A, cp, rfl, _, _⟩ := RdK_at hr
  obtain ⟨B, cq, rfl, _, _⟩ := RdK_at hs
  have H1 := Lib.hid hr; clear hr
  have H2 := Lib.hid hs; clear hs
  obtain ⟨hk, hkl⟩ := hk
  obtain ⟨hl, hll⟩ := hl
  unfold maxLen at hkl hll
  have hZ1 := fun u q => szS_any (.slice A ks.length cp) ks 1000000 u q (by omega) hk
  by_cases hf1 : (ks.length : Int) + totK ks ≤ 1000000
  case neg =>
    simp only [if_neg hf1] at hZ1
    have HZ := Lib.hid hZ1; clear hZ1 hf1 hk hl
    go_enter Try.func4, Try.ntmps4
    go_wp2_with fail
    refine (HZ.out _ (RdK_kept H1.out (by go_grown))).mono ?_
    rintro e w1 ⟨rfl, b1⟩
    replace b1 := kept_trans (a := w) (by go_grown) b1
    have l1 := kept_cell b1
    have zz1 := b1.size
    go_wp2
    go_ret
    exact ⟨rfl, b1⟩
  simp only [if_pos hf1] at hZ1
  have HZ1 := Lib.hid hZ1; clear hZ1
  have hZ2 := fun u q => szS_any (.slice B ls.length cq) ls (1000000 - ks.length - totK ks) u q (by omega) hl
  have hle1 : (0 : Int) ≤ 1000000 - ks.length - totK ks := by omega
  by_cases hf2 : (ls.length : Int) + totK ls ≤ 1000000 - ks.length - totK ks
  case neg =>
    simp only [if_neg hf2] at hZ2
    have HZ2 := Lib.hid hZ2; clear hZ2 hf1 hf2 hk hl
    generalize (totK ks : Int) = tk at *
    go_enter Try.func4, Try.ntmps4
    go_wp2_with fail
    refine (HZ1.out _ (RdK_kept H1.out (by go_grown))).mono ?_
    rintro e w1 ⟨rfl, b1⟩
    refine kept_at b1 (w.heap.size) (by go_size) fun c1_0 z1_0 s1_0 => ?_
    refine kept_at b1 (w.heap.size + 1) (by go_size) fun c1_1 z1_1 s1_1 => ?_
    replace b1 := kept_trans (a := w) (by go_grown) b1
    have l1 := kept_cell b1
    have zz1 := b1.size
    go_wp2_with fail
    refine (HZ2.out _ (RdK_kept H2.out b1)).mono ?_
    rintro e w2 ⟨rfl, hb2⟩
    go_wp2
    go_ret
    exact ⟨rfl, kept_trans b1 hb2⟩
  simp only [if_pos hf2] at hZ2
  have HZ2 := Lib.hid hZ2; clear hZ2
  have hle2 : (0 : Int) ≤ 1000000 - ks.length - totK ks - ls.length - totK ls := by omega
  have hn1 : ks.length ≤ 1000000 := by omega
  have hn2 : ls.length ≤ 1000000 := by omega
  have hch1 : ∀ p ∈ ks, p.1.ch.length ≤ 1000000 := fun p hp => by have := totK_mem hp; omega
  have hch2 : ∀ p ∈ ls, p.1.ch.length ≤ 1000000 := fun p hp => by have := totK_mem hp; omega
  have HF1 := Lib.hid (fun u (q : RdK u (.slice A ks.length cp) ks) => toS_false _ ks u q hn1 hch1)
  have HT1 := Lib.hid (fun u (q : RdK u (.slice A ks.length cp) ks) => toS_true _ ks u q hn1 hch1)
  have HF2 := Lib.hid (fun u (q : RdK u (.slice B ls.length cq) ls) => toS_false _ ls u q hn2 hch2)
  have HT2 := Lib.hid (fun u (q : RdK u (.slice B ls.length cq) ls) => toS_true _ ls u q hn2 hch2)
  have HS := Lib.hid (fun c d T S u (q1 : RdK u c T) (q2 : RdK u d S) (m1 : T.map (·.1) = ks.map (·.1)) (m2 : S.map (·.1) = ls.map (·.1)) => specSS_any c d T S ks ls u q1 q2 m1 m2)
  have HV := Lib.hid (fun c d T S u (q1 : RdK u c T) (q2 : RdK u d S) (m1 : T.map (·.1) = ks.map (·.1)) (m2 : S.map (·.1) = ls.map (·.1)) => implSS_any c d T S ks ls u q1 q2 m1 m2)
  have HX1 := Lib.hid (fun c1 c2 lo1 hi1 lo2 hi2 u h1 h2 => intactS_same (ks.map (·.1)) c1 c2 lo1 hi1 lo2 hi2 u h1 h2)
  have HX2 := Lib.hid (fun c1 c2 lo1 hi1 lo2 hi2 u h1 h2 => intactS_same (ls.map (·.1)) c1 c2 lo1 hi1 lo2 hi2 u h1 h2)
  clear hk hl hch1 hch2 hf1 hf2
  generalize sameSB (ks.map (·.1)) (ls.map (·.1)) = R at *
  generalize ks.map (·.1) = ms at *
  generalize ls.map (·.1) = ns at *
  generalize (totK ks : Int) = tk at *
  generalize (totK ls : Int) = tl at *
  (try dsimp only at *)
  go_enter Try.func4, Try.ntmps4
  go_wp2_with fail
  refine (HZ1.out _ (RdK_kept H1.out (by go_grown))).mono ?_
  rintro e w1 ⟨rfl, b1⟩
  refine kept_at b1 (w.heap.size) (by go_size) fun c1_0 z1_0 s1_0 => ?_
  refine kept_at b1 (w.heap.size + 1) (by go_size) fun c1_1 z1_1 s1_1 => ?_
  replace b1 := kept_trans (a := w) (by go_grown) b1
  have l1 := kept_cell b1
  have zz1 := b1.size
  go_wp2_with fail
  refine (HZ2.out _ (RdK_kept H2.out b1)).mono ?_
  rintro e w2 ⟨rfl, hb2⟩
  refine kept_at hb2 w.heap.size (by go_size) fun c2_0 z2_0 s2_0 => ?_
  refine kept_at hb2 (w.heap.size + 1) (by go_size) fun c2_1 z2_1 s2_1 => ?_
  have b2 := kept_trans b1 hb2
  go_wp2_with fail
  go_cut [6] (fun s w' => s = .bool R ∧ Below w2.heap.size w2 w')
  case first =>
    go_region_with (first
      | (go_at_call 17; refine (HS.out _ _ Ta Tb _ hca hcb ma mb).mono ?_; rintro e wd ⟨rfl, hbd⟩; have kd_ := kept_trans (a := w2) (by go_grown) hbd)
      | (go_at_call 18; with_reducible (show Calls _ _ #[.agg #[.slice A ks.length cp], _] _ _); refine (HF1.out _ (RdK_kept H1.out (by go_grown))).mono ?_; rintro e wa ⟨ca, rfl, hqa, hba⟩; obtain ⟨Ta, hca, _, ma⟩ := SiteC_use hqa; clear hqa; obtain ⟨Aa, cpa, rfl, _, _⟩ := RdK_at hca; refine kept_at hba (w.heap.size) (by go_size) fun cb3a_0 zb3a_0 sb3a_0 => ?_; refine kept_at hba (w.heap.size + 1) (by go_size) fun cb3a_1 zb3a_1 sb3a_1 => ?_; have ka := kept_trans (a := w2) (by go_grown) hba; have ja := kept_trans b2 ka; (try replace hcb := RdK_kept hcb (kept_trans (a := wb) (by go_grown) hba)))
      | (go_at_call 18; with_reducible (show Calls _ _ #[.agg #[.slice B ls.length cq], _] _ _); refine (HF2.out _ (RdK_kept H2.out (by go_grown))).mono ?_; rintro e wb ⟨cb, rfl, hqb, hbb⟩; obtain ⟨Tb, hcb, _, mb⟩ := SiteC_use hqb; clear hqb; obtain ⟨Ab, cpb, rfl, _, _⟩ := RdK_at hcb; refine kept_at hbb (w.heap.size) (by go_size) fun cb3b_0 zb3b_0 sb3b_0 => ?_; refine kept_at hbb (w.heap.size + 1) (by go_size) fun cb3b_1 zb3b_1 sb3b_1 => ?_; have kb := kept_trans (a := w2) (by go_grown) hbb; have jb := kept_trans b2 kb; (try replace hca := RdK_kept hca (kept_trans (a := wa) (by go_grown) hbb))))
    all_goals
      go_wp2_with fail
      go_meet
      case rel => exact ⟨rfl, kd_⟩
  case rest =>
  obtain ⟨rfl, hb3⟩ := hcut
  refine kept_at hb3 w.heap.size (by go_size) fun c3_0 z3_0 s3_0 => ?_
  refine kept_at hb3 (w.heap.size + 1) (by go_size) fun c3_1 z3_1 s3_1 => ?_
  have b3 := kept_trans b2 hb3
  go_wp2_with fail
  refine (HF1.out _ (RdK_kept H1.out b3)).mono ?_
  rintro e w4 ⟨c4, rfl, hc4, hb4⟩
  obtain ⟨T4, r4, _, m4⟩ := SiteC_use hc4
  obtain ⟨A4, cp4, rfl, _, _⟩ := RdK_at r4
  refine kept_at hb4 w.heap.size (by go_size) fun c4_0 z4_0 s4_0 => ?_
  refine kept_at hb4 (w.heap.size + 1) (by go_size) fun c4_1 z4_1 s4_1 => ?_
  have b4 := kept_trans b3 hb4
  have HC4 := Lib.hid hc4; clear hc4
  have R4 := Lib.hid r4; clear r4
  go_wp2_with fail
  refine (HF2.out _ (RdK_kept H2.out (by go_grown))).mono ?_
  rintro e w5 ⟨c5, rfl, hc5, hb5⟩
  obtain ⟨T5, r5, _, m5⟩ := SiteC_use hc5
  obtain ⟨A5, cp5, rfl, _, _⟩ := RdK_at r5
  refine kept_at hb5 w.heap.size (by go_size) fun c5_0 z5_0 s5_0 => ?_
  refine kept_at hb5 (w.heap.size + 1) (by go_size) fun c5_1 z5_1 s5_1 => ?_
  refine kept_at hb5 w4.heap.size (by go_size) fun c5_2 z5_2 s5_2 => ?_
  have k5 := kept_trans (a := w4) (by go_grown) hb5
  have b5 := kept_trans b4 k5
  replace HC4 := Lib.hid (SiteC_kept HC4.out k5)
  replace R4 := Lib.hid (RdK_kept R4.out k5)
  have HC5 := Lib.hid hc5; clear hc5
  have R5 := Lib.hid r5; clear r5
  go_wp2_with fail
  refine (HV.out _ _ T4 T5 _ (RdK_kept R4.out (by go_grown)) (RdK_kept R5.out (by go_grown)) m4 m5).mono ?_
  rintro e w6 ⟨rfl, hb6⟩
  refine kept_at hb6 w.heap.size (by go_size) fun c6_0 z6_0 s6_0 => ?_
  refine kept_at hb6 (w.heap.size + 1) (by go_size) fun c6_1 z6_1 s6_1 => ?_
  refine kept_at hb6 w4.heap.size (by go_size) fun c6_2 z6_2 s6_2 => ?_
  refine kept_at hb6 w5.heap.size (by go_size) fun c6_3 z6_3 s6_3 => ?_
  have k6 := kept_trans (a := w5) (by go_grown) hb6
  have b6 := kept_trans b5 k6
  replace HC4 := Lib.hid (SiteC_kept HC4.out k6)
  replace HC5 := Lib.hid (SiteC_kept HC5.out k6)
  clear R4 R5
  go_wp2_with fail
  go_cut [40] (fun s w' => s = .bool false ∧ Below w6.heap.size w6 w')
  case first =>
    go_region_with (first
      | (go_at_call 18; refine (HF1.out _ (RdK_kept H1.out (by go_grown))).mono ?_; rintro e wa ⟨ca, rfl, hca, hba⟩; refine kept_at hba (w4.heap.size) (by go_size) fun cb7i_0 zb7i_0 sb7i_0 => ?_; have ka := kept_trans (a := w6) (by go_grown) hba)
      | (go_at_call 20; refine (HX1.out _ _ _ _ _ _ _ (SiteC_kept HC4.out ka) hca).mono ?_; rintro e wb ⟨rfl, hbb⟩; have kb := kept_trans (a := w6) ka hbb))
    all_goals
      go_wp2_with fail
      go_meet
      case rel => exact ⟨rfl, kb⟩
  case rest =>
  obtain ⟨rfl, hb7⟩ := hcut
  refine kept_at hb7 w.heap.size (by go_size) fun c7_0 z7_0 s7_0 => ?_
  refine kept_at hb7 (w.heap.size + 1) (by go_size) fun c7_1 z7_1 s7_1 => ?_
  refine kept_at hb7 w5.heap.size (by go_size) fun c7_3 z7_3 s7_3 => ?_
  have b7 := kept_trans b6 hb7
  replace HC5 := Lib.hid (SiteC_kept HC5.out hb7)
  go_wp2_with fail
  go_cut [45] (fun s w' => s = .bool false ∧ Below wc.heap.size wc w')
  case first =>
    go_region_with (first
      | (go_at_call 18; refine (HF2.out _ (RdK_kept H2.out (by go_grown))).mono ?_; rintro e wa ⟨ca, rfl, hca, hba⟩; refine kept_at hba (w5.heap.size) (by go_size) fun cb8i_0 zb8i_0 sb8i_0 => ?_; have ka := kept_trans (a := wc) (by go_grown) hba)
      | (go_at_call 20; refine (HX2.out _ _ _ _ _ _ _ (SiteC_kept HC5.out ka) hca).mono ?_; rintro e wb ⟨rfl, hbb⟩; have kb := kept_trans (a := wc) ka hbb))
    all_goals
      go_wp2_with fail
      go_meet
      case rel => exact ⟨rfl, kb⟩
  case rest =>
  obtain ⟨rfl, hb8⟩ := hcut
  refine kept_at hb8 w.heap.size (by go_size) fun c8_0 z8_0 s8_0 => ?_
  refine kept_at hb8 (w.heap.size + 1) (by go_size) fun c8_1 z8_1 s8_1 => ?_
  have b8 := kept_trans b7 hb8
  clear HC4 HC5
  go_wp2_with fail
  go_region_with (first
    | (go_at_call 19; refine (HV.out _ _ Ta Tb _ hca hcb ma mb).mono ?_; rintro e wd ⟨rfl, hbd⟩; have kd_ := kept_trans (a := wc) (by go_grown) hbd)
    | (go_at_call 18; with_reducible (show Calls _ _ #[.agg #[.slice A ks.length cp], _] _ _); refine (HT1.out _ (RdK_kept H1.out (by go_grown))).mono ?_; rintro e wa ⟨ca, Ta, rfl, hca, _, ma, hba⟩; obtain ⟨Aa, cpa, rfl, _, _⟩ := RdK_at hca; refine kept_at hba (w.heap.size) (by go_size) fun cb9a_0 zb9a_0 sb9a_0 => ?_; refine kept_at hba (w.heap.size + 1) (by go_size) fun cb9a_1 zb9a_1 sb9a_1 => ?_; have ka := kept_trans (a := wc) (by go_grown) hba; have ja := kept_trans b8 ka; (try replace hcb := RdK_kept hcb (kept_trans (a := wb) (by go_grown) hba)))
    | (go_at_call 18; with_reducible (show Calls _ _ #[.agg #[.slice B ls.length cq], _] _ _); refine (HT2.out _ (RdK_kept H2.out (by go_grown))).mono ?_; rintro e wb ⟨cb, Tb, rfl, hcb, _, mb, hbb⟩; obtain ⟨Ab, cpb, rfl, _, _⟩ := RdK_at hcb; refine kept_at hbb (w.heap.size) (by go_size) fun cb9b_0 zb9b_0 sb9b_0 => ?_; refine kept_at hbb (w.heap.size + 1) (by go_size) fun cb9b_1 zb9b_1 sb9b_1 => ?_; have kb := kept_trans (a := wc) (by go_grown) hbb; have jb := kept_trans b8 kb; (try replace hca := RdK_kept hca (kept_trans (a := wa) (by go_grown) hbb))))
  all_goals
    go_wp2
    go_ret
    exact ⟨rfl, kept_trans b8 kd_⟩

end Go.Proofs.Ytonhndiflhbkiaa
namespace Go.Proofs.Ytonhndiflhbkiaa.fnExactSameSite
open Go.ChangeShapes Go.WideShapes Go.ChangeAt Go.RowKit
set_option linter.unusedVariables false
set_option linter.unusedSimpArgs false
open Go.Joins Go.ChangeMaps
set_option maxRecDepth 100000 in
theorem lifted (os : Os) (started : os.Started) (H : Type) (enc : TypeId × Value → H) :
    ReturnsInHanded {} Try.checked os 4 .any (Rows.fnExactSameSiteSpec.pre6 enc Try.prog Try.f4 Rows.fnExactSameSiteRow.domain false) (Rows.fnExactSameSiteSpec.post enc Try.prog Try.f4 false true false false) := by
  refine returnsInHanded_of_change (C := Try.checked) (show ownKnob Try.prog.godebug = none by kernel_rfl) started (by kernel_rfl) Try.func4
    (ChangeSpec.witness6 (enc := enc) (C := Try.checked) false ⟨#[], #[.agg #[.slice none 0 0], .agg #[.slice none 0 0]], []⟩ 8 (by kernel_rfl) (by kernel_rfl) (by kernel_rfl) (by kernel_rfl)) ?_
  intro W base args ds gs before hval0 hW hcnd _
  have hval : ∀ (j : Nat) t v, Try.f4.params[j]? = some t → args[j]? = some v → Value.okWide Try.prog W .any base t v := hval0
  have hW' := hW
  obtain ⟨p, q, hA0, hV, rfl, hfz, hnd⟩ := hW
  have hA : DataW.TrodAll enc Try.prog W 0 (fun _ => true) true Try.f4.params.toList args.toList ds p := hA0
  rw [Try.params4] at hA hval
  obtain ⟨v0, vs0, d0, ds0, p0, q0, hargs, rfl, rfl, h0, r0⟩ := trodAll_cons hA
  obtain ⟨v1, vs1, d1, ds1, p1, q1, rfl, rfl, rfl, h1, r1⟩ := trodAll_cons r0
  obtain ⟨rfl, rfl, rfl⟩ := trodAll_nil r1
  obtain rfl : args = #[v0, v1] := by cases args; simp_all
  obtain ⟨rfl, rfl⟩ := trodVars_none hV
  obtain ⟨s0_c, s0, rfl, hr0, wf0, hdl0⟩ := open_site (hval 0 39 v0 rfl rfl) h0
  obtain ⟨s1_c, s1, rfl, hr1, wf1, hdl1⟩ := open_site (hval 1 39 v1 rfl rfl) h1
  clear hA0 hval0
  refine (walk_FnExactSameSite (w := W) s0_c s0 hr0 wf0 s1_c s1 hr1 wf1).mono fun e W' ⟨he, hb⟩ => ?_
  subst he
  exact ⟨_, rfl, law_post (B := 4) (by kernel_rfl) (by kernel_rfl) rfl Try.underlying4 rfl hW' rfl hb⟩

/-- The statement: for every input the law returns true, and the arguments read afterwards as before. -/
theorem proved : Rows.FnExactSameSiteSaid :=
  OpenClaim.holds_of_wide 4 Try.f4 rfl rfl rfl rfl rfl rfl rfl ⟨rfl, rfl, rfl, rfl, rfl⟩ rfl rfl rfl rfl rfl (by kernel_rfl) Try.func4 (by kernel_rfl)
    (of_decide_eq_true (by kernel_rfl)) (by unfold Func.isWrapper; first | (rw [if_pos (by decide +kernel)]; kernel_rfl) | (rw [if_neg (by decide +kernel)]; exact ⟨rfl, rfl⟩))
    (fun os started H enc _ => lifted os started H enc)
end Go.Proofs.Ytonhndiflhbkiaa.fnExactSameSite
