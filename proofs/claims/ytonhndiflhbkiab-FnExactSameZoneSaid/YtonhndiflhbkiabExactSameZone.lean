/- Proved: for every input the law FnExactSameZone returns true, and each argument reads afterwards as it read before; no condition beside those of the given row. -/
import Derived.Test.YtonhndiflhbkiabRows
import Derived.WalkKit
import Derived.ProofKit
import Derived.OpenShut
import Derived.Lib.Hide
import Derived.Handy
import Derived.BigQuiet
import Derived.Carry
import Derived.Deep.DeepCutAuto
import Derived.Deep.QuietTactic
import Derived.Deep.RegionHeld3
import Derived.Deep.SlicePairs
import Derived.Lib.SmallJoins
import Derived.Lib.SmallJoins
import Derived.ChangeMaps5
namespace Go.Proofs.Ytonhndiflhbkiab
open Go.ChangeShapes Go.WideShapes Go.ChangeAt Go.RowKit
set_option linter.unusedVariables false
set_option linter.unusedSimpArgs false

theorem tmod_pos (n k : Int) (h : 0 ≤ n) : n.tmod k = n % k := Int.tmod_eq_emod_of_nonneg h

theorem trodAll_stay {H : Type} {enc : TypeId × Value → H} {P : Program} (hl : laidOutB P = true) {W W' : World} (hb : Below W.heap.size W W') :
    ∀ (ts : List TypeId) (vs : List Value) (ds : List (DataW H)) (ps : List MemPlace), ts.all (fun t => P.readableRec t && decide (t < P.types.size)) = true →
      DataW.TrodAll enc P W 0 (fun _ => true) true ts vs ds ps → (∀ x ∈ ps, x.block < W.heap.size) →
      DataW.TrodAll enc P W' 0 (fun b => decide (b < W.heap.size)) true ts vs ds ps := by
  intro ts
  induction ts with
  | nil => intro vs ds ps _ h _; obtain ⟨rfl, rfl, rfl⟩ := trodAll_nil h; exact rfl
  | cons t ts ih =>
    intro vs ds ps hr h hlt
    simp only [List.all_cons, Bool.and_eq_true, decide_eq_true_eq] at hr
    obtain ⟨v, vs', d, ds', p, q, rfl, rfl, rfl, h0, h1⟩ := trodAll_cons h
    exact ⟨p, q, Below.trod hl hr.1.1 hr.1.2 h0 hb (fun x hx => hlt x (by simp [hx])), ih _ _ _ hr.2 h1 (fun x hx => hlt x (by simp [hx])), rfl⟩

/-- A law's row at its end: it returned true, and of what was there nothing has turned. -/
theorem law_post {H : Type} {enc : TypeId × Value → H} {P : Program} {f : Func} {s : ChangeSpec} {W W' : World} {args : Array Value} {ds gs : List (DataW H)} {before : List MemPlace} {B : TypeId}
    (hl : laidOutB P = true) (hr : f.params.toList.all (fun t => P.readableRec t && decide (t < P.types.size)) = true)
    (hres : f.resultTypes = #[B]) (hB : P.underlying B = some .bool) (hv : s.vars = [])
    (hW : DataW.Whole enc P f.params.toList s.vars false W args.toList ds gs before)
    (hfn : s.fn H (ds ++ gs) = { results := [.lit (.bool true)], args := ds }) (hb : Below W.heap.size W W') :
    s.post enc P f false true false false W args (.bool true) W' := by
  have hlt : ∀ p ∈ before, p.block < W.heap.size := fun p hp => hW.lt p hp
  have hW' := hW
  obtain ⟨p, q, hA, hV, rfl, _, _⟩ := hW'
  rw [hv] at hV
  obtain ⟨rfl, rfl⟩ := trodVars_none hV
  refine ⟨ds, [], p ++ [], [], p, [], hW, ?_, ?_, ?_, hb.frame _, fun h => by cases h⟩
  · rw [hfn, hres]
    exact trodAll_cons_mk (shut_bool hB _) trodAll_mk0
  · rw [hfn]
    exact trodAll_stay hl hb _ _ _ _ hr hA (fun x hx => hlt x (by simp [hx]))
  · rw [hfn, hv]
    exact rfl

theorem kept_cell {W w1 : World} (hb : Below W.heap.size W w1) (b o : Nat) (h : b < W.heap.size) : w1.cell? ⟨b, o, none⟩ = W.cell? ⟨b, o, none⟩ := hb.cell (p := ⟨b, o, none⟩) h

theorem kept_frozen {W w1 : World} (hb : Below W.heap.size W w1) (b o : Nat) (h : b < W.heap.size) : w1.frozen? ⟨b, o, none⟩ = W.frozen? ⟨b, o, none⟩ := hb.frozen (p := ⟨b, o, none⟩) h

theorem kept {W w1 : World} (hb : Below W.heap.size W w1) :
    (∀ b o, b < W.heap.size → w1.cell? ⟨b, o, none⟩ = W.cell? ⟨b, o, none⟩) ∧ (∀ b o, b < W.heap.size → w1.frozen? ⟨b, o, none⟩ = W.frozen? ⟨b, o, none⟩) ∧ W.heap.size ≤ w1.heap.size :=
  ⟨kept_cell hb, kept_frozen hb, hb.size⟩

theorem kept_trans {a b c : World} (h : Below a.heap.size a b) (k : Below b.heap.size b c) : Below a.heap.size a c := h.trans (k.mono h.size)

theorem kept_at {W w1 : World} (hb : Below W.heap.size W w1) (b : Nat) {G : Prop} (h : b < W.heap.size)
    (k : (∀ o, w1.cell? ⟨b, o, none⟩ = W.cell? ⟨b, o, none⟩) → (∀ o, w1.frozen? ⟨b, o, none⟩ = W.frozen? ⟨b, o, none⟩) → b < w1.heap.size → G) : G :=
  k (fun o => kept_cell hb b o h) (fun o => kept_frozen hb b o h) (Nat.lt_of_lt_of_le h hb.size)

theorem kept_drewN {B : Nat} {a w : World} (h : Below B a w) (n : Nat) : Below B a (w.drewN n) := { os := h.os, tape := h.tape, output := h.output, size := h.size, block := h.block }

theorem grown_step {a b c : World} {row : Option Nat} (h : a.grownBy b row) (k : b.grownBy c row) : a.grownBy c row :=
  ⟨k.os.trans h.os, k.tape.trans h.tape, k.output.trans h.output, Nat.le_trans h.size k.size, fun i hi hne => (k.block i (Nat.lt_of_lt_of_le hi h.size) hne).trans (h.block i hi hne)⟩

theorem grown_below {a b c : World} {row : Option Nat} (h : Below a.heap.size a b) (k : b.grownBy c row) (hr : ∀ g, row = some g → a.heap.size ≤ g) : Below a.heap.size a c := h.grown k h.size hr

theorem results_cell1 {fn : Func} {p : Tmp} {ty : TypeId} (h : fn.results = #[.cell p ty]) (tmps : Array Value) (P : Program) (w : World) :
    (results fn tmps).run P w = ((asAddr (tmps.getD p undef)).run P w).andThen fun a w₁ => (loadVar ty a).run P w₁ := by
  simp only [results, h]
  simp [Sem.run_bind, Result.andThen]

theorem grown_set (w : World) (a : Addr) (u : Value) : w.grownBy (w.setCell a u) (some a.block) :=
  ⟨rfl, rfl, rfl, by simp, fun k _ hk => heap_setCell_other w a k u (fun e => hk (by rw [e]))⟩

theorem toPoint_any (x y : Int) (w : World) :
    Calls Try.prog 21 #[.agg #[.int .i64 x, .int .i64 y]] w fun e w' => e = .returned (.agg #[.int .i64 x, .int .i64 y]) ∧ Below w.heap.size w w' := by
  go_enter Try.func21, Try.ntmps21
  go_wp2
  go_returns
  exact ⟨rfl, by go_grown⟩

theorem own_kept {W w1 : World} {base : Nat} {e : TypeId} {size : Nat} {v : Value} {n : Nat} {xs : List Value} (h : W.ownsRow base e size v n xs) (hb : Below W.heap.size W w1) : w1.ownsRow base e size v n xs := by
  refine ⟨h.1, ?_⟩
  rcases h.2 with h2 | ⟨g, cap, cur, hv, hg, hh, r⟩
  · exact Or.inl h2
  · refine Or.inr ⟨g, cap, cur, hv, hg, ?_, r⟩
    rw [hb.block g (h.lt g (by rw [hv]; rfl)).2]
    exact hh

theorem eqPoint_same (x y : Int) (w : World) :
    Calls Try.prog 79 #[.agg #[.int .i64 x, .int .i64 y], .agg #[.int .i64 x, .int .i64 y]] w fun e w' => e = .returned (.bool true) ∧ Below w.heap.size w w' := by
  go_enter Try.func79, Try.ntmps79
  go_wp2
  go_ret
  exact ⟨rfl, by go_grown⟩

theorem flat_len {α : Type} {enc : α → List Value} {sz : Nat} (h : ∀ z, (enc z).length = sz) (zs : List α) : (zs.flatMap enc).length = zs.length * sz := by
  induction zs with
  | nil => simp
  | cons z zs ih => rw [List.flatMap_cons, List.length_append, ih, h, List.length_cons, Nat.add_mul]; omega

theorem flat_at {α : Type} {enc : α → List Value} {sz : Nat} (h : ∀ z, (enc z).length = sz) (zs : List α) (k j : Nat) (hk : k < zs.length) (hj : j < sz) : (zs.flatMap enc)[k * sz + j]? = (enc zs[k])[j]? := by
  induction zs generalizing k with
  | nil => simp at hk
  | cons z zs ih =>
    cases k with
    | zero => rw [List.flatMap_cons, List.getElem?_append_left (by rw [h]; omega)]; simp
    | succ k =>
      have e : (k + 1) * sz + j - (enc z).length = k * sz + j := by rw [h, Nat.add_mul]; omega
      rw [List.flatMap_cons, List.getElem?_append_right (by rw [h, Nat.add_mul]; omega), e, ih k (by simpa using hk)]
      simp

/-- The slice value reads as n elements of sz cells each, cell for cell. -/
def RdF (w : World) (v : Value) (n sz : Nat) (xs : List Value) : Prop :=
  n ≤ 9223372036854775807 ∧ xs.length = n * sz ∧ ∃ A c, v = .slice A n c ∧ ∀ i, i < n * sz → ∃ b off, A = some ⟨b, off, none⟩ ∧ b < w.heap.size ∧ w.cell? ⟨b, off + i, none⟩ = xs[i]?

theorem RdF_kept {W w1 : World} {v : Value} {n sz : Nat} {xs : List Value} (h : RdF W v n sz xs) (hb : Below W.heap.size W w1) : RdF w1 v n sz xs := by
  obtain ⟨hl, hx, A, c, rfl, hr⟩ := h
  refine ⟨hl, hx, A, c, rfl, fun k hk => ?_⟩
  obtain ⟨b, off, e, hlt, hc⟩ := hr k hk
  exact ⟨b, off, e, Nat.lt_of_lt_of_le hlt hb.size, by rw [kept_cell hb b _ hlt]; exact hc⟩

/-- A row of elements of the call's own (type e, sz cells each), in a block from lo on and below hi. -/
def RowF (e sz : Nat) (w : World) (lo hi : Nat) (v : Value) (n : Nat) (xs : List Value) : Prop :=
  w.ownsRow lo e sz v n xs ∧ ∀ g, v.ownBlock = some g → lo ≤ g ∧ g < hi

theorem RowF_nil (e sz : Nat) (w : World) (lo hi : Nat) : RowF e sz w lo hi (.slice none 0 0) 0 [] := ⟨World.ownsRow_nil _ _ _ _, fun g h => by simp [Value.ownBlock] at h⟩

theorem RowF_form {e sz : Nat} {w : World} {lo hi : Nat} {v : Value} {n : Nat} {xs : List Value} (h : RowF e sz w lo hi v n xs) :
    (n = 0 ∧ xs = [] ∧ v = .slice none 0 0) ∨ ∃ g cap, v = .slice (some ⟨g, 0, none⟩) n cap ∧ lo ≤ g ∧ g < hi ∧ g < w.heap.size ∧ n ≤ cap ∧ cap ≤ maxLen := by
  rcases h.1.2 with ⟨h1, h2⟩ | ⟨g, cap, cur, rfl, hg, hh, h3, h4, _⟩
  · exact Or.inl ⟨h2, List.eq_nil_of_length_eq_zero (by rw [h.1.1, h2, Nat.zero_mul]), h1⟩
  · exact Or.inr ⟨g, cap, rfl, hg, (h.2 g rfl).2, (h.1.lt g rfl).2, h3, h4⟩

theorem RowF_rd {e sz : Nat} {w : World} {lo hi : Nat} {v : Value} {n : Nat} {xs : List Value} (h : RowF e sz w lo hi v n xs) : RdF w v n sz xs := by
  rcases RowF_form h with ⟨rfl, rfl, rfl⟩ | ⟨g, cap, rfl, _, _, hlt, h3, h4⟩
  · exact ⟨by simp, by simp, none, 0, rfl, fun k hk => by simp at hk⟩
  · unfold maxLen at h4
    refine ⟨by omega, h.1.1, some ⟨g, 0, none⟩, cap, rfl, fun k hk => ⟨g, 0, rfl, hlt, ?_⟩⟩
    rw [Nat.zero_add, h.1.cellAt k hk]

theorem RowF_kept {e sz : Nat} {W w1 : World} {lo hi : Nat} {v : Value} {n : Nat} {xs : List Value} (h : RowF e sz W lo hi v n xs) (hb : Below W.heap.size W w1) : RowF e sz w1 lo hi v n xs := ⟨own_kept h.1 hb, h.2⟩

theorem RowF_far {e sz : Nat} {W w1 : World} {lo hi : Nat} {v : Value} {n : Nat} {xs : List Value} {row : Option Nat} (h : RowF e sz W lo hi v n xs) (hg : W.grownBy w1 row) (hr : ∀ g, row = some g → g < lo ∨ hi ≤ g) : RowF e sz w1 lo hi v n xs := by
  refine ⟨h.1.kept hg ?_, h.2⟩
  rcases hv : v.ownBlock with _ | g
  · exact Or.inl rfl
  · refine Or.inr (fun e => ?_)
    have h1 := h.2 g hv
    have h2 := hr g e.symm
    omega

/-- The first elements of a row. -/
theorem RowF_short {e sz : Nat} {w : World} {lo hi g cap m n : Nat} {xs : List Value} (h : RowF e sz w lo hi (.slice (some ⟨g, 0, none⟩) m cap) m xs) (hn : n ≤ m) :
    RowF e sz w lo hi (.slice (some ⟨g, 0, none⟩) n cap) n (xs.take (n * sz)) := by
  refine ⟨⟨?_, ?_⟩, fun g' hg' => h.2 g' hg'⟩
  · rw [List.length_take, h.1.1]
    have := Nat.mul_le_mul_right sz hn
    omega
  · rcases h.1.2 with ⟨h1, h2⟩ | ⟨g', cap', cur, h1, hg, hh, h3, h4, h5, h6⟩
    · simp at h1
    · simp only [Value.slice.injEq, Option.some.injEq, Addr.mk.injEq, and_true, true_and] at h1
      obtain ⟨rfl, rfl⟩ := h1
      refine Or.inr ⟨g, cap, cur, rfl, hg, hh, by omega, h4, h5, ?_⟩
      rw [← h6, List.take_take]
      congr 1
      have := Nat.mul_le_mul_right sz hn
      omega

theorem RowF_lo {e sz : Nat} {w : World} {lo lo' hi hi' : Nat} {v : Value} {n : Nat} {xs : List Value} (h : RowF e sz w lo hi v n xs) (hl : lo' ≤ lo) (hh : hi ≤ hi') : RowF e sz w lo' hi' v n xs :=
  ⟨Joins.ownsRow_le h.1 hl, fun g hg => ⟨by have := (h.2 g hg).1; omega, by have := (h.2 g hg).2; omega⟩⟩

theorem RowF_set {e sz : Nat} {w : World} {lo hi b o n : Nat} {v u : Value} {xs : List Value} (h : RowF e sz w lo hi v n xs) (hb : b < lo) : RowF e sz (w.setCell ⟨b, o, none⟩ u) lo hi v n xs :=
  RowF_far h (grown_set _ _ _) (fun g hg => by simp at hg; omega)

/-- A pair of numbers, cell by cell. -/
def encP (z : Int × Int) : List Value := [.int .i64 z.1, .int .i64 z.2]

def flatP (zs : List (Int × Int)) : List Value := zs.flatMap encP

theorem flatP_len (zs : List (Int × Int)) : (flatP zs).length = zs.length * 2 := flat_len (enc := encP) (fun _ => rfl) zs

theorem flatP_at (zs : List (Int × Int)) (k : Nat) (h : k < zs.length) : (flatP zs)[k * 2]? = some (.int .i64 zs[k].1) ∧ (flatP zs)[k * 2 + 1]? = some (.int .i64 zs[k].2) :=
  ⟨flat_at (enc := encP) (sz := 2) (fun _ => rfl) zs k 0 h (by omega), flat_at (enc := encP) (sz := 2) (fun _ => rfl) zs k 1 h (by omega)⟩

/-- The slice value reads as a list of pairs of numbers. -/
def RdP (w : World) (v : Value) (zs : List (Int × Int)) : Prop := RdF w v zs.length 2 (flatP zs)

theorem RdP_kept {W w1 : World} {v : Value} {zs : List (Int × Int)} (h : RdP W v zs) (hb : Below W.heap.size W w1) : RdP w1 v zs := RdF_kept h hb

theorem RdP_slice {w : World} {v : Value} {zs : List (Int × Int)} (h : RdP w v zs) : ∃ A c, v = .slice A zs.length c ∧ zs.length ≤ 9223372036854775807 ∧
    ∀ k, (hk : k < zs.length) → ∃ b off, A = some ⟨b, off, none⟩ ∧ b < w.heap.size ∧ w.cell? ⟨b, off + k * 2, none⟩ = some (.int .i64 zs[k].1) ∧ w.cell? ⟨b, off + k * 2 + 1, none⟩ = some (.int .i64 zs[k].2) := by
  obtain ⟨hl, hx, A, c, rfl, hr⟩ := h
  refine ⟨A, c, rfl, hl, fun k hk => ?_⟩
  obtain ⟨b, off, rfl, hlt, h0⟩ := hr (k * 2) (by omega)
  obtain ⟨b', off', e, _, h1⟩ := hr (k * 2 + 1) (by omega)
  simp only [Option.some.injEq, Addr.mk.injEq, and_true] at e
  obtain ⟨rfl, rfl⟩ := e
  rw [(flatP_at zs k hk).1] at h0
  rw [(flatP_at zs k hk).2, ← Nat.add_assoc] at h1
  exact ⟨b, off, rfl, hlt, h0, h1⟩

def roomL (n : Nat) : Nat := if n % 6 = 5 then 0 else if n % 3 = 0 then 1 else n

theorem roomL_le (n : Nat) : roomL n ≤ n + 1 := by
  unfold roomL
  split
  · omega
  · split <;> omega

theorem room_any (n : Nat) (hn : n ≤ 9223372036854775807) (w : World) :
    Calls Try.prog 58 #[.int .i64 n] w fun e w' => e = .returned (.int .i64 (roomL n : Nat)) ∧ w = w' := by
  unfold roomL
  have e6 : (n : Int).tmod 6 = ((n % 6 : Nat) : Int) := by rw [tmod_pos _ _ (by omega)]; omega
  have e3 : (n : Int).tmod 3 = ((n % 3 : Nat) : Int) := by rw [tmod_pos _ _ (by omega)]; omega
  by_cases h6 : n % 6 = 5
  · rw [h6] at e6
    go_enter Try.func58, Try.ntmps58
    go_wp2
    go_ret
    exact ⟨by simp [h6], rfl⟩
  · have d6 : ((n : Int).tmod 6 == 5) = false := by rw [e6]; simp; omega
    by_cases h3 : n % 3 = 0
    · rw [h3] at e3
      go_enter Try.func58, Try.ntmps58
      go_wp2
      go_ret
      exact ⟨by simp [h6, h3], rfl⟩
    · have d3 : ((n : Int).tmod 3 == 0) = false := by rw [e3]; simp; omega
      go_enter Try.func58, Try.ntmps58
      go_wp2
      go_ret
      exact ⟨by simp [h6, h3], rfl⟩

def fillP : Int × Int := (-7000000000000000101, -7000000000000000101)

theorem flatP_set (l : List (Int × Int)) (j : Nat) (x y : Int) : ((flatP l).set (j * 2) (.int .i64 x)).set (j * 2 + 1) (.int .i64 y) = flatP (l.set j (x, y)) := by
  induction l generalizing j with
  | nil => simp [flatP]
  | cons z l ih =>
    cases j with
    | zero => simp [flatP, encP]
    | succ j =>
      have := ih j
      simp only [flatP, encP, List.flatMap_cons, List.cons_append, List.nil_append, Nat.succ_mul, List.set_cons_succ] at this ⊢
      rw [this]

theorem fill_step {α : Type} (T : List α) (z : α) (j : Nat) (h : j < T.length) : (T.take j ++ List.replicate (T.length - j) z).set j T[j] = T.take (j + 1) ++ List.replicate (T.length - (j + 1)) z := by
  obtain ⟨m, hm⟩ : ∃ m, T.length - j = m + 1 := ⟨T.length - j - 1, by omega⟩
  rw [hm, show T.length - (j + 1) = m by omega, List.replicate_succ, List.set_append, if_neg (by simp; omega), List.length_take, Nat.min_eq_left (by omega), Nat.sub_self, List.set_cons_zero, ← List.take_append_getElem h, List.append_assoc]
  rfl

/-- What a copy's block holds: the list, and behind it the filler. -/
def copyT (zs : List (Int × Int)) : List (Int × Int) := zs ++ List.replicate (roomL zs.length) fillP

theorem copyT_len (zs : List (Int × Int)) : (copyT zs).length = zs.length + roomL zs.length := by simp [copyT]

theorem made_flat (n : Nat) : (madeCells #[.int .i64 0, .int .i64 0] (n * 2)).toList = flatP (List.replicate n (0, 0)) := by
  apply List.ext_getElem?
  intro j
  by_cases hj : j < n * 2
  · have h := flatP_at (List.replicate n ((0 : Int), (0 : Int))) (j / 2) (by simp; omega)
    simp only [List.getElem_replicate] at h
    rcases Nat.mod_two_eq_zero_or_one j with hp | hp
    · rw [show j / 2 * 2 = j by omega] at h
      rw [h.1]
      simp [madeCells, hj, hp]
    · rw [show j / 2 * 2 + 1 = j by omega] at h
      rw [h.2]
      simp [madeCells, hj, hp]
  · rw [List.getElem?_eq_none (by rw [Array.length_toList, size_madeCells]; omega), List.getElem?_eq_none (by rw [flatP_len]; simp; omega)]

theorem copyT_at (zs : List (Int × Int)) (j : Nat) : (h : j < zs.length) → (copyT zs)[j]'(by rw [copyT_len]; omega) = zs[j] := by
  intro h
  simp [copyT, h]

theorem copyT_fill (zs : List (Int × Int)) (j : Nat) (h : zs.length ≤ j) : (h2 : j < (copyT zs).length) → (copyT zs)[j] = fillP := by
  intro h2
  simp [copyT, h]

/-- Cells that read as a slice of structs of two numbers. -/
theorem open_pairsC {H : Type} {enc : TypeId × Value → H} {P : Program} {W : World} {t e : TypeId} {f0 f1 : Field} {base fuel : Nat} {sp : Nat → Bool} {held : Bool} {cs : List Value} {z : DataW H × List MemPlace}
    (ht : P.underlying t = some (.slice e)) (he : P.underlying e = some (.struct #[f0, f1])) (i0 : P.underlying f0.type = some (.int .i64)) (i1 : P.underlying f1.type = some (.int .i64))
    (ce : P.cellsOf e = 2) (o0 : f0.offset = 0) (o1 : f1.offset = 1) (c0 : P.cellsOf f0.type = 1) (c1 : P.cellsOf f1.type = 1)
    (h : DataW.trod enc P W base sp held fuel t cs = some z) :
    ∃ (v : Value) (zs : List (Int × Int)), cs = [v] ∧ RdP W v zs := by
  rcases Deep.open_slice_pairs ht he ce o0 o1 c0 c1 h with ⟨hcs, hx⟩ | ⟨a, len, cap, m, n, V0, V1, D0, D1, P0, P1, hcs, _, hl, hm, hmm, hx, hi⟩
  · exact ⟨_, [], hcs, ⟨by simp, rfl, none, 0, rfl, fun i hi => by simp at hi⟩⟩
  · have hlm : len ≤ m := by rw [hmm]; split <;> omega
    have each : ∀ i, i < len → ∃ q : Int × Int, V0 i = .int .i64 q.1 ∧ V1 i = .int .i64 q.2 := by
      intro i hlt
      obtain ⟨_, _, g0, g1⟩ := hi i (by omega)
      obtain ⟨x, e0, _, w0⟩ := DataW.trod_int i0 g0
      obtain ⟨y, e1, _, w1⟩ := DataW.trod_int i1 g1
      simp at e0 e1
      exact ⟨(x, y), e0, e1⟩
    obtain ⟨q, hq⟩ := Deep.choose_lt each
    obtain ⟨b, off, spot⟩ := a
    refine ⟨_, (List.range len).map q, hcs, ⟨by simp; unfold maxLen at hm; omega, by rw [flatP_len], some ⟨b, off, spot⟩, cap, by simp, fun j hj => ?_⟩⟩
    simp only [List.length_map, List.length_range] at hj
    obtain ⟨h0, h1, _, _⟩ := hi (j / 2) (by omega)
    have hspot : spot = none := by simpa [Addr.add] using World.cell?_spot (hi 0 (by omega)).1
    subst hspot
    rw [add_plain] at h0 h1
    have hat := flatP_at ((List.range len).map q) (j / 2) (by simp; omega)
    simp only [List.getElem_map, List.getElem_range] at hat
    rw [← (hq (j / 2) (by omega)).1, ← (hq (j / 2) (by omega)).2] at hat
    refine ⟨b, off, rfl, World.block_lt_of_cell? _ _ h0, ?_⟩
    rcases Nat.mod_two_eq_zero_or_one j with hp | hp
    · have e : j / 2 * 2 = j := by omega
      rw [e] at hat h0
      rw [hat.1, ← h0]
    · have e : j / 2 * 2 + 1 = j := by omega
      rw [e] at hat h1
      rw [hat.2, ← h1]

theorem szN_any (A : Option Addr) (n c : Nat) (left : Int) (h : 0 ≤ left ∧ left ≤ 1000000) (hn : n ≤ 9223372036854775807) (w : World) :
    Calls Try.prog 34 #[.slice A n c, .int .i64 left] w fun e w' => e = .returned (.int .i64 (if (n : Int) ≤ left then left - n else -1)) ∧ w = w' := by
  by_cases h1 : (n : Int) ≤ left
  · rw [if_pos h1]
    go_enter Try.func34, Try.ntmps34
    go_wp2
    go_ret
    exact ⟨rfl, rfl⟩
  · rw [if_neg h1]
    go_enter Try.func34, Try.ntmps34
    go_wp2
    go_ret
    exact ⟨rfl, rfl⟩

theorem fillPtN_any (w : World) :
    Calls Try.prog 65 #[] w fun e w' => e = .returned (.agg #[.int .i64 fillP.1, .int .i64 fillP.2]) ∧ Below w.heap.size w w' := by
  unfold fillP
  go_enter Try.func65, Try.ntmps65
  go_wp2
  go_returns
  exact ⟨rfl, by go_grown⟩

theorem info_point : (Try.prog.info? 38).map (fun i => (i.zero, i.size, i.bytes)) = some (some (.agg #[.int .i64 0, .int .i64 0]), 2, 16) := by kernel_rfl

theorem eqN_same (v1 v2 : Value) (zs : List (Int × Int)) (w : World) (h1 : RdP w v1 zs) (h2 : RdP w v2 zs) :
    Calls Try.prog 66 #[v1, v2] w fun e w' => e = .returned (.bool true) ∧ Below w.heap.size w w' := by
  obtain ⟨A, c, rfl, hl, r1⟩ := RdP_slice h1
  obtain ⟨A2, c2, rfl, _, r2⟩ := RdP_slice h2
  clear h1 h2
  have R1 := Lib.hid r1; clear r1
  have R2 := Lib.hid r2; clear r2
  go_enter Try.func66, Try.ntmps66
  go_wp2_with fail
  go_loopw [5] (fun i wr => ∃ k : Nat, k ≤ zs.length ∧ i = .int .i64 k ∧ Below w.heap.size w wr) (fun i _ => zs.length - (intOf i).toNat)
  case atStart => exact ⟨0, by omega, rfl, Below.refl _ _⟩
  case round =>
    obtain ⟨k, hk, rfl, hb⟩ := hrel
    by_cases hlt : k < zs.length
    · obtain ⟨b, off, rfl, hbl, hc0, hc1⟩ := R1.out k hlt
      obtain ⟨b2, off2, rfl, hbl2, hd0, hd1⟩ := R2.out k hlt
      rw [← kept_cell hb b _ hbl] at hc0 hc1
      rw [← kept_cell hb b2 _ hbl2] at hd0 hd1
      generalize zs[k].1 = x at *
      generalize zs[k].2 = y at *
      have hsz := hb.size
      have hbl' := Nat.lt_of_lt_of_le hbl hsz
      have hbl2' := Nat.lt_of_lt_of_le hbl2 hsz
      go_wp2_with fail
      go_region_held3 (fun w' => w'.cell? ⟨b, off + k * 2, none⟩ = some (.int .i64 x) ∧ w'.cell? ⟨b, off + k * 2 + 1, none⟩ = some (.int .i64 y) ∧ w'.cell? ⟨b2, off2 + k * 2, none⟩ = some (.int .i64 x) ∧ w'.cell? ⟨b2, off2 + k * 2 + 1, none⟩ = some (.int .i64 y)) (go_keep)
        ((go_at_call 79; refine (eqPoint_same _ _ _).mono ?_; rintro e w1 ⟨rfl, hb1⟩; replace hb1 := kept_trans (a := wr) (by go_grown) hb1; have hcl := kept_cell hb1))
      go_wp2
      go_roundw
      case rel => exact ⟨k + 1, by omega, by go_num, kept_trans hb (by assumption)⟩
      case measure => simp [intOf]; omega
    · have : k = zs.length := by omega
      subst this
      go_wp2
      go_ret
      exact ⟨rfl, hb⟩

/-- A copy of a list of steps that the law made: the whole block is a row of the call's own. -/
def CopyN (w : World) (lo hi : Nat) (v : Value) (zs : List (Int × Int)) : Prop :=
  zs.length ≤ 1000000 ∧ ∃ g, v = .slice (some ⟨g, 0, none⟩) zs.length (copyT zs).length ∧ RowF 38 2 w lo hi (.slice (some ⟨g, 0, none⟩) (copyT zs).length (copyT zs).length) (copyT zs).length (flatP (copyT zs))

theorem CopyN_kept {W w1 : World} {lo hi : Nat} {v : Value} {zs : List (Int × Int)} (h : CopyN W lo hi v zs) (hb : Below W.heap.size W w1) : CopyN w1 lo hi v zs := by
  obtain ⟨hl, g, e, hr⟩ := h
  exact ⟨hl, g, e, RowF_kept hr hb⟩

theorem CopyN_row {w : World} {lo hi : Nat} {v : Value} {zs : List (Int × Int)} (h : CopyN w lo hi v zs) : RowF 38 2 w lo hi v zs.length (flatP zs) := by
  obtain ⟨hl, g, rfl, hr⟩ := h
  have := RowF_short hr (n := zs.length) (by rw [copyT_len]; omega)
  have e : (flatP (copyT zs)).take (zs.length * 2) = flatP zs := by
    rw [show flatP (copyT zs) = flatP zs ++ flatP (List.replicate (roomL zs.length) fillP) by simp [flatP, copyT]]
    rw [← flatP_len, List.take_left]
  rwa [e] at this

theorem CopyN_rd {w : World} {lo hi : Nat} {v : Value} {zs : List (Int × Int)} (h : CopyN w lo hi v zs) : RdP w v zs := RowF_rd (CopyN_row h)

theorem make_points (n : Nat) (h : n ≤ 4000000) (w : World) :
    (Instr.makeSlice 27 (.int .i64 (n : Int)) (.int .i64 (n : Int))).run Try.prog w = .ok (.slice (some ⟨w.heap.size, 0, none⟩) n n) (w.alloc (.cells (madeCells #[.int .i64 0, .int .i64 0] (n * 2)) 38)) := by
  obtain ⟨i, hi, hz, hs, hb⟩ := info_parts info_point
  have hb' : (i.bytes : Int) * (n : Int) ≤ 281474976710656 := by rw [hb]; omega
  have hr := run_make (P := Try.prog) w 27 38 i (.agg #[.int .i64 0, .int .i64 0]) Try.underlying27 hi hz .i64 .i64 n n (by omega) (Int.le_refl _) hb' (by omega)
  simp only [Int.toNat_natCast, hs] at hr
  exact hr

theorem toN_row (v : Value) (zs : List (Int × Int)) (bare : Bool) (w : World) (h : RdP w v zs) (hn : zs.length ≤ 1000000) (hbare : bare = false ∨ zs ≠ []) :
    Calls Try.prog 36 #[v, .bool bare] w fun e w' => ∃ v', e = .returned v' ∧ CopyN w' w.heap.size w'.heap.size v' zs ∧ Below w.heap.size w w' := by
  obtain ⟨A, c, rfl, hl, r1⟩ := RdP_slice h
  clear h
  have R := Lib.hid r1; clear r1
  have hN := copyT_len zs
  have hr := roomL_le zs.length
  have hmk : ∀ w : World, (Instr.makeSlice 27 (.int .i64 ((zs.length : Int) + (roomL zs.length : Int))) (.int .i64 ((zs.length : Int) + (roomL zs.length : Int)))).run Try.prog w = .ok (.slice (some ⟨w.heap.size, 0, none⟩) (copyT zs).length (copyT zs).length) (w.alloc (.cells (madeCells #[.int .i64 0, .int .i64 0] ((copyT zs).length * 2)) 38)) := by
    intro w
    have := make_points (copyT zs).length (by omega) w
    rwa [show (((copyT zs).length : Nat) : Int) = (zs.length : Int) + (roomL zs.length : Int) by omega] at this
  have hcap : (copyT zs).length ≤ maxLen := by unfold maxLen; omega
  have hrow0 : ∀ wa : World, w.heap.size ≤ wa.heap.size → (wa.alloc (.cells (madeCells #[.int .i64 0, .int .i64 0] ((copyT zs).length * 2)) 38)).ownsRow w.heap.size 38 2 (.slice (some ⟨wa.heap.size, 0, none⟩) (copyT zs).length (copyT zs).length) (copyT zs).length (flatP ((copyT zs).take 0 ++ List.replicate ((copyT zs).length - 0) (0, 0))) := by
    intro wa hwa
    have := World.ownsRow_lit wa (e := 38) (size := 2) (madeCells #[.int .i64 0, .int .i64 0] ((copyT zs).length * 2)) (copyT zs).length hwa hcap (size_madeCells _ _)
    rw [made_flat] at this
    simpa using this
  have Hrow := Lib.hid hrow0; clear hrow0
  have hb0 : bare = true → ((zs.length : Int) == 0) = false := by
    intro hb
    have : zs.length ≠ 0 := fun h => by
      rcases hbare with h1 | h1
      · rw [hb] at h1; cases h1
      · exact h1 (List.eq_nil_of_length_eq_zero h)
    simpa using this
  clear hbare
  generalize hNN : (copyT zs).length = N at *
  have HNN := Lib.hid hNN; clear hNN
  have hNb : N ≤ 2000002 ∧ zs.length ≤ N := by omega
  have HN := Lib.hid hN; clear hN
  cases bare
  all_goals
    have hbn := hb0
    simp only [forall_const, reduceCtorEq, false_implies, Bool.false_eq_true] at hbn
    clear hb0
    go_enter Try.func36, Try.ntmps36
    go_wp2_with (go_at_call 58; refine (room_any _ (by omega) _).mono ?_; rintro e w1 ⟨rfl, rfl⟩)
    go_loopw [6] (fun i wr => ∃ j : Nat, j ≤ zs.length ∧ i = .int .i64 j ∧ wr.ownsRow w.heap.size 38 2 (.slice (some ⟨w.heap.size, 0, none⟩) N N) N (flatP ((copyT zs).take j ++ List.replicate (N - j) (0, 0))) ∧ Below w.heap.size w wr) (fun i _ => zs.length - (intOf i).toNat)
    case atStart => exact ⟨0, by omega, rfl, Hrow.out w (Nat.le_refl _), by go_grown⟩
    case round =>
      obtain ⟨j, hj, rfl, hown, hb⟩ := hrel
      have hsz := hb.size
      by_cases hlt : j < zs.length
      · obtain ⟨b, off, rfl, hbl, hc0, hc1⟩ := R.out j hlt
        rw [← kept_cell hb b _ hbl] at hc0 hc1
        go_wp2_with fail
        refine (toPoint_any _ _ _).mono ?_
        rintro e w1 ⟨rfl, hb1⟩
        have hown1 := own_kept hown hb1
        have hlen : (flatP ((copyT zs).take j ++ List.replicate (N - j) (0, 0))).length = N * 2 := hown.1
        obtain ⟨u0, hu0⟩ : ∃ u, w1.cell? ⟨w.heap.size, j * 2, none⟩ = some u := by
          rw [hown1.cellAt _ (by omega)]
          exact ⟨_, List.getElem?_eq_getElem (by omega)⟩
        obtain ⟨u1, hu1⟩ : ∃ u, w1.cell? ⟨w.heap.size, j * 2 + 1, none⟩ = some u := by
          rw [hown1.cellAt _ (by omega)]
          exact ⟨_, List.getElem?_eq_getElem (by omega)⟩
        have hz0 := hown1.frozenAt (j * 2)
        have hz1 := hown1.frozenAt (j * 2 + 1)
        have hs0 := hown1.stored (j * 2) (.int .i64 zs[j].1)
        have hs1 := hs0.1.stored (j * 2 + 1) (.int .i64 zs[j].2)
        rw [flatP_set] at hs1
        have hstep := fill_step (copyT zs) (0, 0) j (by rw [HNN.out]; omega)
        rw [copyT_at zs j hlt, HNN.out] at hstep
        rw [show ((zs[j].1, zs[j].2) : Int × Int) = zs[j] from rfl, hstep] at hs1
        have Hs := Lib.hid hs1.1
        have Hg := Lib.hid (grown_step hs0.2 hs1.2)
        clear hs0 hs1 hstep hown hown1 hlen
        go_wp2
        go_roundw
        case rel => exact ⟨j + 1, by omega, by go_num, Hs.out, grown_below (kept_trans hb hb1) Hg.out (fun g hg => by simp at hg; omega)⟩
        case measure => simp [intOf]; omega
      · have : j = zs.length := by omega
        subst this
        go_wp2_with fail
        go_loopw [7] (fun i wr => ∃ j : Nat, zs.length ≤ j ∧ j ≤ N ∧ i = .int .i64 j ∧ wr.ownsRow w.heap.size 38 2 (.slice (some ⟨w.heap.size, 0, none⟩) N N) N (flatP ((copyT zs).take j ++ List.replicate (N - j) (0, 0))) ∧ Below w.heap.size w wr) (fun i _ => N - (intOf i).toNat)
        case atStart => exact ⟨zs.length, by omega, by omega, rfl, hown, hb⟩
        case round =>
          obtain ⟨j, hj0, hj, rfl, hown, hb⟩ := hrel
          have hsz := hb.size
          by_cases hlt : j < N
          · go_wp2_with fail
            refine (fillPtN_any _).mono ?_
            rintro e w1 ⟨rfl, hb1⟩
            have hown1 := own_kept hown hb1
            have hlen : (flatP ((copyT zs).take j ++ List.replicate (N - j) (0, 0))).length = N * 2 := hown.1
            obtain ⟨u0, hu0⟩ : ∃ u, w1.cell? ⟨w.heap.size, j * 2, none⟩ = some u := by
              rw [hown1.cellAt _ (by omega)]
              exact ⟨_, List.getElem?_eq_getElem (by omega)⟩
            obtain ⟨u1, hu1⟩ : ∃ u, w1.cell? ⟨w.heap.size, j * 2 + 1, none⟩ = some u := by
              rw [hown1.cellAt _ (by omega)]
              exact ⟨_, List.getElem?_eq_getElem (by omega)⟩
            have hz0 := hown1.frozenAt (j * 2)
            have hz1 := hown1.frozenAt (j * 2 + 1)
            have hs0 := hown1.stored (j * 2) (.int .i64 fillP.1)
            have hs1 := hs0.1.stored (j * 2 + 1) (.int .i64 fillP.2)
            rw [flatP_set] at hs1
            have hstep := fill_step (copyT zs) (0, 0) j (by rw [HNN.out]; omega)
            rw [copyT_fill zs j hj0 (by rw [HNN.out]; omega), HNN.out] at hstep
            rw [show ((fillP.1, fillP.2) : Int × Int) = fillP from rfl, hstep] at hs1
            have Hs := Lib.hid hs1.1
            have Hg := Lib.hid (grown_step hs0.2 hs1.2)
            clear hs0 hs1 hstep hown hown1 hlen
            go_wp2
            go_roundw
            case rel => exact ⟨j + 1, by omega, by omega, by go_num, Hs.out, grown_below (kept_trans hb hb1) Hg.out (fun g hg => by simp at hg; omega)⟩
            case measure => simp [intOf]; omega
          · have : j = N := by omega
            subst this
            have Hown := Lib.hid hown; clear hown
            go_wp2
            go_ret
            have hT : (copyT zs).take j ++ List.replicate (j - j) (0, 0) = copyT zs := by rw [List.take_of_length_le (by rw [HNN.out]; exact Nat.le_refl _)]; simp
            refine ⟨_, rfl, ⟨hn, w.heap.size, by rw [HNN.out]; rfl, ?_⟩, hb⟩
            rw [HNN.out, ← hT]
            exact ⟨Hown.out, fun g hg => by simp [Value.ownBlock] at hg; subst hg; exact ⟨Nat.le_refl _, (Hown.out.lt _ rfl).2⟩⟩

theorem toN_false (v : Value) (zs : List (Int × Int)) (w : World) (h : RdP w v zs) (hn : zs.length ≤ 1000000) :
    Calls Try.prog 36 #[v, .bool false] w fun e w' => ∃ v', e = .returned v' ∧ CopyN w' w.heap.size w'.heap.size v' zs ∧ Below w.heap.size w w' := toN_row v zs false w h hn (Or.inl rfl)

theorem intactN_same (v1 v2 : Value) (zs : List (Int × Int)) (lo1 hi1 lo2 hi2 : Nat) (w : World) (h1 : CopyN w lo1 hi1 v1 zs) (h2 : CopyN w lo2 hi2 v2 zs) :
    Calls Try.prog 38 #[v1, v2] w fun e w' => e = .returned (.bool true) ∧ Below w.heap.size w w' := by
  obtain ⟨hn, g1, rfl, r1⟩ := h1
  obtain ⟨_, g2, rfl, r2⟩ := h2
  have q1 : RdP w _ (copyT zs) := RowF_rd r1
  have q2 : RdP w _ (copyT zs) := RowF_rd r2
  clear r1 r2
  have hN := copyT_len zs
  have hr := roomL_le zs.length
  generalize hT : copyT zs = T at *
  clear hT
  have Q1 := Lib.hid q1; clear q1
  have Q2 := Lib.hid q2; clear q2
  generalize hTl : T.length = N at *
  have hN' : (zs.length : Int) + (roomL zs.length : Int) = (N : Int) := by omega
  have hcap : zs.length ≤ N := by omega
  clear hN
  go_enter Try.func38, Try.ntmps38
  go_wp2_with (go_at_call 58; refine (room_any _ (by omega) _).mono ?_; rintro e w1 ⟨rfl, rfl⟩)
  go_region_held3 (fun _ => True) (trivial)
    ((go_at_call 66; refine (eqN_same _ _ T _ (by exact Q1.out) (by exact Q2.out)).mono ?_; rintro e w1 ⟨rfl, hb1⟩; replace hb1 := kept_trans (a := w) (by go_grown) hb1))
  go_wp2
  go_ret
  exact ⟨rfl, by assumption⟩

theorem szN_fit (A : Option Addr) (n c : Nat) (left : Int) (h : (n : Int) ≤ left ∧ left ≤ 1000000) (w : World) :
    Calls Try.prog 34 #[.slice A n c, .int .i64 left] w fun e w' => e = .returned (.int .i64 (left - n)) ∧ w = w' := by
  have := szN_any A n c left (by omega) (by omega) w
  rwa [if_pos h.1] at this

theorem szN_over (A : Option Addr) (n c : Nat) (left : Int) (h : 0 ≤ left ∧ left ≤ 1000000) (hn : n ≤ 9223372036854775807) (hlt : left < n) (w : World) :
    Calls Try.prog 34 #[.slice A n c, .int .i64 left] w fun e w' => e = .returned (.int .i64 (-1)) ∧ w = w' := by
  have := szN_any A n c left h hn w
  rwa [if_neg (by omega)] at this

theorem CopyN_set {w : World} {lo hi b o : Nat} {v u : Value} {zs : List (Int × Int)} (h : CopyN w lo hi v zs) (hb : b < lo) : CopyN (w.setCell ⟨b, o, none⟩ u) lo hi v zs := by
  obtain ⟨hl, g, e, hr⟩ := h
  exact ⟨hl, g, e, RowF_far hr (grown_set _ _ _) (fun g hg => by simp at hg; omega)⟩

theorem CopyN_lo {w : World} {lo lo' hi hi' : Nat} {v : Value} {zs : List (Int × Int)} (h : CopyN w lo hi v zs) (hl : lo' ≤ lo) (hh : hi ≤ hi') : CopyN w lo' hi' v zs := by
  obtain ⟨hn, g, e, hr⟩ := h
  exact ⟨hn, g, e, RowF_lo hr hl hh⟩

theorem toN_bare (v : Value) (zs : List (Int × Int)) (w : World) (h : RdP w v zs) (hn : zs.length ≤ 1000000) :
    Calls Try.prog 36 #[v, .bool true] w fun e w' => ∃ v', e = .returned v' ∧ RowF 38 2 w' w.heap.size w'.heap.size v' zs.length (flatP zs) ∧ Below w.heap.size w w' := by
  by_cases hz : zs = []
  · subst hz
    obtain ⟨A, c, rfl, hl, _⟩ := RdP_slice h
    clear h
    go_enter Try.func36, Try.ntmps36
    go_wp2
    go_ret
    exact ⟨_, rfl, RowF_nil _ _ _ _ _, Below.refl _ _⟩
  · exact (toN_row v zs true w h hn (Or.inr hz)).mono fun e w' ⟨v', he, hc, hb⟩ => ⟨v', he, CopyN_row hc, hb⟩

/-- A zone's fields. -/
structure Zn where
  kd : Int
  st : Int
  ea : Int
  cs : List (Int × Int)

def wfZ (k : Zn) : Prop := (Lit.int .i64 k.kd).wf = true ∧ (Lit.int .i64 k.st).wf = true ∧ (Lit.int .i64 k.ea).wf = true

/-- A zone, cell by cell; c: its corners' slice. -/
def encZ (p : Zn × Value) : List Value := [.int .i64 p.1.kd, .int .i64 p.1.st, .int .i64 p.1.ea, p.2]

set_option maxRecDepth 100000 in
/-- Cells that read as a zone. -/
theorem open_zoneC {H : Type} {enc : TypeId × Value → H} {W : World} {base fuel : Nat} {sp : Nat → Bool} {held : Bool} {cs : List Value} {z : DataW H × List MemPlace}
    (h : DataW.trod enc Try.prog W base sp held fuel 24 cs = some z) : ∃ (k : Zn) (c : Value), cs = encZ (k, c) ∧ RdP W c k.cs ∧ wfZ k := by
  obtain ⟨xs, n, _, _, hl, hlen, hf⟩ := DataW.trod_struct Try.underlying24 h
  have hl4 : cs.length = 4 := hl.trans (by kernel_rfl)
  have h0 : DataW.trod enc Try.prog W base sp held n 2 ((cs.drop 0).take (Try.prog.cellsOf 2)) = xs[0]? := hf 0 _ rfl
  have h1 : DataW.trod enc Try.prog W base sp held n 2 ((cs.drop 1).take (Try.prog.cellsOf 2)) = xs[1]? := hf 1 _ rfl
  have h2 : DataW.trod enc Try.prog W base sp held n 2 ((cs.drop 2).take (Try.prog.cellsOf 2)) = xs[2]? := hf 2 _ rfl
  have h3 : DataW.trod enc Try.prog W base sp held n 22 ((cs.drop 3).take (Try.prog.cellsOf 22)) = xs[3]? := hf 3 _ rfl
  have z2 : Try.prog.cellsOf 2 = 1 := by kernel_rfl
  have z3 : Try.prog.cellsOf 22 = 1 := by kernel_rfl
  match cs, hl4 with
  | [c0, c1, c2, c3], _ =>
    have i0 : xs[0]? = some (xs[0]'(by rw [hlen]; decide)) := List.getElem?_eq_getElem _
    have i1 : xs[1]? = some (xs[1]'(by rw [hlen]; decide)) := List.getElem?_eq_getElem _
    have i2 : xs[2]? = some (xs[2]'(by rw [hlen]; decide)) := List.getElem?_eq_getElem _
    have i3 : xs[3]? = some (xs[3]'(by rw [hlen]; decide)) := List.getElem?_eq_getElem _
    simp only [i0, i1, i2, i3, z2, z3, List.drop_succ_cons, List.drop_zero, List.take_succ_cons, List.take_zero] at h0 h1 h2 h3
    obtain ⟨a, e0, _, w0⟩ := DataW.trod_int Try.underlying2 h0
    obtain ⟨b, e1, _, w1⟩ := DataW.trod_int Try.underlying2 h1
    obtain ⟨d, e2, _, w2⟩ := DataW.trod_int Try.underlying2 h2
    obtain ⟨c, zs, e3, hr⟩ := open_pairsC Try.underlying22 Try.underlying36 Try.underlying2 Try.underlying2 (by kernel_rfl) rfl rfl (by kernel_rfl) (by kernel_rfl) h3
    simp only [List.cons.injEq, and_true] at e0 e1 e2 e3
    subst e0 e1 e2 e3
    exact ⟨⟨a, b, d, zs⟩, _, rfl, hr, w0, w1, w2⟩

set_option maxRecDepth 100000 in
theorem open_zone {H : Type} {enc : TypeId × Value → H} {W : World} {base : Nat} {v : Value} {d : DataW H} {p : List MemPlace}
    (hv : Value.okWide Try.prog W .any base 24 v) (h : DataW.Trod enc Try.prog W 0 (fun _ => true) true 24 v d p) :
    ∃ (k : Zn) (c : Value), v = .agg #[.int .i64 k.kd, .int .i64 k.st, .int .i64 k.ea, c] ∧ RdP W c k.cs ∧ wfZ k := by
  obtain ⟨cs, rfl, hsz⟩ := okWide_struct Try.underlying24 hv
  obtain ⟨fuel, hf⟩ := h
  obtain ⟨k, c, e, hr, wk⟩ := open_zoneC (by simpa [Value.cells] using hf)
  refine ⟨k, c, ?_, hr, wk⟩
  rw [show cs = #[.int .i64 k.kd, .int .i64 k.st, .int .i64 k.ea, c] from Array.toList_inj.1 (by rw [e]; rfl)]

theorem szZ_any (k : Zn) (c : Value) (left : Int) (h : 0 ≤ left ∧ left ≤ 1000000) (w : World) (hr : RdP w c k.cs) :
    Calls Try.prog 11 #[.agg #[.int .i64 k.kd, .int .i64 k.st, .int .i64 k.ea, c], .int .i64 left] w fun e w' => e = .returned (.int .i64 (if (k.cs.length : Int) ≤ left then left - k.cs.length else -1)) ∧ Below w.heap.size w w' := by
  obtain ⟨A, cp, rfl, hl, _⟩ := RdP_slice hr
  clear hr
  obtain ⟨kd, st, ea, zs⟩ := k
  dsimp only at *
  by_cases h1 : (zs.length : Int) ≤ left
  · rw [if_pos h1]
    go_enter Try.func11, Try.ntmps11
    go_wp2_with (go_at_call 34; refine ((szN_fit _ _ _ _ (by omega) _)).mono ?_; rintro e w1 ⟨rfl, rfl⟩)
    go_ret
    exact ⟨rfl, by go_grown⟩
  · rw [if_neg h1]
    go_enter Try.func11, Try.ntmps11
    go_wp2_with (go_at_call 34; refine ((szN_over _ _ _ _ (by omega) (by omega) (by omega) _)).mono ?_; rintro e w1 ⟨rfl, rfl⟩)
    go_ret
    exact ⟨rfl, by go_grown⟩

theorem toZ_false (k : Zn) (c : Value) (w : World) (hr : RdP w c k.cs) (hn : k.cs.length ≤ 1000000) :
    Calls Try.prog 13 #[.agg #[.int .i64 k.kd, .int .i64 k.st, .int .i64 k.ea, c], .bool false] w fun e w' => ∃ c', e = .returned (.agg #[.int .i64 k.kd, .int .i64 k.st, .int .i64 k.ea, c']) ∧ CopyN w' w.heap.size w'.heap.size c' k.cs ∧ Below w.heap.size w w' := by
  obtain ⟨A0, cp0, rfl, _, _⟩ := RdP_slice hr
  have H := Lib.hid hr; clear hr
  obtain ⟨kd, st, ea, zs⟩ := k
  dsimp only at *
  go_enter Try.func13, Try.ntmps13
  go_wp2_with fail
  refine (toN_false _ zs _ (RdP_kept H.out (by go_grown)) hn).mono ?_
  rintro e w2 ⟨c', rfl, hc, hb2⟩
  obtain ⟨A1, cp1, rfl, _, _⟩ := RdP_slice (CopyN_rd hc)
  have HC := Lib.hid hc; clear hc
  refine kept_at hb2 (w.heap.size + 1) (by go_size) fun c2_1 z2_1 s2_1 => ?_
  refine kept_at hb2 (w.heap.size + 2) (by go_size) fun c2_2 z2_2 s2_2 => ?_
  have b2 := kept_trans (a := w) (by go_grown) hb2
  go_wp2
  (try simp only [Exit.inBlock, Exit.then])
  refine bodyPost_ret (v := .agg #[.int .i64 kd, .int .i64 st, .int .i64 ea, .slice A1 zs.length cp1]) ?_ rfl ⟨_, rfl, ?_, ?_⟩
  · rw [results_cell1 rfl]
    go_simp
  · have h := HC.out
    simp only [World.size_setCell, World.size_alloc] at h
    exact CopyN_lo (lo := w.heap.size + 1 + 1 + 1) (hi := w2.heap.size) (CopyN_set (CopyN_set (CopyN_set (CopyN_set (CopyN_set h (by omega)) (by omega)) (by omega)) (by omega)) (by omega)) (by omega) (by simp)
  · go_grown

theorem toZ_true (k : Zn) (c : Value) (w : World) (hr : RdP w c k.cs) (hn : k.cs.length ≤ 1000000) :
    Calls Try.prog 13 #[.agg #[.int .i64 k.kd, .int .i64 k.st, .int .i64 k.ea, c], .bool true] w fun e w' => ∃ c', e = .returned (.agg #[.int .i64 k.kd, .int .i64 k.st, .int .i64 k.ea, c']) ∧ RowF 38 2 w' w.heap.size w'.heap.size c' k.cs.length (flatP k.cs) ∧ Below w.heap.size w w' := by
  obtain ⟨A0, cp0, rfl, _, _⟩ := RdP_slice hr
  have H := Lib.hid hr; clear hr
  obtain ⟨kd, st, ea, zs⟩ := k
  dsimp only at *
  go_enter Try.func13, Try.ntmps13
  go_wp2_with fail
  refine (toN_bare _ zs _ (RdP_kept H.out (by go_grown)) hn).mono ?_
  rintro e w2 ⟨c', rfl, hc, hb2⟩
  obtain ⟨A1, cp1, rfl, _, _⟩ := RdP_slice (RowF_rd hc)
  have HC := Lib.hid hc; clear hc
  refine kept_at hb2 (w.heap.size + 1) (by go_size) fun c2_1 z2_1 s2_1 => ?_
  refine kept_at hb2 (w.heap.size + 2) (by go_size) fun c2_2 z2_2 s2_2 => ?_
  have b2 := kept_trans (a := w) (by go_grown) hb2
  go_wp2
  (try simp only [Exit.inBlock, Exit.then])
  refine bodyPost_ret (v := .agg #[.int .i64 kd, .int .i64 st, .int .i64 ea, .slice A1 zs.length cp1]) ?_ rfl ⟨_, rfl, ?_, ?_⟩
  · rw [results_cell1 rfl]
    go_simp
  · have h := HC.out
    simp only [World.size_setCell, World.size_alloc] at h
    exact RowF_lo (lo := w.heap.size + 1 + 1 + 1) (hi := w2.heap.size) (RowF_set (RowF_set (RowF_set (RowF_set (RowF_set h (by omega)) (by omega)) (by omega)) (by omega)) (by omega)) (by omega) (by simp)
  · go_grown

theorem intactZ_same (k : Zn) (c1 c2 : Value) (lo1 hi1 lo2 hi2 : Nat) (w : World) (h1 : CopyN w lo1 hi1 c1 k.cs) (h2 : CopyN w lo2 hi2 c2 k.cs) :
    Calls Try.prog 15 #[.agg #[.int .i64 k.kd, .int .i64 k.st, .int .i64 k.ea, c1], .agg #[.int .i64 k.kd, .int .i64 k.st, .int .i64 k.ea, c2]] w fun e w' => e = .returned (.bool true) ∧ Below w.heap.size w w' := by
  obtain ⟨A1, cp1, rfl, _, _⟩ := RdP_slice (CopyN_rd h1)
  obtain ⟨A2, cp2, rfl, _, _⟩ := RdP_slice (CopyN_rd h2)
  have H1 := Lib.hid h1; clear h1
  have H2 := Lib.hid h2; clear h2
  obtain ⟨kd, st, ea, zs⟩ := k
  dsimp only at *
  go_enter Try.func15, Try.ntmps15
  go_wp2_with fail
  refine (intactN_same _ _ zs _ _ _ _ _ (CopyN_kept H1.out (by go_grown)) (CopyN_kept H2.out (by go_grown))).mono ?_
  rintro e w2 ⟨rfl, hb2⟩
  have b2 := kept_trans (a := w) (by go_grown) hb2
  go_wp2
  go_ret
  exact ⟨rfl, b2⟩

theorem szZ_fit (k : Zn) (c : Value) (w : World) (hr : RdP w c k.cs) (h : (k.cs.length : Int) ≤ 1000000) :
    Calls Try.prog 11 #[.agg #[.int .i64 k.kd, .int .i64 k.st, .int .i64 k.ea, c], .int .i64 1000000] w fun e w' => e = .returned (.int .i64 (1000000 - k.cs.length)) ∧ Below w.heap.size w w' := by
  have := szZ_any k c 1000000 (by omega) w hr
  rwa [if_pos h] at this

theorem szZ_over (k : Zn) (c : Value) (w : World) (hr : RdP w c k.cs) (h : ¬ (k.cs.length : Int) ≤ 1000000) :
    Calls Try.prog 11 #[.agg #[.int .i64 k.kd, .int .i64 k.st, .int .i64 k.ea, c], .int .i64 1000000] w fun e w' => e = .returned (.int .i64 (-1)) ∧ Below w.heap.size w w' := by
  have := szZ_any k c 1000000 (by omega) w hr
  rwa [if_neg h] at this

theorem ptsEq_step {a b : List (Int × Int)} (hl : a.length = b.length) (h : ∀ i (h1 : i < a.length) (h2 : i < b.length), a[i] = b[i]) : a = b := List.ext_getElem hl (fun i h1 h2 => h i h1 h2)

set_option maxHeartbeats 1000000 in
theorem specPoints_any (v1 v2 : Value) (za zb : List (Int × Int)) (w : World) (h1 : RdP w v1 za) (h2 : RdP w v2 zb) :
    Calls Try.prog 35 #[v1, v2] w fun e w' => e = .returned (.bool (decide (za = zb))) ∧ Below w.heap.size w w' := by
  obtain ⟨A1, cp1, rfl, hl1, r1⟩ := RdP_slice h1
  obtain ⟨A2, cp2, rfl, hl2, r2⟩ := RdP_slice h2
  clear h1 h2
  by_cases hlen : za.length = zb.length
  · have R1 := Lib.hid r1; clear r1
    have R2 := Lib.hid r2; clear r2
    have hbad : ∀ i (h1 : i < za.length) (h2 : i < zb.length), za[i] ≠ zb[i] → decide (za = zb) = false := by
      intro i h1 h2 hno
      simp only [decide_eq_false_iff_not]
      intro he
      subst he
      exact hno rfl
    have hend : (∀ i (h1 : i < za.length) (h2 : i < zb.length), i < za.length → za[i] = zb[i]) → decide (za = zb) = true := by
      intro h
      simp only [decide_eq_true_eq]
      exact ptsEq_step hlen (fun i h1 h2 => h i h1 h2 h1)
    have HBAD := Lib.hid hbad; clear hbad
    have HEND := Lib.hid hend; clear hend
    generalize decide (za = zb) = G at *
    have hlI : (za.length : Int) = (zb.length : Int) := by omega
    have HLEN := Lib.hid hlen
    rw [← hlen]
    clear hlen hlI
    go_enter Try.func35, Try.ntmps35
    go_wp2_with fail
    go_loopw [5] (fun i wr => ∃ k : Nat, k ≤ za.length ∧ i = .int .i64 (k : Int) ∧ (∀ i (h1 : i < za.length) (h2 : i < zb.length), i < k → za[i] = zb[i]) ∧ Below w.heap.size w wr) (fun i _ => za.length - (intOf i).toNat)
    case atStart => exact ⟨0, by omega, rfl, fun i _ _ h => by omega, Below.refl _ _⟩
    case round =>
      obtain ⟨k, hk, rfl, hall, hb⟩ := hrel
      by_cases hlt : k < za.length
      · have hlt2 : k < zb.length := by have := HLEN.out; omega
        obtain ⟨b, off, rfl, hbl, c0, c1⟩ := R1.out k hlt
        obtain ⟨b2, off2, rfl, hbl2, d0, d1⟩ := R2.out k hlt2
        rw [← kept_cell hb b _ hbl] at c0 c1
        rw [← kept_cell hb b2 _ hbl2] at d0 d1
        have hbd := HBAD.out k hlt hlt2
        have hnx : za[k] = zb[k] → ∀ i (h1 : i < za.length) (h2 : i < zb.length), i < k + 1 → za[i] = zb[i] := fun he i h1 h2 hik => by
          rcases Nat.lt_or_ge i k with h3 | h3
          · exact hall i h1 h2 h3
          · obtain rfl : i = k := by omega
            exact he
        have HNX := Lib.hid hnx; clear hnx
        have HALL := Lib.hid hall; clear hall
        have hpe : za[k] = zb[k] ↔ za[k].1 = zb[k].1 ∧ za[k].2 = zb[k].2 := Prod.ext_iff
        have HPE := Lib.hid hpe; clear hpe
        have HBD := Lib.hid hbd; clear hbd
        by_cases e1 : za[k].1 = zb[k].1
        · by_cases e2 : za[k].2 = zb[k].2
          · have HN2 := Lib.hid (HNX.out (HPE.out.2 ⟨e1, e2⟩))
            rw [← e1] at d0
            rw [← e2] at d1
            clear e1 e2 HNX HPE HBD
            generalize za[k].1 = x at *
            generalize za[k].2 = y at *
            go_wp2_with fail
            go_quiet (fail)
            go_wp2
            go_roundw
            case rel => exact ⟨k + 1, by omega, by go_num, HN2.out, kept_drewN hb _⟩
            case measure => simp [intOf]; omega
          · have hG := HBD.out (fun he => e2 (HPE.out.1 he).2)
            have q2 : (za[k].2 == zb[k].2) = false := by rw [beq_eq_false_iff_ne]; exact e2
            rw [← e1] at d0
            clear e1 e2 HNX HPE HBD
            generalize za[k].1 = x at *
            generalize za[k].2 = y at *
            generalize zb[k].2 = y2 at *
            go_wp2_with fail
            go_quiet (fail)
            go_wp2
            go_ret
            exact ⟨by rw [hG]; rfl, kept_drewN hb _⟩
        · have hG := HBD.out (fun he => e1 (HPE.out.1 he).1)
          have q1 : (za[k].1 == zb[k].1) = false := by rw [beq_eq_false_iff_ne]; exact e1
          clear e1 HNX HPE HBD
          generalize za[k].1 = x at *
          generalize za[k].2 = y at *
          generalize zb[k].1 = x2 at *
          generalize zb[k].2 = y2 at *
          go_wp2_with fail
          go_quiet (fail)
          go_wp2
          go_ret
          exact ⟨by rw [hG]; rfl, kept_drewN hb _⟩
      · have : k = za.length := by omega
        subst this
        have hE := HEND.out hall
        clear hall
        go_wp2
        go_ret
        exact ⟨by rw [hE]; rfl, hb⟩
  · have hG : decide (za = zb) = false := by
      simp only [decide_eq_false_iff_not]
      intro he
      exact hlen (by rw [he])
    rw [hG]
    clear hG r1 r2
    have hne : ((za.length : Int) == (zb.length : Int)) = false := by rw [beq_eq_false_iff_ne]; omega
    go_enter Try.func35, Try.ntmps35
    go_wp2
    go_ret
    exact ⟨rfl, Below.refl _ _⟩

set_option maxHeartbeats 1000000 in
theorem equalPoints_any (v1 v2 : Value) (za zb : List (Int × Int)) (w : World) (h1 : RdP w v1 za) (h2 : RdP w v2 zb) :
    Calls Try.prog 37 #[v1, v2] w fun e w' => e = .returned (.bool (decide (za = zb))) ∧ Below w.heap.size w w' := by
  obtain ⟨A1, cp1, rfl, hl1, r1⟩ := RdP_slice h1
  obtain ⟨A2, cp2, rfl, hl2, r2⟩ := RdP_slice h2
  clear h1 h2
  by_cases hlen : za.length = zb.length
  · have R1 := Lib.hid r1; clear r1
    have R2 := Lib.hid r2; clear r2
    have hbad : ∀ i (h1 : i < za.length) (h2 : i < zb.length), za[i] ≠ zb[i] → decide (za = zb) = false := by
      intro i h1 h2 hno
      simp only [decide_eq_false_iff_not]
      intro he
      subst he
      exact hno rfl
    have hend : (∀ i (h1 : i < za.length) (h2 : i < zb.length), i < za.length → za[i] = zb[i]) → decide (za = zb) = true := by
      intro h
      simp only [decide_eq_true_eq]
      exact ptsEq_step hlen (fun i h1 h2 => h i h1 h2 h1)
    have HBAD := Lib.hid hbad; clear hbad
    have HEND := Lib.hid hend; clear hend
    generalize decide (za = zb) = G at *
    have hlI : (za.length : Int) = (zb.length : Int) := by omega
    have HLEN := Lib.hid hlen
    rw [← hlen]
    clear hlen hlI
    go_enter Try.func37, Try.ntmps37
    go_wp2_with fail
    go_loopw [13] (fun i wr => ∃ k : Nat, k ≤ za.length ∧ i = .int .i64 (k : Int) ∧ (∀ i (h1 : i < za.length) (h2 : i < zb.length), i < k → za[i] = zb[i]) ∧ Below w.heap.size w wr) (fun i _ => za.length - (intOf i).toNat)
    case atStart => exact ⟨0, by omega, rfl, fun i _ _ h => by omega, Below.refl _ _⟩
    case round =>
      obtain ⟨k, hk, rfl, hall, hb⟩ := hrel
      by_cases hlt : k < za.length
      · have hlt2 : k < zb.length := by have := HLEN.out; omega
        obtain ⟨b, off, rfl, hbl, c0, c1⟩ := R1.out k hlt
        obtain ⟨b2, off2, rfl, hbl2, d0, d1⟩ := R2.out k hlt2
        rw [← kept_cell hb b _ hbl] at c0 c1
        rw [← kept_cell hb b2 _ hbl2] at d0 d1
        have hbd := HBAD.out k hlt hlt2
        have hnx : za[k] = zb[k] → ∀ i (h1 : i < za.length) (h2 : i < zb.length), i < k + 1 → za[i] = zb[i] := fun he i h1 h2 hik => by
          rcases Nat.lt_or_ge i k with h3 | h3
          · exact hall i h1 h2 h3
          · obtain rfl : i = k := by omega
            exact he
        have HNX := Lib.hid hnx; clear hnx
        have HALL := Lib.hid hall; clear hall
        have hpe : za[k] = zb[k] ↔ za[k].1 = zb[k].1 ∧ za[k].2 = zb[k].2 := Prod.ext_iff
        have HPE := Lib.hid hpe; clear hpe
        have HBD := Lib.hid hbd; clear hbd
        by_cases e1 : za[k].1 = zb[k].1
        · by_cases e2 : za[k].2 = zb[k].2
          · have HN2 := Lib.hid (HNX.out (HPE.out.2 ⟨e1, e2⟩))
            rw [← e1] at d0
            rw [← e2] at d1
            clear e1 e2 HNX HPE HBD
            generalize za[k].1 = x at *
            generalize za[k].2 = y at *
            go_wp2_with fail
            go_quiet (fail)
            go_wp2
            go_roundw
            case rel => exact ⟨k + 1, by omega, by go_num, HN2.out, kept_drewN hb _⟩
            case measure => simp [intOf]; omega
          · have hG := HBD.out (fun he => e2 (HPE.out.1 he).2)
            have q2 : (za[k].2 == zb[k].2) = false := by rw [beq_eq_false_iff_ne]; exact e2
            rw [← e1] at d0
            clear e1 e2 HNX HPE HBD
            generalize za[k].1 = x at *
            generalize za[k].2 = y at *
            generalize zb[k].2 = y2 at *
            go_wp2_with fail
            go_quiet (fail)
            go_wp2
            go_ret
            exact ⟨by rw [hG]; rfl, kept_drewN hb _⟩
        · have hG := HBD.out (fun he => e1 (HPE.out.1 he).1)
          have q1 : (za[k].1 == zb[k].1) = false := by rw [beq_eq_false_iff_ne]; exact e1
          clear e1 HNX HPE HBD
          generalize za[k].1 = x at *
          generalize za[k].2 = y at *
          generalize zb[k].1 = x2 at *
          generalize zb[k].2 = y2 at *
          go_wp2_with fail
          go_quiet (fail)
          go_wp2
          go_ret
          exact ⟨by rw [hG]; rfl, kept_drewN hb _⟩
      · have : k = za.length := by omega
        subst this
        have hE := HEND.out hall
        clear hall
        go_wp2
        go_ret
        exact ⟨by rw [hE]; rfl, hb⟩
  · have hG : decide (za = zb) = false := by
      simp only [decide_eq_false_iff_not]
      intro he
      exact hlen (by rw [he])
    rw [hG]
    clear hG r1 r2
    have hne : ((za.length : Int) == (zb.length : Int)) = false := by rw [beq_eq_false_iff_ne]; omega
    go_enter Try.func37, Try.ntmps37
    go_wp2
    go_ret
    exact ⟨rfl, Below.refl _ _⟩

def sameZ (k l : Zn) : Bool := k.kd == l.kd && (k.st == l.st && (k.ea == l.ea && decide (k.cs = l.cs)))

theorem specSZ_any (k l : Zn) (c d : Value) (w : World) (hr : RdP w c k.cs) (hs : RdP w d l.cs) :
    Calls Try.prog 12 #[.agg #[.int .i64 k.kd, .int .i64 k.st, .int .i64 k.ea, c], .agg #[.int .i64 l.kd, .int .i64 l.st, .int .i64 l.ea, d]] w fun e w' => e = .returned (.bool (sameZ k l)) ∧ Below w.heap.size w w' := by
  obtain ⟨A, cp, rfl, _, _⟩ := RdP_slice hr
  obtain ⟨B, cq, rfl, _, _⟩ := RdP_slice hs
  have H1 := Lib.hid hr; clear hr
  have H2 := Lib.hid hs; clear hs
  have HP := Lib.hid (fun u (q1 : RdP u (.slice A k.cs.length cp) k.cs) (q2 : RdP u (.slice B l.cs.length cq) l.cs) => specPoints_any _ _ k.cs l.cs u q1 q2)
  unfold sameZ
  generalize decide (k.cs = l.cs) = D at *
  obtain ⟨kd, st, ea, zs⟩ := k
  obtain ⟨kd2, st2, ea2, zs2⟩ := l
  dsimp only at *
  by_cases e1 : kd = kd2
  · subst e1
    by_cases e2 : st = st2
    · subst e2
      by_cases e3 : ea = ea2
      · subst e3
        go_enter Try.func12, Try.ntmps12
        go_wp2_with fail
        refine (HP.out _ (RdP_kept H1.out (by go_grown)) (RdP_kept H2.out (by go_grown))).mono ?_
        rintro e w1 ⟨rfl, hb1⟩
        have b1 := kept_trans (a := w) (by go_grown) hb1
        go_wp2
        go_ret
        exact ⟨by simp, b1⟩
      · have q3 : (ea == ea2) = false := by rw [beq_eq_false_iff_ne]; exact e3
        go_enter Try.func12, Try.ntmps12
        go_wp2
        go_ret
        exact ⟨by simp [e3], by go_grown⟩
    · have q2 : (st == st2) = false := by rw [beq_eq_false_iff_ne]; exact e2
      go_enter Try.func12, Try.ntmps12
      go_wp2
      go_ret
      exact ⟨by simp [e2], by go_grown⟩
  · have q1 : (kd == kd2) = false := by rw [beq_eq_false_iff_ne]; exact e1
    go_enter Try.func12, Try.ntmps12
    go_wp2
    go_ret
    exact ⟨by simp [e1], by go_grown⟩

theorem implSZ_any (k l : Zn) (c d : Value) (w : World) (hr : RdP w c k.cs) (hs : RdP w d l.cs) :
    Calls Try.prog 14 #[.agg #[.int .i64 k.kd, .int .i64 k.st, .int .i64 k.ea, c], .agg #[.int .i64 l.kd, .int .i64 l.st, .int .i64 l.ea, d]] w fun e w' => e = .returned (.bool (sameZ k l)) ∧ Below w.heap.size w w' := by
  obtain ⟨A, cp, rfl, _, _⟩ := RdP_slice hr
  obtain ⟨B, cq, rfl, _, _⟩ := RdP_slice hs
  have H1 := Lib.hid hr; clear hr
  have H2 := Lib.hid hs; clear hs
  have HP := Lib.hid (fun u (q1 : RdP u (.slice A k.cs.length cp) k.cs) (q2 : RdP u (.slice B l.cs.length cq) l.cs) => equalPoints_any _ _ k.cs l.cs u q1 q2)
  unfold sameZ
  generalize decide (k.cs = l.cs) = D at *
  obtain ⟨kd, st, ea, zs⟩ := k
  obtain ⟨kd2, st2, ea2, zs2⟩ := l
  dsimp only at *
  by_cases e1 : kd = kd2
  · subst e1
    by_cases e2 : st = st2
    · subst e2
      by_cases e3 : ea = ea2
      · subst e3
        go_enter Try.func14, Try.ntmps14
        go_wp2_with fail
        refine (HP.out _ (RdP_kept H1.out (by go_grown)) (RdP_kept H2.out (by go_grown))).mono ?_
        rintro e w1 ⟨rfl, hb1⟩
        have b1 := kept_trans (a := w) (by go_grown) hb1
        go_wp2
        go_ret
        exact ⟨by simp, b1⟩
      · have q3 : (ea == ea2) = false := by rw [beq_eq_false_iff_ne]; exact e3
        go_enter Try.func14, Try.ntmps14
        go_wp2
        go_ret
        exact ⟨by simp [e3], by go_grown⟩
    · have q2 : (st == st2) = false := by rw [beq_eq_false_iff_ne]; exact e2
      go_enter Try.func14, Try.ntmps14
      go_wp2
      go_ret
      exact ⟨by simp [e2], by go_grown⟩
  · have q1 : (kd == kd2) = false := by rw [beq_eq_false_iff_ne]; exact e1
    go_enter Try.func14, Try.ntmps14
    go_wp2
    go_ret
    exact ⟨by simp [e1], by go_grown⟩

set_option maxRecDepth 100000 in
set_option maxHeartbeats 4000000 in
theorem walk_FnExactSameZone (w : World) (k : Zn) (c : Value) (hr : RdP w c k.cs) (hk : wfZ k) (l : Zn) (d : Value) (hs : RdP w d l.cs) (hl : wfZ l) :
    Calls Try.prog 3 #[.agg #[.int .i64 k.kd, .int .i64 k.st, .int .i64 k.ea, c], .agg #[.int .i64 l.kd, .int .i64 l.st, .int .i64 l.ea, d]] w fun e w' => e = .returned (.bool true) ∧ Below w.heap.size w w' := by
  obtain ⟨A, cp, rfl, _, _⟩ := RdP_slice hr
  obtain ⟨B, cq, rfl, hl2, _⟩ := RdP_slice hs
  have H1 := Lib.hid hr; clear hr hk
  have H2 := Lib.hid hs; clear hs hl
  by_cases hf1 : (k.cs.length : Int) ≤ 1000000
  case neg =>
    have HZ := Lib.hid (fun u q => szZ_over k (.slice A k.cs.length cp) u q hf1)
    obtain ⟨kd, st, ea, zs⟩ := k
    obtain ⟨kd2, st2, ea2, zs2⟩ := l
    dsimp only at *
    go_enter Try.func3, Try.ntmps3
    go_wp2_with fail
    refine (HZ.out _ (RdP_kept H1.out (by go_grown))).mono ?_
    rintro e w1 ⟨rfl, b1⟩
    replace b1 := kept_trans (a := w) (by go_grown) b1
    have l1 := kept_cell b1
    have zz1 := b1.size
    go_wp2
    go_ret
    exact ⟨rfl, b1⟩
  have HZ1 := Lib.hid (fun u q => szZ_fit k (.slice A k.cs.length cp) u q hf1)
  have hZ2 := fun u q => szZ_any l (.slice B l.cs.length cq) (1000000 - k.cs.length) (by omega) u q
  have hle1 : (0 : Int) ≤ 1000000 - k.cs.length := by omega
  by_cases hf2 : (l.cs.length : Int) ≤ 1000000 - k.cs.length
  case neg =>
    simp only [if_neg hf2] at hZ2
    have HZ2 := Lib.hid hZ2; clear hZ2
    obtain ⟨kd, st, ea, zs⟩ := k
    obtain ⟨kd2, st2, ea2, zs2⟩ := l
    dsimp only at *
    go_enter Try.func3, Try.ntmps3
    go_wp2_with fail
    refine (HZ1.out _ (RdP_kept H1.out (by go_grown))).mono ?_
    rintro e w1 ⟨rfl, b1⟩
    refine kept_at b1 (w.heap.size) (by go_size) fun c1_0 z1_0 s1_0 => ?_
    refine kept_at b1 (w.heap.size + 1) (by go_size) fun c1_1 z1_1 s1_1 => ?_
    replace b1 := kept_trans (a := w) (by go_grown) b1
    have l1 := kept_cell b1
    have zz1 := b1.size
    go_wp2_with fail
    refine (HZ2.out _ (RdP_kept H2.out b1)).mono ?_
    rintro e w2 ⟨rfl, hb2⟩
    go_wp2
    go_ret
    exact ⟨rfl, kept_trans b1 hb2⟩
  simp only [if_pos hf2] at hZ2
  have HZ2 := Lib.hid hZ2; clear hZ2
  have hle2 : (0 : Int) ≤ 1000000 - k.cs.length - l.cs.length := by omega
  have HF1 := Lib.hid (fun u (q : RdP u (.slice A k.cs.length cp) k.cs) => toZ_false k _ u q (by omega))
  have HT1 := Lib.hid (fun u (q : RdP u (.slice A k.cs.length cp) k.cs) => (toZ_true k _ u q (by omega)).mono fun e w' ⟨c', he, hr, hb⟩ => (⟨c', he, RowF_rd hr, hb⟩ : ∃ c' : Value, e = Ending.returned (.agg #[.int .i64 k.kd, .int .i64 k.st, .int .i64 k.ea, c']) ∧ RdP w' c' k.cs ∧ Below u.heap.size u w'))
  have HF2 := Lib.hid (fun u (q : RdP u (.slice B l.cs.length cq) l.cs) => toZ_false l _ u q (by omega))
  have HT2 := Lib.hid (fun u (q : RdP u (.slice B l.cs.length cq) l.cs) => (toZ_true l _ u q (by omega)).mono fun e w' ⟨c', he, hr, hb⟩ => (⟨c', he, RowF_rd hr, hb⟩ : ∃ c' : Value, e = Ending.returned (.agg #[.int .i64 l.kd, .int .i64 l.st, .int .i64 l.ea, c']) ∧ RdP w' c' l.cs ∧ Below u.heap.size u w'))
  have HS := Lib.hid (fun c d u (q1 : RdP u c k.cs) (q2 : RdP u d l.cs) => specSZ_any k l c d u q1 q2)
  have HV := Lib.hid (fun c d u (q1 : RdP u c k.cs) (q2 : RdP u d l.cs) => implSZ_any k l c d u q1 q2)
  have HX1 := Lib.hid (fun c1 c2 lo1 hi1 lo2 hi2 u h1 h2 => intactZ_same k c1 c2 lo1 hi1 lo2 hi2 u h1 h2)
  have HX2 := Lib.hid (fun c1 c2 lo1 hi1 lo2 hi2 u h1 h2 => intactZ_same l c1 c2 lo1 hi1 lo2 hi2 u h1 h2)
  generalize sameZ k l = R at *
  obtain ⟨kd, st, ea, zs⟩ := k
  obtain ⟨kd2, st2, ea2, zs2⟩ := l
  dsimp only at *
  go_enter Try.func3, Try.ntmps3
  go_wp2_with fail
  refine (HZ1.out _ (RdP_kept H1.out (by go_grown))).mono ?_
  rintro e w1 ⟨rfl, b1⟩
  refine kept_at b1 (w.heap.size) (by go_size) fun c1_0 z1_0 s1_0 => ?_
  refine kept_at b1 (w.heap.size + 1) (by go_size) fun c1_1 z1_1 s1_1 => ?_
  replace b1 := kept_trans (a := w) (by go_grown) b1
  have l1 := kept_cell b1
  have zz1 := b1.size
  go_wp2_with fail
  refine (HZ2.out _ (RdP_kept H2.out b1)).mono ?_
  rintro e w2 ⟨rfl, hb2⟩
  refine kept_at hb2 w.heap.size (by go_size) fun c2_0 z2_0 s2_0 => ?_
  refine kept_at hb2 (w.heap.size + 1) (by go_size) fun c2_1 z2_1 s2_1 => ?_
  have b2 := kept_trans b1 hb2
  go_wp2_with fail
  go_cut [6] (fun s w' => s = .bool R ∧ Below w2.heap.size w2 w')
  case first =>
    go_region_with (first
      | (go_at_call 12; refine (HS.out _ _ _ hca hcb).mono ?_; rintro e wd ⟨rfl, hbd⟩; have kd_ := kept_trans (a := w2) (by go_grown) hbd)
      | (go_at_call 13; with_reducible (show Calls _ _ #[.agg #[.int .i64 kd, .int .i64 st, .int .i64 ea, .slice A zs.length cp], _] _ _); refine (HF1.out _ (RdP_kept H1.out (by go_grown))).mono ?_; rintro e wa ⟨ca, rfl, hca, hba⟩; obtain ⟨Aa, cpa, rfl, _, _⟩ := RdP_slice (CopyN_rd hca); replace hca := CopyN_rd hca; refine kept_at hba (w.heap.size) (by go_size) fun cb3a_0 zb3a_0 sb3a_0 => ?_; refine kept_at hba (w.heap.size + 1) (by go_size) fun cb3a_1 zb3a_1 sb3a_1 => ?_; have ka := kept_trans (a := w2) (by go_grown) hba; have ja := kept_trans b2 ka; (try replace hcb := RdP_kept hcb (kept_trans (a := wb) (by go_grown) hba)))
      | (go_at_call 13; with_reducible (show Calls _ _ #[.agg #[.int .i64 kd2, .int .i64 st2, .int .i64 ea2, .slice B zs2.length cq], _] _ _); refine (HF2.out _ (RdP_kept H2.out (by go_grown))).mono ?_; rintro e wb ⟨cb, rfl, hcb, hbb⟩; obtain ⟨Ab, cpb, rfl, _, _⟩ := RdP_slice (CopyN_rd hcb); replace hcb := CopyN_rd hcb; refine kept_at hbb (w.heap.size) (by go_size) fun cb3b_0 zb3b_0 sb3b_0 => ?_; refine kept_at hbb (w.heap.size + 1) (by go_size) fun cb3b_1 zb3b_1 sb3b_1 => ?_; have kb := kept_trans (a := w2) (by go_grown) hbb; have jb := kept_trans b2 kb; (try replace hca := RdP_kept hca (kept_trans (a := wa) (by go_grown) hbb))))
    all_goals
      go_wp2_with fail
      go_meet
      case rel => exact ⟨rfl, kd_⟩
  case rest =>
  obtain ⟨rfl, hb3⟩ := hcut
  refine kept_at hb3 w.heap.size (by go_size) fun c3_0 z3_0 s3_0 => ?_
  refine kept_at hb3 (w.heap.size + 1) (by go_size) fun c3_1 z3_1 s3_1 => ?_
  have b3 := kept_trans b2 hb3
  go_wp2_with fail
  refine (HF1.out _ (RdP_kept H1.out b3)).mono ?_
  rintro e w4 ⟨c4, rfl, hc4, hb4⟩
  obtain ⟨A4, cp4, rfl, _, _⟩ := RdP_slice (CopyN_rd hc4)
  refine kept_at hb4 w.heap.size (by go_size) fun c4_0 z4_0 s4_0 => ?_
  refine kept_at hb4 (w.heap.size + 1) (by go_size) fun c4_1 z4_1 s4_1 => ?_
  have b4 := kept_trans b3 hb4
  have HC4 := Lib.hid hc4; clear hc4
  go_wp2_with fail
  refine (HF2.out _ (RdP_kept H2.out (by go_grown))).mono ?_
  rintro e w5 ⟨c5, rfl, hc5, hb5⟩
  obtain ⟨A5, cp5, rfl, _, _⟩ := RdP_slice (CopyN_rd hc5)
  refine kept_at hb5 w.heap.size (by go_size) fun c5_0 z5_0 s5_0 => ?_
  refine kept_at hb5 (w.heap.size + 1) (by go_size) fun c5_1 z5_1 s5_1 => ?_
  refine kept_at hb5 w4.heap.size (by go_size) fun c5_2 z5_2 s5_2 => ?_
  have k5 := kept_trans (a := w4) (by go_grown) hb5
  have b5 := kept_trans b4 k5
  replace HC4 := Lib.hid (CopyN_kept HC4.out k5)
  have HC5 := Lib.hid hc5; clear hc5
  go_wp2_with fail
  refine (HV.out _ _ _ (RdP_kept (CopyN_rd HC4.out) (by go_grown)) (RdP_kept (CopyN_rd HC5.out) (by go_grown))).mono ?_
  rintro e w6 ⟨rfl, hb6⟩
  refine kept_at hb6 w.heap.size (by go_size) fun c6_0 z6_0 s6_0 => ?_
  refine kept_at hb6 (w.heap.size + 1) (by go_size) fun c6_1 z6_1 s6_1 => ?_
  refine kept_at hb6 w4.heap.size (by go_size) fun c6_2 z6_2 s6_2 => ?_
  refine kept_at hb6 w5.heap.size (by go_size) fun c6_3 z6_3 s6_3 => ?_
  have k6 := kept_trans (a := w5) (by go_grown) hb6
  have b6 := kept_trans b5 k6
  replace HC4 := Lib.hid (CopyN_kept HC4.out k6)
  replace HC5 := Lib.hid (CopyN_kept HC5.out k6)
  go_wp2_with fail
  go_cut [40] (fun s w' => s = .bool false ∧ Below w6.heap.size w6 w')
  case first =>
    go_region_with (first
      | (go_at_call 13; refine (HF1.out _ (RdP_kept H1.out (by go_grown))).mono ?_; rintro e wa ⟨ca, rfl, hca, hba⟩; refine kept_at hba (w4.heap.size) (by go_size) fun cb7i_0 zb7i_0 sb7i_0 => ?_; have ka := kept_trans (a := w6) (by go_grown) hba)
      | (go_at_call 15; refine (HX1.out _ _ _ _ _ _ _ (CopyN_kept HC4.out ka) hca).mono ?_; rintro e wb ⟨rfl, hbb⟩; have kb := kept_trans (a := w6) ka hbb))
    all_goals
      go_wp2_with fail
      go_meet
      case rel => exact ⟨rfl, kb⟩
  case rest =>
  obtain ⟨rfl, hb7⟩ := hcut
  refine kept_at hb7 w.heap.size (by go_size) fun c7_0 z7_0 s7_0 => ?_
  refine kept_at hb7 (w.heap.size + 1) (by go_size) fun c7_1 z7_1 s7_1 => ?_
  refine kept_at hb7 w5.heap.size (by go_size) fun c7_3 z7_3 s7_3 => ?_
  have b7 := kept_trans b6 hb7
  replace HC5 := Lib.hid (CopyN_kept HC5.out hb7)
  go_wp2_with fail
  go_cut [45] (fun s w' => s = .bool false ∧ Below wc.heap.size wc w')
  case first =>
    go_region_with (first
      | (go_at_call 13; refine (HF2.out _ (RdP_kept H2.out (by go_grown))).mono ?_; rintro e wa ⟨ca, rfl, hca, hba⟩; refine kept_at hba (w5.heap.size) (by go_size) fun cb8i_0 zb8i_0 sb8i_0 => ?_; have ka := kept_trans (a := wc) (by go_grown) hba)
      | (go_at_call 15; refine (HX2.out _ _ _ _ _ _ _ (CopyN_kept HC5.out ka) hca).mono ?_; rintro e wb ⟨rfl, hbb⟩; have kb := kept_trans (a := wc) ka hbb))
    all_goals
      go_wp2_with fail
      go_meet
      case rel => exact ⟨rfl, kb⟩
  case rest =>
  obtain ⟨rfl, hb8⟩ := hcut
  refine kept_at hb8 w.heap.size (by go_size) fun c8_0 z8_0 s8_0 => ?_
  refine kept_at hb8 (w.heap.size + 1) (by go_size) fun c8_1 z8_1 s8_1 => ?_
  have b8 := kept_trans b7 hb8
  clear HC4 HC5
  go_wp2_with fail
  go_region_with (first
    | (go_at_call 14; refine (HV.out _ _ _ hca hcb).mono ?_; rintro e wd ⟨rfl, hbd⟩; have kd_ := kept_trans (a := wc) (by go_grown) hbd)
    | (go_at_call 13; with_reducible (show Calls _ _ #[.agg #[.int .i64 kd, .int .i64 st, .int .i64 ea, .slice A zs.length cp], _] _ _); refine (HT1.out _ (RdP_kept H1.out (by go_grown))).mono ?_; rintro e wa ⟨ca, rfl, hca, hba⟩; obtain ⟨Aa, cpa, rfl, _, _⟩ := RdP_slice hca; refine kept_at hba (w.heap.size) (by go_size) fun cb9a_0 zb9a_0 sb9a_0 => ?_; refine kept_at hba (w.heap.size + 1) (by go_size) fun cb9a_1 zb9a_1 sb9a_1 => ?_; have ka := kept_trans (a := wc) (by go_grown) hba; have ja := kept_trans b8 ka; (try replace hcb := RdP_kept hcb (kept_trans (a := wb) (by go_grown) hba)))
    | (go_at_call 13; with_reducible (show Calls _ _ #[.agg #[.int .i64 kd2, .int .i64 st2, .int .i64 ea2, .slice B zs2.length cq], _] _ _); refine (HT2.out _ (RdP_kept H2.out (by go_grown))).mono ?_; rintro e wb ⟨cb, rfl, hcb, hbb⟩; obtain ⟨Ab, cpb, rfl, _, _⟩ := RdP_slice hcb; refine kept_at hbb (w.heap.size) (by go_size) fun cb9b_0 zb9b_0 sb9b_0 => ?_; refine kept_at hbb (w.heap.size + 1) (by go_size) fun cb9b_1 zb9b_1 sb9b_1 => ?_; have kb := kept_trans (a := wc) (by go_grown) hbb; have jb := kept_trans b8 kb; (try replace hca := RdP_kept hca (kept_trans (a := wa) (by go_grown) hbb))))
  all_goals
    go_wp2
    go_ret
    exact ⟨rfl, kept_trans b8 kd_⟩

end Go.Proofs.Ytonhndiflhbkiab
namespace Go.Proofs.Ytonhndiflhbkiab.fnExactSameZone
open Go.ChangeShapes Go.WideShapes Go.ChangeAt Go.RowKit
set_option linter.unusedVariables false
set_option linter.unusedSimpArgs false
open Go.Joins Go.ChangeMaps
set_option maxRecDepth 100000 in
theorem lifted (os : Os) (started : os.Started) (H : Type) (enc : TypeId × Value → H) :
    ReturnsInHanded {} Try.checked os 3 .any (Rows.fnExactSameZoneSpec.pre6 enc Try.prog Try.f3 Rows.fnExactSameZoneRow.domain false) (Rows.fnExactSameZoneSpec.post enc Try.prog Try.f3 false true false false) := by
  refine returnsInHanded_of_change (C := Try.checked) (show ownKnob Try.prog.godebug = none by kernel_rfl) started (by kernel_rfl) Try.func3
    (ChangeSpec.witness6 (enc := enc) (C := Try.checked) false ⟨#[], #[.agg #[.int .i64 0, .int .i64 0, .int .i64 0, .slice none 0 0], .agg #[.int .i64 0, .int .i64 0, .int .i64 0, .slice none 0 0]], []⟩ 8 (by kernel_rfl) (by kernel_rfl) (by kernel_rfl) (by kernel_rfl)) ?_
  intro W base args ds gs before hval0 hW hcnd _
  have hval : ∀ (j : Nat) t v, Try.f3.params[j]? = some t → args[j]? = some v → Value.okWide Try.prog W .any base t v := hval0
  have hW' := hW
  obtain ⟨p, q, hA0, hV, rfl, hfz, hnd⟩ := hW
  have hA : DataW.TrodAll enc Try.prog W 0 (fun _ => true) true Try.f3.params.toList args.toList ds p := hA0
  rw [Try.params3] at hA hval
  obtain ⟨v0, vs0, d0, ds0, p0, q0, hargs, rfl, rfl, h0, r0⟩ := trodAll_cons hA
  obtain ⟨v1, vs1, d1, ds1, p1, q1, rfl, rfl, rfl, h1, r1⟩ := trodAll_cons r0
  obtain ⟨rfl, rfl, rfl⟩ := trodAll_nil r1
  obtain rfl : args = #[v0, v1] := by cases args; simp_all
  obtain ⟨rfl, rfl⟩ := trodVars_none hV
  obtain ⟨k0, k0_c, rfl, hr0, wf0⟩ := open_zone (hval 0 24 v0 rfl rfl) h0
  obtain ⟨k1, k1_c, rfl, hr1, wf1⟩ := open_zone (hval 1 24 v1 rfl rfl) h1
  clear hA0 hval0
  refine (walk_FnExactSameZone (w := W) k0 k0_c hr0 wf0 k1 k1_c hr1 wf1).mono fun e W' ⟨he, hb⟩ => ?_
  subst he
  exact ⟨_, rfl, law_post (B := 4) (by kernel_rfl) (by kernel_rfl) rfl Try.underlying4 rfl hW' rfl hb⟩

/-- The statement: for every input the law returns true, and the arguments read afterwards as before. -/
theorem proved : Rows.FnExactSameZoneSaid :=
  OpenClaim.holds_of_wide 3 Try.f3 rfl rfl rfl rfl rfl rfl rfl ⟨rfl, rfl, rfl, rfl, rfl⟩ rfl rfl rfl rfl rfl (by kernel_rfl) Try.func3 (by kernel_rfl)
    (of_decide_eq_true (by kernel_rfl)) (by unfold Func.isWrapper; first | (rw [if_pos (by decide +kernel)]; kernel_rfl) | (rw [if_neg (by decide +kernel)]; exact ⟨rfl, rfl⟩))
    (fun os started H enc _ => lifted os started H enc)
end Go.Proofs.Ytonhndiflhbkiab.fnExactSameZone
