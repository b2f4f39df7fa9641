/- Proved: for every input the law FnExactLessWeight returns true, and each argument reads afterwards as it read before; no condition beside those of the given row. -/
import Derived.Test.YtapnihkgalbddabRows
import Derived.WalkKit
import Derived.ProofKit
import Derived.OpenShut
import Derived.Lib.Hide
import Derived.Handy
import Derived.BigQuiet
import Derived.Carry
import Derived.Deep.AppendLies
import Derived.Deep.QuietTactic
import Derived.Deep.RegionHeld3
import Derived.Deep.SlicePairs
import Derived.Lib.SmallJoins
import Derived.Lib.SmallJoins
import Derived.ChangeMaps5
namespace Go.Proofs.Ytapnihkgalbddab
open Go.ChangeShapes Go.WideShapes Go.ChangeAt Go.RowKit
set_option linter.unusedVariables false
set_option linter.unusedSimpArgs false

theorem tmod_pos (n k : Int) (h : 0 ≤ n) : n.tmod k = n % k := Int.tmod_eq_emod_of_nonneg h

theorem trodAll_stay {H : Type} {enc : TypeId × Value → H} {P : Program} (hl : laidOutB P = true) {W W' : World} (hb : Below W.heap.size W W') :
    ∀ (ts : List TypeId) (vs : List Value) (ds : List (DataW H)) (ps : List MemPlace), ts.all (fun t => P.readableRec t && decide (t < P.types.size)) = true →
      DataW.TrodAll enc P W 0 (fun _ => true) true ts vs ds ps → (∀ x ∈ ps, x.block < W.heap.size) →
      DataW.TrodAll enc P W' 0 (fun b => decide (b < W.heap.size)) true ts vs ds ps := by
  intro ts
  induction ts with
  | nil => intro vs ds ps _ h _; obtain ⟨rfl, rfl, rfl⟩ := trodAll_nil h; exact rfl
  | cons t ts ih =>
    intro vs ds ps hr h hlt
    simp only [List.all_cons, Bool.and_eq_true, decide_eq_true_eq] at hr
    obtain ⟨v, vs', d, ds', p, q, rfl, rfl, rfl, h0, h1⟩ := trodAll_cons h
    exact ⟨p, q, Below.trod hl hr.1.1 hr.1.2 h0 hb (fun x hx => hlt x (by simp [hx])), ih _ _ _ hr.2 h1 (fun x hx => hlt x (by simp [hx])), rfl⟩

/-- A law's row at its end: it returned true, and of what was there nothing has turned. -/
theorem law_post {H : Type} {enc : TypeId × Value → H} {P : Program} {f : Func} {s : ChangeSpec} {W W' : World} {args : Array Value} {ds gs : List (DataW H)} {before : List MemPlace} {B : TypeId}
    (hl : laidOutB P = true) (hr : f.params.toList.all (fun t => P.readableRec t && decide (t < P.types.size)) = true)
    (hres : f.resultTypes = #[B]) (hB : P.underlying B = some .bool) (hv : s.vars = [])
    (hW : DataW.Whole enc P f.params.toList s.vars false W args.toList ds gs before)
    (hfn : s.fn H (ds ++ gs) = { results := [.lit (.bool true)], args := ds }) (hb : Below W.heap.size W W') :
    s.post enc P f false true false false W args (.bool true) W' := by
  have hlt : ∀ p ∈ before, p.block < W.heap.size := fun p hp => hW.lt p hp
  have hW' := hW
  obtain ⟨p, q, hA, hV, rfl, _, _⟩ := hW'
  rw [hv] at hV
  obtain ⟨rfl, rfl⟩ := trodVars_none hV
  refine ⟨ds, [], p ++ [], [], p, [], hW, ?_, ?_, ?_, hb.frame _, fun h => by cases h⟩
  · rw [hfn, hres]
    exact trodAll_cons_mk (shut_bool hB _) trodAll_mk0
  · rw [hfn]
    exact trodAll_stay hl hb _ _ _ _ hr hA (fun x hx => hlt x (by simp [hx]))
  · rw [hfn, hv]
    exact rfl

theorem kept_cell {W w1 : World} (hb : Below W.heap.size W w1) (b o : Nat) (h : b < W.heap.size) : w1.cell? ⟨b, o, none⟩ = W.cell? ⟨b, o, none⟩ := hb.cell (p := ⟨b, o, none⟩) h

theorem kept_frozen {W w1 : World} (hb : Below W.heap.size W w1) (b o : Nat) (h : b < W.heap.size) : w1.frozen? ⟨b, o, none⟩ = W.frozen? ⟨b, o, none⟩ := hb.frozen (p := ⟨b, o, none⟩) h

theorem kept {W w1 : World} (hb : Below W.heap.size W w1) :
    (∀ b o, b < W.heap.size → w1.cell? ⟨b, o, none⟩ = W.cell? ⟨b, o, none⟩) ∧ (∀ b o, b < W.heap.size → w1.frozen? ⟨b, o, none⟩ = W.frozen? ⟨b, o, none⟩) ∧ W.heap.size ≤ w1.heap.size :=
  ⟨kept_cell hb, kept_frozen hb, hb.size⟩

theorem kept_trans {a b c : World} (h : Below a.heap.size a b) (k : Below b.heap.size b c) : Below a.heap.size a c := h.trans (k.mono h.size)

theorem kept_at {W w1 : World} (hb : Below W.heap.size W w1) (b : Nat) {G : Prop} (h : b < W.heap.size)
    (k : (∀ o, w1.cell? ⟨b, o, none⟩ = W.cell? ⟨b, o, none⟩) → (∀ o, w1.frozen? ⟨b, o, none⟩ = W.frozen? ⟨b, o, none⟩) → b < w1.heap.size → G) : G :=
  k (fun o => kept_cell hb b o h) (fun o => kept_frozen hb b o h) (Nat.lt_of_lt_of_le h hb.size)

theorem kept_drewN {B : Nat} {a w : World} (h : Below B a w) (n : Nat) : Below B a (w.drewN n) := { os := h.os, tape := h.tape, output := h.output, size := h.size, block := h.block }

theorem grown_step {a b c : World} {row : Option Nat} (h : a.grownBy b row) (k : b.grownBy c row) : a.grownBy c row :=
  ⟨k.os.trans h.os, k.tape.trans h.tape, k.output.trans h.output, Nat.le_trans h.size k.size, fun i hi hne => (k.block i (Nat.lt_of_lt_of_le hi h.size) hne).trans (h.block i hi hne)⟩

theorem grown_below {a b c : World} {row : Option Nat} (h : Below a.heap.size a b) (k : b.grownBy c row) (hr : ∀ g, row = some g → a.heap.size ≤ g) : Below a.heap.size a c := h.grown k h.size hr

def inB (n low high : Int) : Bool := decide (low ≤ n) && decide (n ≤ high)

theorem in_any (n low high : Int) (w : World) :
    Calls Try.prog 19 #[.int .i64 n, .int .i64 low, .int .i64 high] w fun e w' => e = .returned (.bool (inB n low high)) ∧ w = w' := by
  unfold inB
  by_cases h1 : low ≤ n <;> by_cases h2 : n ≤ high <;>
  · go_enter Try.func19, Try.ntmps19
    go_wp2
    go_ret
    exact ⟨by simp [*], rfl⟩

theorem inB_true {n a b : Int} (h : inB n a b = true) : a ≤ n ∧ n ≤ b := by simpa [inB] using h

theorem inB_false {n a b : Int} (h : inB n a b = false) : ¬ (a ≤ n ∧ n ≤ b) := by simpa [inB] using h

theorem own_kept {W w1 : World} {base : Nat} {e : TypeId} {size : Nat} {v : Value} {n : Nat} {xs : List Value} (h : W.ownsRow base e size v n xs) (hb : Below W.heap.size W w1) : w1.ownsRow base e size v n xs := by
  refine ⟨h.1, ?_⟩
  rcases h.2 with h2 | ⟨g, cap, cur, hv, hg, hh, r⟩
  · exact Or.inl h2
  · refine Or.inr ⟨g, cap, cur, hv, hg, ?_, r⟩
    rw [hb.block g (h.lt g (by rw [hv]; rfl)).2]
    exact hh

/-- What a marked list holds: k, k + 1, .. -/
def marks (k : Nat) : Nat → List Int
  | 0 => []
  | n + 1 => (k : Int) :: marks (k + 1) n

theorem marks_len (k n : Nat) : (marks k n).length = n := by
  induction n generalizing k with
  | zero => rfl
  | succ n ih => simp [marks, ih]

theorem marks_at (k n j : Nat) (h : j < n) : (marks k n)[j]? = some ((k + j : Nat) : Int) := by
  induction n generalizing k j with
  | zero => omega
  | succ n ih =>
    cases j with
    | zero => simp [marks]
    | succ j => simp only [marks, List.getElem?_cons_succ]; rw [ih (k + 1) j (by omega)]; congr 2; omega

theorem marks_set (k j : Nat) (l : List Int) (h : j < l.length) : (marks k j ++ l.drop j).set j ((k + j : Nat) : Int) = marks k (j + 1) ++ l.drop (j + 1) := by
  apply List.ext_getElem?
  intro i
  rw [List.getElem?_set]
  by_cases h1 : j = i
  · subst h1
    rw [if_pos rfl, if_pos (by simp [marks_len]; omega), List.getElem?_append_left (by rw [marks_len]; omega), marks_at _ _ _ (by omega)]
  · rw [if_neg h1]
    by_cases h2 : i < j
    · rw [List.getElem?_append_left (by rw [marks_len]; omega), List.getElem?_append_left (by rw [marks_len]; omega), marks_at _ _ _ h2, marks_at _ _ _ (by omega)]
    · rw [List.getElem?_append_right (by rw [marks_len]; omega), List.getElem?_append_right (by rw [marks_len]; omega), marks_len, marks_len, List.getElem?_drop, List.getElem?_drop]
      congr 1
      omega

theorem flat_len {α : Type} {enc : α → List Value} {sz : Nat} (h : ∀ z, (enc z).length = sz) (zs : List α) : (zs.flatMap enc).length = zs.length * sz := by
  induction zs with
  | nil => simp
  | cons z zs ih => rw [List.flatMap_cons, List.length_append, ih, h, List.length_cons, Nat.add_mul]; omega

theorem flat_at {α : Type} {enc : α → List Value} {sz : Nat} (h : ∀ z, (enc z).length = sz) (zs : List α) (k j : Nat) (hk : k < zs.length) (hj : j < sz) : (zs.flatMap enc)[k * sz + j]? = (enc zs[k])[j]? := by
  induction zs generalizing k with
  | nil => simp at hk
  | cons z zs ih =>
    cases k with
    | zero => rw [List.flatMap_cons, List.getElem?_append_left (by rw [h]; omega)]; simp
    | succ k =>
      have e : (k + 1) * sz + j - (enc z).length = k * sz + j := by rw [h, Nat.add_mul]; omega
      rw [List.flatMap_cons, List.getElem?_append_right (by rw [h, Nat.add_mul]; omega), e, ih k (by simpa using hk)]
      simp

/-- The slice value reads as n elements of sz cells each, cell for cell. -/
def RdF (w : World) (v : Value) (n sz : Nat) (xs : List Value) : Prop :=
  n ≤ 9223372036854775807 ∧ xs.length = n * sz ∧ ∃ A c, v = .slice A n c ∧ ∀ i, i < n * sz → ∃ b off, A = some ⟨b, off, none⟩ ∧ b < w.heap.size ∧ w.cell? ⟨b, off + i, none⟩ = xs[i]?

theorem RdF_kept {W w1 : World} {v : Value} {n sz : Nat} {xs : List Value} (h : RdF W v n sz xs) (hb : Below W.heap.size W w1) : RdF w1 v n sz xs := by
  obtain ⟨hl, hx, A, c, rfl, hr⟩ := h
  refine ⟨hl, hx, A, c, rfl, fun k hk => ?_⟩
  obtain ⟨b, off, e, hlt, hc⟩ := hr k hk
  exact ⟨b, off, e, Nat.lt_of_lt_of_le hlt hb.size, by rw [kept_cell hb b _ hlt]; exact hc⟩

/-- A row of elements of the call's own (type e, sz cells each), in a block from lo on and below hi. -/
def RowF (e sz : Nat) (w : World) (lo hi : Nat) (v : Value) (n : Nat) (xs : List Value) : Prop :=
  w.ownsRow lo e sz v n xs ∧ ∀ g, v.ownBlock = some g → lo ≤ g ∧ g < hi

theorem RowF_nil (e sz : Nat) (w : World) (lo hi : Nat) : RowF e sz w lo hi (.slice none 0 0) 0 [] := ⟨World.ownsRow_nil _ _ _ _, fun g h => by simp [Value.ownBlock] at h⟩

theorem RowF_form {e sz : Nat} {w : World} {lo hi : Nat} {v : Value} {n : Nat} {xs : List Value} (h : RowF e sz w lo hi v n xs) :
    (n = 0 ∧ xs = [] ∧ v = .slice none 0 0) ∨ ∃ g cap, v = .slice (some ⟨g, 0, none⟩) n cap ∧ lo ≤ g ∧ g < hi ∧ g < w.heap.size ∧ n ≤ cap ∧ cap ≤ maxLen := by
  rcases h.1.2 with ⟨h1, h2⟩ | ⟨g, cap, cur, rfl, hg, hh, h3, h4, _⟩
  · exact Or.inl ⟨h2, List.eq_nil_of_length_eq_zero (by rw [h.1.1, h2, Nat.zero_mul]), h1⟩
  · exact Or.inr ⟨g, cap, rfl, hg, (h.2 g rfl).2, (h.1.lt g rfl).2, h3, h4⟩

theorem RowF_rd {e sz : Nat} {w : World} {lo hi : Nat} {v : Value} {n : Nat} {xs : List Value} (h : RowF e sz w lo hi v n xs) : RdF w v n sz xs := by
  rcases RowF_form h with ⟨rfl, rfl, rfl⟩ | ⟨g, cap, rfl, _, _, hlt, h3, h4⟩
  · exact ⟨by simp, by simp, none, 0, rfl, fun k hk => by simp at hk⟩
  · unfold maxLen at h4
    refine ⟨by omega, h.1.1, some ⟨g, 0, none⟩, cap, rfl, fun k hk => ⟨g, 0, rfl, hlt, ?_⟩⟩
    rw [Nat.zero_add, h.1.cellAt k hk]

theorem RowF_kept {e sz : Nat} {W w1 : World} {lo hi : Nat} {v : Value} {n : Nat} {xs : List Value} (h : RowF e sz W lo hi v n xs) (hb : Below W.heap.size W w1) : RowF e sz w1 lo hi v n xs := ⟨own_kept h.1 hb, h.2⟩

theorem RowF_far {e sz : Nat} {W w1 : World} {lo hi : Nat} {v : Value} {n : Nat} {xs : List Value} {row : Option Nat} (h : RowF e sz W lo hi v n xs) (hg : W.grownBy w1 row) (hr : ∀ g, row = some g → g < lo ∨ hi ≤ g) : RowF e sz w1 lo hi v n xs := by
  refine ⟨h.1.kept hg ?_, h.2⟩
  rcases hv : v.ownBlock with _ | g
  · exact Or.inl rfl
  · refine Or.inr (fun e => ?_)
    have h1 := h.2 g hv
    have h2 := hr g e.symm
    omega

/-- The first elements of a row. -/
theorem RowF_short {e sz : Nat} {w : World} {lo hi g cap m n : Nat} {xs : List Value} (h : RowF e sz w lo hi (.slice (some ⟨g, 0, none⟩) m cap) m xs) (hn : n ≤ m) :
    RowF e sz w lo hi (.slice (some ⟨g, 0, none⟩) n cap) n (xs.take (n * sz)) := by
  refine ⟨⟨?_, ?_⟩, fun g' hg' => h.2 g' hg'⟩
  · rw [List.length_take, h.1.1]
    have := Nat.mul_le_mul_right sz hn
    omega
  · rcases h.1.2 with ⟨h1, h2⟩ | ⟨g', cap', cur, h1, hg, hh, h3, h4, h5, h6⟩
    · simp at h1
    · simp only [Value.slice.injEq, Option.some.injEq, Addr.mk.injEq, and_true, true_and] at h1
      obtain ⟨rfl, rfl⟩ := h1
      refine Or.inr ⟨g, cap, cur, rfl, hg, hh, by omega, h4, h5, ?_⟩
      rw [← h6, List.take_take]
      congr 1
      have := Nat.mul_le_mul_right sz hn
      omega

/-- A pair of numbers, cell by cell. -/
def encP (z : Int × Int) : List Value := [.int .i64 z.1, .int .i64 z.2]

def flatP (zs : List (Int × Int)) : List Value := zs.flatMap encP

theorem flatP_len (zs : List (Int × Int)) : (flatP zs).length = zs.length * 2 := flat_len (enc := encP) (fun _ => rfl) zs

theorem flatP_at (zs : List (Int × Int)) (k : Nat) (h : k < zs.length) : (flatP zs)[k * 2]? = some (.int .i64 zs[k].1) ∧ (flatP zs)[k * 2 + 1]? = some (.int .i64 zs[k].2) :=
  ⟨flat_at (enc := encP) (sz := 2) (fun _ => rfl) zs k 0 h (by omega), flat_at (enc := encP) (sz := 2) (fun _ => rfl) zs k 1 h (by omega)⟩

/-- The slice value reads as a list of pairs of numbers. -/
def RdP (w : World) (v : Value) (zs : List (Int × Int)) : Prop := RdF w v zs.length 2 (flatP zs)

theorem RdP_kept {W w1 : World} {v : Value} {zs : List (Int × Int)} (h : RdP W v zs) (hb : Below W.heap.size W w1) : RdP w1 v zs := RdF_kept h hb

theorem RdP_slice {w : World} {v : Value} {zs : List (Int × Int)} (h : RdP w v zs) : ∃ A c, v = .slice A zs.length c ∧ zs.length ≤ 9223372036854775807 ∧
    ∀ k, (hk : k < zs.length) → ∃ b off, A = some ⟨b, off, none⟩ ∧ b < w.heap.size ∧ w.cell? ⟨b, off + k * 2, none⟩ = some (.int .i64 zs[k].1) ∧ w.cell? ⟨b, off + k * 2 + 1, none⟩ = some (.int .i64 zs[k].2) := by
  obtain ⟨hl, hx, A, c, rfl, hr⟩ := h
  refine ⟨A, c, rfl, hl, fun k hk => ?_⟩
  obtain ⟨b, off, rfl, hlt, h0⟩ := hr (k * 2) (by omega)
  obtain ⟨b', off', e, _, h1⟩ := hr (k * 2 + 1) (by omega)
  simp only [Option.some.injEq, Addr.mk.injEq, and_true] at e
  obtain ⟨rfl, rfl⟩ := e
  rw [(flatP_at zs k hk).1] at h0
  rw [(flatP_at zs k hk).2, ← Nat.add_assoc] at h1
  exact ⟨b, off, rfl, hlt, h0, h1⟩

/-- An argument that is a slice of structs of two numbers. -/
theorem open_pairs {H : Type} {enc : TypeId × Value → H} {P : Program} {W : World} {t e : TypeId} {f0 f1 : Field} {base : Nat} {v : Value} {d : DataW H} {p : List MemPlace}
    (ht : P.underlying t = some (.slice e)) (he : P.underlying e = some (.struct #[f0, f1])) (i0 : P.underlying f0.type = some (.int .i64)) (i1 : P.underlying f1.type = some (.int .i64))
    (ce : P.cellsOf e = 2) (o0 : f0.offset = 0) (o1 : f1.offset = 1) (c0 : P.cellsOf f0.type = 1) (c1 : P.cellsOf f1.type = 1)
    (hv : Value.okWide P W .any base t v) (h : DataW.Trod enc P W 0 (fun _ => true) true t v d p) :
    ∃ zs : List (Int × Int), RdP W v zs ∧ ∀ z ∈ zs, (Lit.int .i64 z.1).wf = true ∧ (Lit.int .i64 z.2).wf = true := by
  obtain ⟨a1, len, cap, rfl⟩ := okWide_slice ht hv
  obtain ⟨fuel, hf⟩ := h
  rcases Deep.open_slice_pairs ht he ce o0 o1 c0 c1 hf with ⟨hcs, hx⟩ | ⟨a, len', cap', m, n, V0, V1, D0, D1, P0, P1, hcs, _, hl, hm, hmm, hx, hi⟩
  · simp [Value.cells] at hcs
    obtain ⟨rfl, rfl, rfl⟩ := hcs
    exact ⟨[], ⟨by simp, rfl, none, 0, rfl, fun i hi => by simp at hi⟩, fun z h => by cases h⟩
  · simp [Value.cells] at hcs
    obtain ⟨rfl, rfl, rfl⟩ := hcs
    simp only [if_true] at hmm
    have each : ∀ i, i < len → ∃ q : Int × Int, V0 i = .int .i64 q.1 ∧ V1 i = .int .i64 q.2 ∧ (Lit.int .i64 q.1).wf = true ∧ (Lit.int .i64 q.2).wf = true := by
      intro i hlt
      obtain ⟨_, _, g0, g1⟩ := hi i (by omega)
      obtain ⟨x, e0, _, w0⟩ := DataW.trod_int i0 g0
      obtain ⟨y, e1, _, w1⟩ := DataW.trod_int i1 g1
      simp at e0 e1
      exact ⟨(x, y), e0, e1, w0, w1⟩
    obtain ⟨q, hq⟩ := Deep.choose_lt each
    obtain ⟨b, off, spot⟩ := a
    refine ⟨(List.range len).map q, ⟨by simp; unfold maxLen at hm; omega, by rw [flatP_len], some ⟨b, off, spot⟩, cap, by simp, fun j hj => ?_⟩, ?_⟩
    · simp only [List.length_map, List.length_range] at hj
      obtain ⟨h0, h1, _, _⟩ := hi (j / 2) (by omega)
      have hspot : spot = none := by simpa [Addr.add] using World.cell?_spot (hi 0 (by omega)).1
      subst hspot
      rw [add_plain] at h0 h1
      have hat := flatP_at ((List.range len).map q) (j / 2) (by simp; omega)
      simp only [List.getElem_map, List.getElem_range] at hat
      rw [← (hq (j / 2) (by omega)).1, ← (hq (j / 2) (by omega)).2.1] at hat
      refine ⟨b, off, rfl, World.block_lt_of_cell? _ _ h0, ?_⟩
      rcases Nat.mod_two_eq_zero_or_one j with hp | hp
      · have e : j / 2 * 2 = j := by omega
        rw [e] at hat h0
        rw [hat.1, ← h0]
      · have e : j / 2 * 2 + 1 = j := by omega
        rw [e] at hat h1
        rw [hat.2, ← h1]
    · intro z hz
      obtain ⟨i, hi', rfl⟩ := List.mem_map.1 hz
      exact (hq i (List.mem_range.1 hi')).2.2

def roomL (n : Nat) : Nat := if n % 6 = 5 then 0 else if n % 3 = 0 then 1 else n

theorem roomL_le (n : Nat) : roomL n ≤ n + 1 := by
  unfold roomL
  split
  · omega
  · split <;> omega

theorem room_any (n : Nat) (hn : n ≤ 9223372036854775807) (w : World) :
    Calls Try.prog 21 #[.int .i64 n] w fun e w' => e = .returned (.int .i64 (roomL n : Nat)) ∧ w = w' := by
  unfold roomL
  have e6 : (n : Int).tmod 6 = ((n % 6 : Nat) : Int) := by rw [tmod_pos _ _ (by omega)]; omega
  have e3 : (n : Int).tmod 3 = ((n % 3 : Nat) : Int) := by rw [tmod_pos _ _ (by omega)]; omega
  by_cases h6 : n % 6 = 5
  · rw [h6] at e6
    go_enter Try.func21, Try.ntmps21
    go_wp2
    go_ret
    exact ⟨by simp [h6], rfl⟩
  · have d6 : ((n : Int).tmod 6 == 5) = false := by rw [e6]; simp; omega
    by_cases h3 : n % 3 = 0
    · rw [h3] at e3
      go_enter Try.func21, Try.ntmps21
      go_wp2
      go_ret
      exact ⟨by simp [h6, h3], rfl⟩
    · have d3 : ((n : Int).tmod 3 == 0) = false := by rw [e3]; simp; omega
      go_enter Try.func21, Try.ntmps21
      go_wp2
      go_ret
      exact ⟨by simp [h6, h3], rfl⟩

theorem szC_any (A : Option Addr) (n c : Nat) (left : Int) (h : 0 ≤ left ∧ left ≤ 1000000) (hn : n ≤ 9223372036854775807) (w : World) :
    Calls Try.prog 6 #[.slice A n c, .int .i64 left] w fun e w' => e = .returned (.int .i64 (if (n : Int) ≤ left then left - n else -1)) ∧ w = w' := by
  by_cases h1 : (n : Int) ≤ left
  · rw [if_pos h1]
    go_enter Try.func6, Try.ntmps6
    go_wp2
    go_ret
    exact ⟨rfl, rfl⟩
  · rw [if_neg h1]
    go_enter Try.func6, Try.ntmps6
    go_wp2
    go_ret
    exact ⟨rfl, rfl⟩

theorem toStep_any (x y : Int) (w : World) :
    Calls Try.prog 22 #[.agg #[.int .i64 x, .int .i64 y]] w fun e w' => e = .returned (.agg #[.int .i64 x, .int .i64 y]) ∧ Below w.heap.size w w' := by
  go_enter Try.func22, Try.ntmps22
  go_wp2
  go_returns
  exact ⟨rfl, by go_grown⟩

def fillP : Int × Int := (-7000000000000000101, -7000000000000000101)

theorem fillStep_any (w : World) :
    Calls Try.prog 23 #[] w fun e w' => e = .returned (.agg #[.int .i64 fillP.1, .int .i64 fillP.2]) ∧ Below w.heap.size w w' := by
  unfold fillP
  go_enter Try.func23, Try.ntmps23
  go_wp2
  go_returns
  exact ⟨rfl, by go_grown⟩

theorem eqStep_same (x y : Int) (w : World) :
    Calls Try.prog 27 #[.agg #[.int .i64 x, .int .i64 y], .agg #[.int .i64 x, .int .i64 y]] w fun e w' => e = .returned (.bool true) ∧ Below w.heap.size w w' := by
  go_enter Try.func27, Try.ntmps27
  go_wp2
  go_ret
  exact ⟨rfl, by go_grown⟩

theorem info_step : (Try.prog.info? 39).map (fun i => (i.zero, i.size, i.bytes)) = some (some (.agg #[.int .i64 0, .int .i64 0]), 2, 16) := by kernel_rfl

theorem eqC_same (v1 v2 : Value) (zs : List (Int × Int)) (w : World) (h1 : RdP w v1 zs) (h2 : RdP w v2 zs) :
    Calls Try.prog 10 #[v1, v2] w fun e w' => e = .returned (.bool true) ∧ Below w.heap.size w w' := by
  obtain ⟨A, c, rfl, hl, r1⟩ := RdP_slice h1
  obtain ⟨A2, c2, rfl, _, r2⟩ := RdP_slice h2
  clear h1 h2
  have R1 := Lib.hid r1; clear r1
  have R2 := Lib.hid r2; clear r2
  go_enter Try.func10, Try.ntmps10
  go_wp2_with fail
  go_loopw [5] (fun i wr => ∃ k : Nat, k ≤ zs.length ∧ i = .int .i64 k ∧ Below w.heap.size w wr) (fun i _ => zs.length - (intOf i).toNat)
  case atStart => exact ⟨0, by omega, rfl, Below.refl _ _⟩
  case round =>
    obtain ⟨k, hk, rfl, hb⟩ := hrel
    by_cases hlt : k < zs.length
    · obtain ⟨b, off, rfl, hbl, hc0, hc1⟩ := R1.out k hlt
      obtain ⟨b2, off2, rfl, hbl2, hd0, hd1⟩ := R2.out k hlt
      rw [← kept_cell hb b _ hbl] at hc0 hc1
      rw [← kept_cell hb b2 _ hbl2] at hd0 hd1
      generalize zs[k].1 = x at *
      generalize zs[k].2 = y at *
      have hsz := hb.size
      have hbl' := Nat.lt_of_lt_of_le hbl hsz
      have hbl2' := Nat.lt_of_lt_of_le hbl2 hsz
      go_wp2_with fail
      go_region_held3 (fun w' => w'.cell? ⟨b, off + k * 2, none⟩ = some (.int .i64 x) ∧ w'.cell? ⟨b, off + k * 2 + 1, none⟩ = some (.int .i64 y) ∧ w'.cell? ⟨b2, off2 + k * 2, none⟩ = some (.int .i64 x) ∧ w'.cell? ⟨b2, off2 + k * 2 + 1, none⟩ = some (.int .i64 y)) (go_keep)
        ((go_at_call 27; refine (eqStep_same _ _ _).mono ?_; rintro e w1 ⟨rfl, hb1⟩; replace hb1 := kept_trans (a := wr) (by go_grown) hb1; have hcl := kept_cell hb1))
      go_wp2
      go_roundw
      case rel => exact ⟨k + 1, by omega, by go_num, kept_trans hb (by assumption)⟩
      case measure => simp [intOf]; omega
    · have : k = zs.length := by omega
      subst this
      go_wp2
      go_ret
      exact ⟨rfl, hb⟩

theorem flatP_set (l : List (Int × Int)) (j : Nat) (x y : Int) : ((flatP l).set (j * 2) (.int .i64 x)).set (j * 2 + 1) (.int .i64 y) = flatP (l.set j (x, y)) := by
  induction l generalizing j with
  | nil => simp [flatP]
  | cons z l ih =>
    cases j with
    | zero => simp [flatP, encP]
    | succ j =>
      have := ih j
      simp only [flatP, encP, List.flatMap_cons, List.cons_append, List.nil_append, Nat.succ_mul, List.set_cons_succ] at this ⊢
      rw [this]

theorem fill_step {α : Type} (T : List α) (z : α) (j : Nat) (h : j < T.length) : (T.take j ++ List.replicate (T.length - j) z).set j T[j] = T.take (j + 1) ++ List.replicate (T.length - (j + 1)) z := by
  obtain ⟨m, hm⟩ : ∃ m, T.length - j = m + 1 := ⟨T.length - j - 1, by omega⟩
  rw [hm, show T.length - (j + 1) = m by omega, List.replicate_succ, List.set_append, if_neg (by simp; omega), List.length_take, Nat.min_eq_left (by omega), Nat.sub_self, List.set_cons_zero, ← List.take_append_getElem h, List.append_assoc]
  rfl

/-- What a copy's block holds: the list, and behind it the filler. -/
def copyT (zs : List (Int × Int)) : List (Int × Int) := zs ++ List.replicate (roomL zs.length) fillP

theorem copyT_len (zs : List (Int × Int)) : (copyT zs).length = zs.length + roomL zs.length := by simp [copyT]

/-- A copy of a list of steps that the law made: the whole block is a row of the call's own. -/
def CopyC (w : World) (lo hi : Nat) (v : Value) (zs : List (Int × Int)) : Prop :=
  zs.length ≤ 1000000 ∧ ∃ g, v = .slice (some ⟨g, 0, none⟩) zs.length (copyT zs).length ∧ RowF 39 2 w lo hi (.slice (some ⟨g, 0, none⟩) (copyT zs).length (copyT zs).length) (copyT zs).length (flatP (copyT zs))

theorem CopyC_kept {W w1 : World} {lo hi : Nat} {v : Value} {zs : List (Int × Int)} (h : CopyC W lo hi v zs) (hb : Below W.heap.size W w1) : CopyC w1 lo hi v zs := by
  obtain ⟨hl, g, e, hr⟩ := h
  exact ⟨hl, g, e, RowF_kept hr hb⟩

theorem CopyC_row {w : World} {lo hi : Nat} {v : Value} {zs : List (Int × Int)} (h : CopyC w lo hi v zs) : RowF 39 2 w lo hi v zs.length (flatP zs) := by
  obtain ⟨hl, g, rfl, hr⟩ := h
  have := RowF_short hr (n := zs.length) (by rw [copyT_len]; omega)
  have e : (flatP (copyT zs)).take (zs.length * 2) = flatP zs := by
    rw [show flatP (copyT zs) = flatP zs ++ flatP (List.replicate (roomL zs.length) fillP) by simp [flatP, copyT]]
    rw [← flatP_len, List.take_left]
  rwa [e] at this

theorem CopyC_rd {w : World} {lo hi : Nat} {v : Value} {zs : List (Int × Int)} (h : CopyC w lo hi v zs) : RdP w v zs := RowF_rd (CopyC_row h)

theorem make_steps (n : Nat) (h : n ≤ 4000000) (w : World) :
    (Instr.makeSlice 24 (.int .i64 (n : Int)) (.int .i64 (n : Int))).run Try.prog w = .ok (.slice (some ⟨w.heap.size, 0, none⟩) n n) (w.alloc (.cells (madeCells #[.int .i64 0, .int .i64 0] (n * 2)) 39)) := by
  obtain ⟨i, hi, hz, hs, hb⟩ := info_parts info_step
  have hb' : (i.bytes : Int) * (n : Int) ≤ 281474976710656 := by rw [hb]; omega
  have hr := run_make (P := Try.prog) w 24 39 i (.agg #[.int .i64 0, .int .i64 0]) Try.underlying24 hi hz .i64 .i64 n n (by omega) (Int.le_refl _) hb' (by omega)
  simp only [Int.toNat_natCast, hs] at hr
  exact hr

theorem made_flat (n : Nat) : (madeCells #[.int .i64 0, .int .i64 0] (n * 2)).toList = flatP (List.replicate n (0, 0)) := by
  apply List.ext_getElem?
  intro j
  by_cases hj : j < n * 2
  · have h := flatP_at (List.replicate n ((0 : Int), (0 : Int))) (j / 2) (by simp; omega)
    simp only [List.getElem_replicate] at h
    rcases Nat.mod_two_eq_zero_or_one j with hp | hp
    · rw [show j / 2 * 2 = j by omega] at h
      rw [h.1]
      simp [madeCells, hj, hp]
    · rw [show j / 2 * 2 + 1 = j by omega] at h
      rw [h.2]
      simp [madeCells, hj, hp]
  · rw [List.getElem?_eq_none (by rw [Array.length_toList, size_madeCells]; omega), List.getElem?_eq_none (by rw [flatP_len]; simp; omega)]

theorem copyT_at (zs : List (Int × Int)) (j : Nat) : (h : j < zs.length) → (copyT zs)[j]'(by rw [copyT_len]; omega) = zs[j] := by
  intro h
  simp [copyT, h]

theorem copyT_fill (zs : List (Int × Int)) (j : Nat) (h : zs.length ≤ j) : (h2 : j < (copyT zs).length) → (copyT zs)[j] = fillP := by
  intro h2
  simp [copyT, h]

theorem toC_row (v : Value) (zs : List (Int × Int)) (bare : Bool) (w : World) (h : RdP w v zs) (hn : zs.length ≤ 1000000) (hbare : bare = false ∨ zs ≠ []) :
    Calls Try.prog 8 #[v, .bool bare] w fun e w' => ∃ v', e = .returned v' ∧ CopyC w' w.heap.size w'.heap.size v' zs ∧ Below w.heap.size w w' := by
  obtain ⟨A, c, rfl, hl, r1⟩ := RdP_slice h
  clear h
  have R := Lib.hid r1; clear r1
  have hN := copyT_len zs
  have hr := roomL_le zs.length
  have hmk : ∀ w : World, (Instr.makeSlice 24 (.int .i64 ((zs.length : Int) + (roomL zs.length : Int))) (.int .i64 ((zs.length : Int) + (roomL zs.length : Int)))).run Try.prog w = .ok (.slice (some ⟨w.heap.size, 0, none⟩) (copyT zs).length (copyT zs).length) (w.alloc (.cells (madeCells #[.int .i64 0, .int .i64 0] ((copyT zs).length * 2)) 39)) := by
    intro w
    have := make_steps (copyT zs).length (by omega) w
    rwa [show (((copyT zs).length : Nat) : Int) = (zs.length : Int) + (roomL zs.length : Int) by omega] at this
  have hcap : (copyT zs).length ≤ maxLen := by unfold maxLen; omega
  have hrow0 : ∀ wa : World, w.heap.size ≤ wa.heap.size → (wa.alloc (.cells (madeCells #[.int .i64 0, .int .i64 0] ((copyT zs).length * 2)) 39)).ownsRow w.heap.size 39 2 (.slice (some ⟨wa.heap.size, 0, none⟩) (copyT zs).length (copyT zs).length) (copyT zs).length (flatP ((copyT zs).take 0 ++ List.replicate ((copyT zs).length - 0) (0, 0))) := by
    intro wa hwa
    have := World.ownsRow_lit wa (e := 39) (size := 2) (madeCells #[.int .i64 0, .int .i64 0] ((copyT zs).length * 2)) (copyT zs).length hwa hcap (size_madeCells _ _)
    rw [made_flat] at this
    simpa using this
  have Hrow := Lib.hid hrow0; clear hrow0
  have hb0 : bare = true → ((zs.length : Int) == 0) = false := by
    intro hb
    have : zs.length ≠ 0 := fun h => by
      rcases hbare with h1 | h1
      · rw [hb] at h1; cases h1
      · exact h1 (List.eq_nil_of_length_eq_zero h)
    simpa using this
  clear hbare
  generalize hNN : (copyT zs).length = N at *
  have HNN := Lib.hid hNN; clear hNN
  have hNb : N ≤ 2000002 ∧ zs.length ≤ N := by omega
  have HN := Lib.hid hN; clear hN
  cases bare
  all_goals
    have hbn := hb0
    simp only [forall_const, reduceCtorEq, false_implies, Bool.false_eq_true] at hbn
    clear hb0
    go_enter Try.func8, Try.ntmps8
    go_wp2_with (go_at_call 21; refine (room_any _ (by omega) _).mono ?_; rintro e w1 ⟨rfl, rfl⟩)
    go_loopw [6] (fun i wr => ∃ j : Nat, j ≤ zs.length ∧ i = .int .i64 j ∧ wr.ownsRow w.heap.size 39 2 (.slice (some ⟨w.heap.size, 0, none⟩) N N) N (flatP ((copyT zs).take j ++ List.replicate (N - j) (0, 0))) ∧ Below w.heap.size w wr) (fun i _ => zs.length - (intOf i).toNat)
    case atStart => exact ⟨0, by omega, rfl, Hrow.out w (Nat.le_refl _), by go_grown⟩
    case round =>
      obtain ⟨j, hj, rfl, hown, hb⟩ := hrel
      have hsz := hb.size
      by_cases hlt : j < zs.length
      · obtain ⟨b, off, rfl, hbl, hc0, hc1⟩ := R.out j hlt
        rw [← kept_cell hb b _ hbl] at hc0 hc1
        go_wp2_with fail
        refine (toStep_any _ _ _).mono ?_
        rintro e w1 ⟨rfl, hb1⟩
        have hown1 := own_kept hown hb1
        have hlen : (flatP ((copyT zs).take j ++ List.replicate (N - j) (0, 0))).length = N * 2 := hown.1
        obtain ⟨u0, hu0⟩ : ∃ u, w1.cell? ⟨w.heap.size, j * 2, none⟩ = some u := by
          rw [hown1.cellAt _ (by omega)]
          exact ⟨_, List.getElem?_eq_getElem (by omega)⟩
        obtain ⟨u1, hu1⟩ : ∃ u, w1.cell? ⟨w.heap.size, j * 2 + 1, none⟩ = some u := by
          rw [hown1.cellAt _ (by omega)]
          exact ⟨_, List.getElem?_eq_getElem (by omega)⟩
        have hz0 := hown1.frozenAt (j * 2)
        have hz1 := hown1.frozenAt (j * 2 + 1)
        have hs0 := hown1.stored (j * 2) (.int .i64 zs[j].1)
        have hs1 := hs0.1.stored (j * 2 + 1) (.int .i64 zs[j].2)
        rw [flatP_set] at hs1
        have hstep := fill_step (copyT zs) (0, 0) j (by rw [HNN.out]; omega)
        rw [copyT_at zs j hlt, HNN.out] at hstep
        rw [show ((zs[j].1, zs[j].2) : Int × Int) = zs[j] from rfl, hstep] at hs1
        have Hs := Lib.hid hs1.1
        have Hg := Lib.hid (grown_step hs0.2 hs1.2)
        clear hs0 hs1 hstep hown hown1 hlen
        go_wp2
        go_roundw
        case rel => exact ⟨j + 1, by omega, by go_num, Hs.out, grown_below (kept_trans hb hb1) Hg.out (fun g hg => by simp at hg; omega)⟩
        case measure => simp [intOf]; omega
      · have : j = zs.length := by omega
        subst this
        go_wp2_with fail
        go_loopw [7] (fun i wr => ∃ j : Nat, zs.length ≤ j ∧ j ≤ N ∧ i = .int .i64 j ∧ wr.ownsRow w.heap.size 39 2 (.slice (some ⟨w.heap.size, 0, none⟩) N N) N (flatP ((copyT zs).take j ++ List.replicate (N - j) (0, 0))) ∧ Below w.heap.size w wr) (fun i _ => N - (intOf i).toNat)
        case atStart => exact ⟨zs.length, by omega, by omega, rfl, hown, hb⟩
        case round =>
          obtain ⟨j, hj0, hj, rfl, hown, hb⟩ := hrel
          have hsz := hb.size
          by_cases hlt : j < N
          · go_wp2_with fail
            refine (fillStep_any _).mono ?_
            rintro e w1 ⟨rfl, hb1⟩
            have hown1 := own_kept hown hb1
            have hlen : (flatP ((copyT zs).take j ++ List.replicate (N - j) (0, 0))).length = N * 2 := hown.1
            obtain ⟨u0, hu0⟩ : ∃ u, w1.cell? ⟨w.heap.size, j * 2, none⟩ = some u := by
              rw [hown1.cellAt _ (by omega)]
              exact ⟨_, List.getElem?_eq_getElem (by omega)⟩
            obtain ⟨u1, hu1⟩ : ∃ u, w1.cell? ⟨w.heap.size, j * 2 + 1, none⟩ = some u := by
              rw [hown1.cellAt _ (by omega)]
              exact ⟨_, List.getElem?_eq_getElem (by omega)⟩
            have hz0 := hown1.frozenAt (j * 2)
            have hz1 := hown1.frozenAt (j * 2 + 1)
            have hs0 := hown1.stored (j * 2) (.int .i64 fillP.1)
            have hs1 := hs0.1.stored (j * 2 + 1) (.int .i64 fillP.2)
            rw [flatP_set] at hs1
            have hstep := fill_step (copyT zs) (0, 0) j (by rw [HNN.out]; omega)
            rw [copyT_fill zs j hj0 (by rw [HNN.out]; omega), HNN.out] at hstep
            rw [show ((fillP.1, fillP.2) : Int × Int) = fillP from rfl, hstep] at hs1
            have Hs := Lib.hid hs1.1
            have Hg := Lib.hid (grown_step hs0.2 hs1.2)
            clear hs0 hs1 hstep hown hown1 hlen
            go_wp2
            go_roundw
            case rel => exact ⟨j + 1, by omega, by omega, by go_num, Hs.out, grown_below (kept_trans hb hb1) Hg.out (fun g hg => by simp at hg; omega)⟩
            case measure => simp [intOf]; omega
          · have : j = N := by omega
            subst this
            have Hown := Lib.hid hown; clear hown
            go_wp2
            go_ret
            have hT : (copyT zs).take j ++ List.replicate (j - j) (0, 0) = copyT zs := by rw [List.take_of_length_le (by rw [HNN.out]; exact Nat.le_refl _)]; simp
            refine ⟨_, rfl, ⟨hn, w.heap.size, by rw [HNN.out]; rfl, ?_⟩, hb⟩
            rw [HNN.out, ← hT]
            exact ⟨Hown.out, fun g hg => by simp [Value.ownBlock] at hg; subst hg; exact ⟨Nat.le_refl _, (Hown.out.lt _ rfl).2⟩⟩

theorem toC_false (v : Value) (zs : List (Int × Int)) (w : World) (h : RdP w v zs) (hn : zs.length ≤ 1000000) :
    Calls Try.prog 8 #[v, .bool false] w fun e w' => ∃ v', e = .returned v' ∧ CopyC w' w.heap.size w'.heap.size v' zs ∧ Below w.heap.size w w' := toC_row v zs false w h hn (Or.inl rfl)

theorem toC_true (v : Value) (zs : List (Int × Int)) (w : World) (h : RdP w v zs) (hn : zs.length ≤ 1000000) :
    Calls Try.prog 8 #[v, .bool true] w fun e w' => ∃ v', e = .returned v' ∧ RdP w' v' zs ∧ Below w.heap.size w w' := by
  by_cases hz : zs = []
  · subst hz
    obtain ⟨A, c, rfl, hl, _⟩ := RdP_slice h
    go_enter Try.func8, Try.ntmps8
    go_wp2
    go_ret
    exact ⟨_, rfl, RowF_rd (RowF_nil 39 2 _ 0 0), Below.refl _ _⟩
  · refine (toC_row v zs true w h hn (Or.inr hz)).mono ?_
    rintro e w' ⟨v', rfl, hc, hb⟩
    exact ⟨v', rfl, CopyC_rd hc, hb⟩

theorem intactC_same (v1 v2 : Value) (zs : List (Int × Int)) (lo1 hi1 lo2 hi2 : Nat) (w : World) (h1 : CopyC w lo1 hi1 v1 zs) (h2 : CopyC w lo2 hi2 v2 zs) :
    Calls Try.prog 11 #[v1, v2] w fun e w' => e = .returned (.bool true) ∧ Below w.heap.size w w' := by
  obtain ⟨hn, g1, rfl, r1⟩ := h1
  obtain ⟨_, g2, rfl, r2⟩ := h2
  have q1 : RdP w _ (copyT zs) := RowF_rd r1
  have q2 : RdP w _ (copyT zs) := RowF_rd r2
  clear r1 r2
  have hN := copyT_len zs
  have hr := roomL_le zs.length
  generalize hT : copyT zs = T at *
  clear hT
  have Q1 := Lib.hid q1; clear q1
  have Q2 := Lib.hid q2; clear q2
  generalize hTl : T.length = N at *
  have hN' : (zs.length : Int) + (roomL zs.length : Int) = (N : Int) := by omega
  have hcap : zs.length ≤ N := by omega
  clear hN
  go_enter Try.func11, Try.ntmps11
  go_wp2_with (go_at_call 21; refine (room_any _ (by omega) _).mono ?_; rintro e w1 ⟨rfl, rfl⟩)
  go_region_held3 (fun _ => True) (trivial)
    ((go_at_call 10; refine (eqC_same _ _ T _ (by exact Q1.out) (by exact Q2.out)).mono ?_; rintro e w1 ⟨rfl, hb1⟩; replace hb1 := kept_trans (a := w) (by go_grown) hb1))
  go_wp2
  go_ret
  exact ⟨rfl, by assumption⟩

/-- The numbers of a list of pairs, one after the other. -/
def flatI (zs : List (Int × Int)) : List Int := zs.flatMap fun z => [z.1, z.2]

theorem flatI_len (zs : List (Int × Int)) : (flatI zs).length = zs.length * 2 := by
  induction zs with
  | nil => rfl
  | cons z zs ih =>
    have : flatI (z :: zs) = z.1 :: z.2 :: flatI zs := by simp [flatI]
    rw [this, List.length_cons, List.length_cons, ih, List.length_cons]
    omega

theorem flatI_eq (zs : List (Int × Int)) : flatP zs = (flatI zs).map (Value.int .i64) := by
  induction zs with
  | nil => rfl
  | cons z zs ih =>
    have h1 : flatI (z :: zs) = z.1 :: z.2 :: flatI zs := by simp [flatI]
    have h2 : flatP (z :: zs) = .int .i64 z.1 :: .int .i64 z.2 :: flatP zs := by simp [flatP, encP]
    rw [h1, h2, ih]
    rfl

theorem markC_any (v : Value) (zs : List (Int × Int)) (lo hi k0 : Nat) (w : World) (h : RowF 39 2 w lo hi v zs.length (flatP zs)) (hk0 : k0 ≤ 10000000) (hn : zs.length ≤ 4000000) :
    Calls Try.prog 12 #[v, .int .i64 k0] w fun e w' => e = .returned (.int .i64 ((k0 + zs.length * 2 : Nat) : Int)) ∧ RowF 39 2 w' lo hi v zs.length ((marks k0 (zs.length * 2)).map (Value.int .i64)) ∧ w.grownBy w' v.ownBlock := by
  rcases RowF_form h with ⟨hz, hx, rfl⟩ | ⟨g, cap, rfl, _, _, hlt, _, _⟩
  · have hzs := List.eq_nil_of_length_eq_zero hz
    subst hzs
    go_enter Try.func12, Try.ntmps12
    go_wp2_with fail
    refine wp_loop_rounds 1 ?_
    rw [rounds_succ]
    go_wp2
    go_ret
    exact ⟨rfl, RowF_nil _ _ _ _ _, World.grownBy.refl _ _⟩
  · have hfl := flatI_eq zs
    have hfn := flatI_len zs
    rw [hfl] at h
    generalize flatI zs = F at *
    generalize hN : zs.length = N at *
    have HN := Lib.hid hN; clear hN
    have HFN := Lib.hid hfn; clear hfn hfl
    have H := Lib.hid h; clear h
    go_enter Try.func12, Try.ntmps12
    go_wp2_with fail
    go_loopw [1, 5] (fun q i wr => ∃ j : Nat, j ≤ N ∧ i = .int .i64 j ∧ q = .int .i64 ((k0 + j * 2 : Nat) : Int) ∧ wr.ownsRow lo 39 2 (.slice (some ⟨g, 0, none⟩) N cap) N ((marks k0 (j * 2) ++ F.drop (j * 2)).map (Value.int .i64)) ∧ w.grownBy wr (some g)) (fun _ i _ => N - (intOf i).toNat)
    case atStart => exact ⟨0, by omega, rfl, by simp, by have := H.out.1; simpa [marks] using this, World.grownBy.refl _ _⟩
    case round =>
      obtain ⟨j, hj, rfl, rfl, hown, hg⟩ := hrel
      by_cases hlt : j < N
      · have hlen : ((marks k0 (j * 2) ++ F.drop (j * 2)).map (Value.int .i64)).length = N * 2 := hown.1
        obtain ⟨u0, hu0⟩ : ∃ u, wr.cell? ⟨g, j * 2, none⟩ = some u := by
          rw [hown.cellAt _ (by omega)]
          exact ⟨_, List.getElem?_eq_getElem (by omega)⟩
        obtain ⟨u1, hu1⟩ : ∃ u, wr.cell? ⟨g, j * 2 + 1, none⟩ = some u := by
          rw [hown.cellAt _ (by omega)]
          exact ⟨_, List.getElem?_eq_getElem (by omega)⟩
        have hz0 := hown.frozenAt (j * 2)
        have hz1 := hown.frozenAt (j * 2 + 1)
        have hs0 := hown.stored (j * 2) (.int .i64 ((k0 + j * 2 : Nat) : Int))
        rw [← List.map_set, marks_set _ _ _ (by rw [HFN.out]; omega)] at hs0
        have hs1 := hs0.1.stored (j * 2 + 1) (.int .i64 ((k0 + (j * 2 + 1) : Nat) : Int))
        rw [← List.map_set, marks_set _ _ _ (by rw [HFN.out]; omega)] at hs1
        have Hs := Lib.hid hs1.1
        have Hg := Lib.hid (grown_step hs0.2 hs1.2)
        clear hs0 hs1 hlen
        have Hown := Lib.hid hown; clear hown
        go_wp2
        go_roundw
        case rel =>
          refine ⟨j + 1, by omega, by go_num, by go_num, ?_, ?_⟩
          · have := Hs.out
            rw [show (j + 1) * 2 = j * 2 + 1 + 1 by omega]
            simpa [Int.add_assoc] using this
          · have := grown_step hg Hg.out
            simpa [Int.add_assoc] using this
        case measure => simp [intOf]; omega
      · have : j = N := by omega
        subst this
        go_wp2
        go_ret
        refine ⟨rfl, ⟨?_, fun x hx => H.out.2 x hx⟩, hg⟩
        have hd : F.drop (j * 2) = [] := List.drop_eq_nil_of_le (by rw [HFN.out]; omega)
        rw [hd, List.append_nil] at hown
        exact hown

theorem heldC_same (v : Value) (n k0 : Nat) (w : World) (h : RdF w v n 2 ((marks k0 (n * 2)).map (Value.int .i64))) (hk0 : k0 ≤ 10000000) (hn : n ≤ 4000000) :
    Calls Try.prog 13 #[v, .int .i64 k0] w fun e w' => e = .returned (.int .i64 ((k0 + n * 2 : Nat) : Int)) ∧ w = w' := by
  obtain ⟨_, _, A, c, rfl, r1⟩ := h
  have R1 := Lib.hid r1; clear r1
  go_enter Try.func13, Try.ntmps13
  go_wp2_with fail
  go_loop [1, 5] (fun q i => ∃ j : Nat, j ≤ n ∧ i = .int .i64 j ∧ q = .int .i64 ((k0 + j * 2 : Nat) : Int)) (fun _ i => n - (intOf i).toNat)
  case atStart => exact ⟨0, by omega, rfl, by simp⟩
  case round =>
    obtain ⟨j, hj, rfl, rfl⟩ := hrel
    by_cases hlt : j < n
    · obtain ⟨b, off, rfl, hbl, hc0⟩ := R1.out (j * 2) (by omega)
      obtain ⟨b', off', e', _, hc1⟩ := R1.out (j * 2 + 1) (by omega)
      simp only [Option.some.injEq, Addr.mk.injEq, and_true] at e'
      obtain ⟨rfl, rfl⟩ := e'
      rw [List.getElem?_map, marks_at _ _ _ (by omega), Option.map_some] at hc0 hc1
      rw [← Nat.add_assoc] at hc1
      go_wp2
      go_round
      case rel => exact ⟨j + 1, by omega, by go_num, by go_num⟩
      case measure => simp [intOf]; omega
    · have : j = n := by omega
      subst this
      go_wp2
      go_ret
      exact ⟨rfl, rfl⟩

theorem szC_fit (A : Option Addr) (n c : Nat) (left : Int) (h : (n : Int) ≤ left ∧ left ≤ 1000000) (w : World) :
    Calls Try.prog 6 #[.slice A n c, .int .i64 left] w fun e w' => e = .returned (.int .i64 (left - n)) ∧ w = w' := by
  have := szC_any A n c left (by omega) (by omega) w
  rwa [if_pos h.1] at this

theorem szC_over (A : Option Addr) (n c : Nat) (left : Int) (h : 0 ≤ left ∧ left ≤ 1000000) (hn : n ≤ 9223372036854775807) (hlt : left < n) (w : World) :
    Calls Try.prog 6 #[.slice A n c, .int .i64 left] w fun e w' => e = .returned (.int .i64 (-1)) ∧ w = w' := by
  have := szC_any A n c left h hn w
  rwa [if_neg (by omega)] at this

/-- The step i of a list is in order. -/
def OkAt (zs : List (Int × Int)) (i : Nat) (h : i < zs.length) : Prop :=
  (1 ≤ zs[i].1 ∧ zs[i].1 ≤ 1000 ∧ 0 ≤ zs[i].2 ∧ zs[i].2 ≤ 50000) ∧ (0 < i → zs[i - 1].1 < zs[i].1 ∧ zs[i].2 ≤ zs[i - 1].2)

def OkAll (zs : List (Int × Int)) (n : Nat) : Prop := ∀ i, (h : i < zs.length) → i < n → OkAt zs i h

theorem OkAll_step {zs : List (Int × Int)} {n : Nat} (h : OkAll zs n) (hn : n < zs.length) (h1 : OkAt zs n hn) : OkAll zs (n + 1) := by
  intro i hi hlt
  rcases Nat.lt_or_ge i n with h2 | h2
  · exact h i hi h2
  · obtain rfl : i = n := by omega
    exact h1

/-- The list is a load chart. -/
def ChartP (zs : List (Int × Int)) : Prop := OkAll zs zs.length ∧ 1 ≤ zs.length ∧ zs.length ≤ 20

open Classical in
/-- .. as a bool. -/
noncomputable def chartB (zs : List (Int × Int)) : Bool := decide (ChartP zs)

theorem chartB_true {zs : List (Int × Int)} (h : ChartP zs) : chartB zs = true := by simp [chartB, h]

theorem chartB_false {zs : List (Int × Int)} (h : ¬ ChartP zs) : chartB zs = false := by simp [chartB, h]

theorem chartB_iff {zs : List (Int × Int)} : chartB zs = true ↔ ChartP zs := by simp [chartB]

theorem specChart_any (v : Value) (zs : List (Int × Int)) (w : World) (h : RdP w v zs) :
    Calls Try.prog 18 #[v] w fun e w' => e = .returned (.bool (chartB zs)) ∧ Below w.heap.size w w' := by
  obtain ⟨A, c, rfl, hl, r1⟩ := RdP_slice h
  clear h
  have R := Lib.hid r1; clear r1
  go_enter Try.func18, Try.ntmps18
  go_wp2_with fail
  go_loopw [3] (fun i wr => ∃ k : Nat, k ≤ zs.length ∧ i = .int .i64 k ∧ OkAll zs k ∧ Below w.heap.size w wr) (fun i _ => zs.length - (intOf i).toNat)
  case atStart => exact ⟨0, by omega, rfl, fun i _ h => by omega, Below.refl _ _⟩
  case round =>
    obtain ⟨k, hk, rfl, hall, hb⟩ := hrel
    by_cases hlt : k < zs.length
    · obtain ⟨b, off, rfl, hbl, hc0, hc1⟩ := R.out k hlt
      rw [← kept_cell hb b _ hbl] at hc0 hc1
      have hbad : ¬ OkAt zs k hlt → chartB zs = false := fun hn => chartB_false fun hc => hn (hc.1 k hlt hlt)
      have hgood : OkAt zs k hlt → OkAll zs (k + 1) := OkAll_step hall hlt
      unfold OkAt at hbad hgood
      generalize hx : zs[k].1 = x at *
      generalize hy : zs[k].2 = y at *
      have Hall := Lib.hid hall; clear hall
      have Hbad := Lib.hid hbad; clear hbad
      have Hgood := Lib.hid hgood; clear hgood
      cases i1 : inB x 1 1000
      · go_wp2_with (go_at_call 19; refine (in_any _ _ _ _).mono ?_; rintro e w1 ⟨rfl, rfl⟩)
        go_ret
        exact ⟨by rw [Hbad.out (fun h => inB_false i1 ⟨h.1.1, h.1.2.1⟩)]; rfl, hb⟩
      · have j1 := inB_true i1
        cases i2 : inB y 0 50000
        · go_wp2_with (go_at_call 19; refine (in_any _ _ _ _).mono ?_; rintro e w1 ⟨rfl, rfl⟩)
          go_ret
          exact ⟨by rw [Hbad.out (fun h => inB_false i2 ⟨h.1.2.2.1, h.1.2.2.2⟩)]; rfl, hb⟩
        · have j2 := inB_true i2
          by_cases h0 : k = 0
          · subst h0
            simp only [Nat.zero_mul, Nat.add_zero] at hc0 hc1
            go_wp2_with (go_at_call 19; refine (in_any _ _ _ _).mono ?_; rintro e w1 ⟨rfl, rfl⟩)
            go_quiet (fail)
            go_wp2
            go_roundw
            case rel => exact ⟨1, by omega, by go_num, Hgood.out ⟨by omega, fun h => by omega⟩, kept_drewN hb _⟩
            case measure => simp [intOf]; omega
          · obtain ⟨m, hm⟩ : ∃ m, k - 1 = m := ⟨k - 1, rfl⟩
            have hkm : (k : Int) - 1 = (m : Int) := by omega
            have hkd : decide (0 < k) = true := by simp; omega
            obtain ⟨b', off', e', _, hd0, hd1⟩ := R.out m (by omega)
            simp only [Option.some.injEq, Addr.mk.injEq, and_true] at e'
            obtain ⟨rfl, rfl⟩ := e'
            rw [← kept_cell hb b _ hbl] at hd0 hd1
            simp only [hm] at Hbad Hgood
            generalize zs[m].1 = x' at *
            generalize zs[m].2 = y' at *
            by_cases h1 : x ≤ x'
            · go_wp2_with (go_at_call 19; refine (in_any _ _ _ _).mono ?_; rintro e w1 ⟨rfl, rfl⟩)
              go_quiet (fail)
              go_wp2
              go_ret
              exact ⟨by rw [Hbad.out (fun h => by omega)]; rfl, kept_drewN hb _⟩
            · have hd1 : decide (x ≤ x') = false := by simp; omega
              by_cases h2 : y' < y
              · go_wp2_with (go_at_call 19; refine (in_any _ _ _ _).mono ?_; rintro e w1 ⟨rfl, rfl⟩)
                go_quiet (fail)
                go_wp2
                go_ret
                exact ⟨by rw [Hbad.out (fun h => by omega)]; rfl, kept_drewN hb _⟩
              · go_wp2_with (go_at_call 19; refine (in_any _ _ _ _).mono ?_; rintro e w1 ⟨rfl, rfl⟩)
                go_quiet (fail)
                go_wp2
                go_roundw
                case rel => exact ⟨k + 1, by omega, by go_num, Hgood.out ⟨by omega, fun h => by omega⟩, kept_drewN hb _⟩
                case measure => simp [intOf]; omega
    · have : k = zs.length := by omega
      subst this
      have E : inB (zs.length : Int) 1 20 = chartB zs := by
        by_cases hc : 1 ≤ zs.length ∧ zs.length ≤ 20
        · rw [chartB_true ⟨hall, hc⟩]
          simp [inB]
          omega
        · rw [chartB_false fun h => hc h.2]
          simp only [inB]
          simp
          omega
      go_wp2_with (go_at_call 19; refine (in_any _ _ _ _).mono ?_; rintro e w1 ⟨rfl, rfl⟩)
      go_ret
      exact ⟨rfl, hb⟩

/-- The step before the step k; ahead of the first one, what no step can fail. -/
def prevP (zs : List (Int × Int)) : Nat → Int × Int
  | 0 => (0, 50000)
  | m + 1 => zs.getD m (0, 50000)

theorem prevP_succ (zs : List (Int × Int)) (k : Nat) (h : k < zs.length) : prevP zs (k + 1) = zs[k] := by simp [prevP, h]

theorem OkAt_prev {zs : List (Int × Int)} {k : Nat} (hall : OkAll zs k) (h : k < zs.length) :
    OkAt zs k h ↔ (prevP zs k).1 < zs[k].1 ∧ zs[k].1 ≤ 1000 ∧ 0 ≤ zs[k].2 ∧ zs[k].2 ≤ (prevP zs k).2 := by
  cases k with
  | zero => simp only [OkAt, prevP]; omega
  | succ m =>
    have h1 := hall m (by omega) (by omega)
    rw [prevP_succ zs m (by omega)]
    simp only [OkAt, Nat.add_sub_cancel] at h1 ⊢
    omega

theorem implChart_any (v : Value) (zs : List (Int × Int)) (w : World) (h : RdP w v zs) :
    Calls Try.prog 37 #[v] w fun e w' => e = .returned (.bool (chartB zs)) ∧ Below w.heap.size w w' := by
  obtain ⟨A, c, rfl, hl, r1⟩ := RdP_slice h
  clear h
  have R := Lib.hid r1; clear r1
  by_cases g1 : zs.length < 1
  · have hc : chartB zs = false := chartB_false fun h => by have := h.2; omega
    rw [hc]
    go_enter Try.func37, Try.ntmps37
    go_wp2
    go_ret
    exact ⟨rfl, Below.refl _ _⟩
  by_cases g2 : 20 < zs.length
  · have hc : chartB zs = false := chartB_false fun h => by have := h.2; omega
    rw [hc]
    go_enter Try.func37, Try.ntmps37
    go_wp2
    go_ret
    exact ⟨rfl, Below.refl _ _⟩
  go_enter Try.func37, Try.ntmps37
  go_wp2_with fail
  go_loopw [17] (fun i wr => ∃ k : Nat, k ≤ zs.length ∧ i = .int .i64 k ∧ OkAll zs k ∧ Below w.heap.size w wr ∧ w.heap.size < wr.heap.size ∧ wr.cell? ⟨w.heap.size, 0, none⟩ = some (.int .i64 (prevP zs k).1) ∧ wr.cell? ⟨w.heap.size, 1, none⟩ = some (.int .i64 (prevP zs k).2) ∧ wr.frozen? ⟨w.heap.size, 0, none⟩ = false ∧ wr.frozen? ⟨w.heap.size, 1, none⟩ = false) (fun i _ => zs.length - (intOf i).toNat)
  case atStart => exact ⟨0, by omega, rfl, fun i _ h => by omega, by go_grown, by simp, by simp [prevP], by simp [prevP], by simp, by simp⟩
  case round =>
    obtain ⟨k, hk, rfl, hall, hb, hlw, hp0, hp1, hz0, hz1⟩ := hrel
    by_cases hlt : k < zs.length
    · obtain ⟨b, off, rfl, hbl, hc0, hc1⟩ := R.out k hlt
      rw [← kept_cell hb b _ hbl] at hc0 hc1
      have hiff := OkAt_prev hall hlt
      have hbad : ¬ OkAt zs k hlt → chartB zs = false := fun hn => chartB_false fun hc => hn (hc.1 k hlt hlt)
      have hgood : OkAt zs k hlt → OkAll zs (k + 1) := OkAll_step hall hlt
      have hnext := prevP_succ zs k hlt
      rw [hiff] at hbad hgood
      clear hiff
      rw [show zs[k] = (zs[k].1, zs[k].2) from rfl] at hnext
      generalize zs[k].1 = x at *
      generalize zs[k].2 = y at *
      generalize (prevP zs k).1 = x' at *
      generalize (prevP zs k).2 = y' at *
      have Hall := Lib.hid hall; clear hall
      have Hbad := Lib.hid hbad; clear hbad
      have Hgood := Lib.hid hgood; clear hgood
      have Hnext := Lib.hid hnext; clear hnext
      by_cases h1 : x ≤ x'
      · go_wp2
        go_ret
        exact ⟨by rw [Hbad.out (fun h => by omega)]; rfl, by go_grown⟩
      · have hd1 : decide (x ≤ x') = false := by simp; omega
        by_cases h2 : 1000 < x
        · go_wp2
          go_ret
          exact ⟨by rw [Hbad.out (fun h => by omega)]; rfl, by go_grown⟩
        · by_cases h3 : y < 0
          · go_wp2
            go_ret
            exact ⟨by rw [Hbad.out (fun h => by omega)]; rfl, by go_grown⟩
          · by_cases h4 : y' < y
            · go_wp2
              go_ret
              exact ⟨by rw [Hbad.out (fun h => by omega)]; rfl, by go_grown⟩
            · go_wp2
              go_roundw
              case rel => exact ⟨k + 1, by omega, by go_num, Hgood.out (by omega), by go_grown, by simp; omega, by rw [Hnext.out]; simp [World.cell?_alloc_past, World.cell?_setCell_same', World.cell?_setCell_other, hlw, hp0, hp1], by rw [Hnext.out]; simp [World.cell?_alloc_past, World.cell?_setCell_same', World.cell?_setCell_other, hlw, hp0, hp1], by simp [World.frozen?_alloc_past, hlw, hz0], by simp [World.frozen?_alloc_past, hlw, hz1]⟩
              case measure => simp [intOf]; omega
    · have : k = zs.length := by omega
      subst this
      go_wp2
      go_ret
      exact ⟨by rw [chartB_true ⟨hall, by omega, by omega⟩]; rfl, hb⟩

/-- The code of a chart and a number. -/
noncomputable def codeL (zs : List (Int × Int)) (n lo hi : Int) : Int := if chartB zs then (if inB n lo hi then 0 else 2) else 1

theorem codeL_cases (zs : List (Int × Int)) (n lo hi : Int) : (codeL zs n lo hi = 0 ∧ ChartP zs ∧ lo ≤ n ∧ n ≤ hi) ∨ codeL zs n lo hi = 1 ∨ codeL zs n lo hi = 2 := by
  unfold codeL
  cases h1 : chartB zs
  · simp
  · cases h2 : inB n lo hi
    · simp
    · exact Or.inl ⟨by simp, chartB_iff.1 h1, inB_true h2⟩

theorem implCode_any (v : Value) (zs : List (Int × Int)) (r lo hi : Int) (w : World) (h : RdP w v zs) :
    Calls Try.prog 24 #[v, .int .i64 r, .int .i64 lo, .int .i64 hi] w fun e w' => e = .returned (.int .i64 (codeL zs r lo hi)) ∧ Below w.heap.size w w' := by
  unfold codeL inB
  cases h1 : chartB zs
  · go_enter Try.func24, Try.ntmps24
    go_wp2_with fail
    refine (implChart_any v zs _ h).mono ?_
    rw [h1]
    rintro e w1 ⟨rfl, hb⟩
    go_wp2
    go_ret
    exact ⟨rfl, hb⟩
  · by_cases h2 : r < lo
    · have e : (decide (lo ≤ r) && decide (r ≤ hi)) = false := by simp; omega
      rw [e]
      go_enter Try.func24, Try.ntmps24
      go_wp2_with fail
      refine (implChart_any v zs _ h).mono ?_
      rw [h1]
      rintro e w1 ⟨rfl, hb⟩
      go_wp2
      go_ret
      exact ⟨rfl, hb⟩
    · by_cases h3 : hi < r
      · have e : (decide (lo ≤ r) && decide (r ≤ hi)) = false := by simp; omega
        rw [e]
        go_enter Try.func24, Try.ntmps24
        go_wp2_with fail
        refine (implChart_any v zs _ h).mono ?_
        rw [h1]
        rintro e w1 ⟨rfl, hb⟩
        go_wp2
        go_ret
        exact ⟨rfl, hb⟩
      · have e : (decide (lo ≤ r) && decide (r ≤ hi)) = true := by simp; omega
        rw [e]
        go_enter Try.func24, Try.ntmps24
        go_wp2_with fail
        refine (implChart_any v zs _ h).mono ?_
        rw [h1]
        rintro e w1 ⟨rfl, hb⟩
        go_wp2
        go_ret
        exact ⟨rfl, hb⟩

/-- The step k. -/
def atP (zs : List (Int × Int)) (k : Nat) : Int × Int := zs.getD k (0, 0)

theorem atP_is (zs : List (Int × Int)) (k : Nat) (h : k < zs.length) : atP zs k = zs[k] := by simp [atP, h]

theorem rd_at {w : World} {A : Option Addr} {n c : Nat} {zs : List (Int × Int)} (h : RdP w (.slice A n c) zs) (k : Nat) (hk : k < zs.length) :
    n = zs.length ∧ ∃ b off, A = some ⟨b, off, none⟩ ∧ b < w.heap.size ∧ w.cell? ⟨b, off + k * 2, none⟩ = some (.int .i64 (atP zs k).1) ∧ w.cell? ⟨b, off + k * 2 + 1, none⟩ = some (.int .i64 (atP zs k).2) := by
  obtain ⟨A', c', e, hl, r1⟩ := RdP_slice h
  obtain ⟨b, off, rfl, hb, h0, h1⟩ := r1 k hk
  simp only [Value.slice.injEq] at e
  refine ⟨e.2.1, b, off, e.1, hb, ?_, ?_⟩
  · rw [atP_is zs k hk]; exact h0
  · rw [atP_is zs k hk]; exact h1

theorem code_ok {zs : List (Int × Int)} {r lo hi : Int} (h : codeL zs r lo hi = 0) : ChartP zs ∧ lo ≤ r ∧ r ≤ hi := by
  rcases codeL_cases zs r lo hi with h1 | h1 | h1
  · exact h1.2
  · omega
  · omega

theorem flatP_snoc (zs : List (Int × Int)) (p q : Int) : flatP zs ++ [.int .i64 p, .int .i64 q] = flatP (zs ++ [(p, q)]) := by simp [flatP, encP]

theorem below_drew {B : Nat} {a w : World} (h : Below B a w) : Below B a w.drew := { os := h.os, tape := h.tape, output := h.output, size := h.size, block := h.block }

theorem row_lower {w : World} {lo lo' : Nat} {e : TypeId} {size : Nat} {v : Value} {n : Nat} {xs : List Value} (h : w.ownsRow lo e size v n xs) (hl : lo' ≤ lo) : w.ownsRow lo' e size v n xs := by
  refine ⟨h.1, ?_⟩
  rcases h.2 with h2 | ⟨g, cap, cur, hv, hg, r⟩
  · exact Or.inl h2
  · exact Or.inr ⟨g, cap, cur, hv, by omega, r⟩

theorem map_step {α β : Type} (F : α → β) (zs : List α) (z : β) (j : Nat) (h : j < zs.length) : ((zs.map F).take j ++ List.replicate (zs.length - j) z).set j (F zs[j]) = (zs.map F).take (j + 1) ++ List.replicate (zs.length - (j + 1)) z := by
  have := fill_step (zs.map F) z j (by simpa using h)
  simp only [List.length_map, List.getElem_map] at this
  exact this

theorem keep_store (wr : World) (a i j bp : Nat) (x y p u v : Value) (h2 : ¬ a = bp) (h3 : bp < wr.heap.size) (hcp : wr.cell? ⟨bp, 0, none⟩ = some p) :
    (((wr.setCell ⟨a, i, none⟩ u).setCell ⟨a, j, none⟩ v).alloc (.cells #[x, y] 39)).drew.cell? ⟨wr.heap.size, 0, none⟩ = some x ∧
    (((wr.setCell ⟨a, i, none⟩ u).setCell ⟨a, j, none⟩ v).alloc (.cells #[x, y] 39)).drew.cell? ⟨wr.heap.size, 1, none⟩ = some y ∧
    (((wr.setCell ⟨a, i, none⟩ u).setCell ⟨a, j, none⟩ v).alloc (.cells #[x, y] 39)).drew.cell? ⟨bp, 0, none⟩ = some p := by
  refine ⟨?_, ?_, ?_⟩
  · show World.cell? (World.alloc _ _) _ = _
    simp [World.cell?_alloc_at]
  · show World.cell? (World.alloc _ _) _ = _
    simp [World.cell?_alloc_at]
  · show World.cell? (World.alloc _ _) _ = _
    simp [World.cell?_alloc_past, World.cell?_setCell_far, h2, h3, hcp]

theorem max_any (a b : Int) (w : World) :
    Calls Try.prog 20 #[.int .i64 a, .int .i64 b] w fun e w' => e = .returned (.int .i64 (max a b)) ∧ w = w' := by
  by_cases h : b < a
  · rw [show max a b = a by omega]
    go_enter Try.func20, Try.ntmps20
    go_wp2
    go_ret
    exact ⟨rfl, rfl⟩
  · rw [show max a b = b by omega]
    go_enter Try.func20, Try.ntmps20
    go_wp2
    go_ret
    exact ⟨rfl, rfl⟩

/-- Each load less a weight. -/
def lessZ (p : Int) (z : Int × Int) : Int × Int := (z.1, max 0 (z.2 - p))

noncomputable def lessL (zs : List (Int × Int)) (p : Int) : List (Int × Int) × Int :=
  if codeL zs p 0 50000 = 0 then (zs.map (lessZ p), 0) else ([], codeL zs p 0 50000)

theorem specLess_any (v : Value) (zs : List (Int × Int)) (p : Int) (w : World) (h : RdP w v zs) :
    Calls Try.prog 7 #[v, .int .i64 p] w fun e w' => ∃ v', e = .returned (.tuple #[v', .int .i64 (lessL zs p).2]) ∧ RowF 39 2 w' w.heap.size w'.heap.size v' (lessL zs p).1.length (flatP (lessL zs p).1) ∧ Below w.heap.size w w' := by
  have HC := Lib.hid (specChart_any v zs w h)
  obtain ⟨A, c, rfl, hl, _⟩ := RdP_slice h
  have H := Lib.hid h; clear h
  by_cases hch : ChartP zs
  · have hcb := chartB_true hch
    rw [hcb] at HC
    cases hin : inB p 0 50000
    · rw [show lessL zs p = ([], 2) by simp [lessL, codeL, hcb, hin]]
      clear hcb hch
      go_enter Try.func7, Try.ntmps7
      go_wp2_with fail
      refine HC.out.mono ?_
      rintro e w1 ⟨rfl, hb⟩
      go_wp2_with (go_at_call 19; refine (in_any _ _ _ _).mono ?_; rintro e w1 ⟨rfl, rfl⟩)
      go_ret2
      exact ⟨_, rfl, RowF_nil _ _ _ _ _, hb⟩
    · rw [show lessL zs p = (zs.map (lessZ p), 0) by simp [lessL, codeL, hcb, hin]]
      have hp := inB_true hin
      have hn := hch.2
      have Hat := Lib.hid (fun (k : Nat) (hk : k < zs.length) => hch.1 k hk hk)
      clear hcb hch
      go_enter Try.func7, Try.ntmps7
      go_wp2_with fail
      refine HC.out.mono ?_
      rintro e w1 ⟨rfl, hb⟩
      have hsz1 := hb.size
      go_wp2_with (go_at_call 19; refine (in_any _ _ _ _).mono ?_; rintro e w1 ⟨rfl, rfl⟩)
      go_loopw [6, 7] (fun o i wr => ∃ (k : Nat) (ov : Value), k ≤ zs.length ∧ i = .int .i64 k ∧ ov = o ∧ RowF 39 2 wr w.heap.size wr.heap.size ov ((zs.take k).map (lessZ p)).length (flatP ((zs.take k).map (lessZ p))) ∧ Below w.heap.size w wr) (fun _ i _ => zs.length - (intOf i).toNat)
      case atStart =>
        refine ⟨0, _, by omega, rfl, rfl, ⟨World.ownsRow_lit _ #[] 0 hsz1 (by decide) (by rfl), fun g hg => by simp [Value.ownBlock] at hg; subst hg; simp; omega⟩, by go_grown⟩
      case round =>
        obtain ⟨k, ov, hk, rfl, ho, hrow, hb⟩ := hrel
        subst ho
        have hsz := hb.size
        by_cases hlt : k < zs.length
        · obtain ⟨_, b, off, rfl, hbl, hc0, hc1⟩ := rd_at H.out k hlt
          rw [atP_is zs k hlt] at hc0 hc1
          rw [← kept_cell hb b _ hbl] at hc0 hc1
          have hne : ∀ j, (⟨b, j, none⟩ : Addr).block < wr.heap.size + 1 ∧ some (⟨b, j, none⟩ : Addr).block ≠ ov.ownBlock := fun j => ⟨by simp; omega, fun e => by have := (hrow.2 b e.symm).1; omega⟩
          have hat := (Hat.out k hlt).1
          have hnext : (zs.take k).map (lessZ p) ++ [(zs[k].1, max 0 (zs[k].2 - p))] = (zs.take (k + 1)).map (lessZ p) := by
            rw [← List.take_append_getElem hlt, List.map_append]
            rfl
          have hlen : ((zs.take k).map (lessZ p)).length = k := by simp; omega
          have Hnext := Lib.hid hnext; clear hnext
          have hul : ((zs.take k).map (lessZ p)).length ≤ 20 := by omega
          have Hlen := Lib.hid hlen; clear hlen
          generalize (zs.take k).map (lessZ p) = us at *
          generalize zs[k].1 = x at *
          generalize zs[k].2 = y at *
          have hw1 : IntKind.i64.wrap (y - p) = y - p := IntWalk.i64_in _ (by omega)
          go_wp2_with fail
          obtain ⟨i0, hi0, hz0, hz1, hz2⟩ := info_parts info_step
          go_region_held3 (fun w' => w'.cell? ⟨b, off + k * 2, none⟩ = some (.int .i64 x) ∧ w'.cell? ⟨b, off + k * 2 + 1, none⟩ = some (.int .i64 y)) (first | go_keep | (refine ⟨?_, ?_⟩ <;> (rw [hgrow.cell_far _ (by simp; exact (hne 0).1) (hne 0).2]; simp [World.cell?_alloc_past, *]; done)))
            (first | (go_at_call 20; refine (max_any _ _ _).mono ?_; rintro e w2 ⟨rfl, rfl⟩) | (refine step_append_lies _ (by rfl) _ _ _ (by rfl) w.heap.size 39 i0 _ 2 16 Try.underlying24 hi0 hz0 hz1 hz2 rfl (by omega) _ us.length (flatP us) (by rfl) (by exact (hrow.1.alloc _).drew) ⟨wr.heap.size, 0, none⟩ 1 1 [.int .i64 x, .int .i64 (max 0 (y - p))] (by rfl) (by rfl) (World.news_of_block (cs := #[.int .i64 x, .int .i64 (max 0 (y - p))]) (t := 39) (fr := (0, 0)) (heap_alloc_new wr _)) (by simp [Value.oneCell']) (by omega) (by unfold maxLen; omega) (by omega) (by simp; omega) (wr.heap.size + 1) (by simp) ?_; intro g cap w2 hown2 hgrow hat hlt2))
          go_wp2
          go_roundw
          case rel => exact ⟨k + 1, _, by omega, by go_num, rfl, by rw [← Hnext.out, ← flatP_snoc, List.length_append]; exact ⟨hown2, fun g' hg' => by simp [Value.ownBlock] at hg'; subst hg'; exact ⟨(hown2.lt _ rfl).1, hlt2⟩⟩, grown_below (kept_trans hb (by go_grown)) hgrow (fun g' hg' => (hrow.2 g' hg').1)⟩
          case measure => simp [intOf]; omega
        · have : k = zs.length := by omega
          subst this
          rw [List.take_of_length_le (Nat.le_refl _)] at hrow
          have Hrow := Lib.hid hrow; clear hrow
          go_wp2
          go_ret2
          exact ⟨_, rfl, Hrow.out, hb⟩
  · have hcb := chartB_false hch
    rw [hcb] at HC
    rw [show lessL zs p = ([], 1) by simp [lessL, codeL, hcb]]
    clear hcb hch
    go_enter Try.func7, Try.ntmps7
    go_wp2_with fail
    refine HC.out.mono ?_
    rintro e w1 ⟨rfl, hb⟩
    go_wp2
    go_ret2
    exact ⟨_, rfl, RowF_nil _ _ _ _ _, hb⟩

theorem lessClosure_any (y p : Int) (b : Nat) (w : World) (hy : 0 ≤ y ∧ y ≤ 50000) (hp : 0 ≤ p ∧ p ≤ 50000) (hc : w.cell? ⟨b, 0, none⟩ = some (.int .i64 p)) :
    Calls Try.prog 26 #[.int .i64 y, .pointer (some ⟨b, 0, none⟩)] w fun e w' => e = .returned (.int .i64 (max 0 (y - p))) ∧ w = w' := by
  by_cases hlt : y < p
  · rw [show max 0 (y - p) = 0 by omega]
    go_enter Try.func26, Try.ntmps26
    go_wp2
    go_ret
    exact ⟨rfl, rfl⟩
  · rw [show max 0 (y - p) = y - p by omega]
    go_enter Try.func26, Try.ntmps26
    go_wp2
    all_goals
      go_ret
      exact ⟨by first | rfl | (simp; omega), rfl⟩

theorem changedLess_any (v : Value) (zs : List (Int × Int)) (p : Int) (bp : Nat) (w : World) (h : RdP w v zs) (hc : ChartP zs) (hp : 0 ≤ p ∧ p ≤ 50000) (hbp : bp < w.heap.size) (hcell : w.cell? ⟨bp, 0, none⟩ = some (.int .i64 p)) :
    Calls Try.prog 25 #[v, .func (.func 26) #[] #[.pointer (some ⟨bp, 0, none⟩)]] w fun e w' => ∃ v', e = .returned v' ∧ RowF 39 2 w' w.heap.size w'.heap.size v' (zs.map (lessZ p)).length (flatP (zs.map (lessZ p))) ∧ Below w.heap.size w w' := by
  obtain ⟨A, c, rfl, hl, _⟩ := RdP_slice h
  have H := Lib.hid h; clear h
  have hn := hc.2
  have Hat := Lib.hid (fun (k : Nat) (hk : k < zs.length) => hc.1 k hk hk)
  clear hc
  have hT : (zs.map (lessZ p)).length = zs.length := by simp
  have Hstep := Lib.hid (fun (j : Nat) (h : j < zs.length) => map_step (lessZ p) zs ((0 : Int), (0 : Int)) j h)
  have Hend := Lib.hid (show (zs.map (lessZ p)).take zs.length = zs.map (lessZ p) from List.take_of_length_le (by omega))
  have HTl := Lib.hid hT
  generalize zs.map (lessZ p) = T at *
  have hmk := make_steps zs.length (by omega)
  have Hrow0 := Lib.hid (fun (wa : World) => by
    have := World.ownsRow_lit wa (base := wa.heap.size) (e := 39) (size := 2) (madeCells #[.int .i64 0, .int .i64 0] (zs.length * 2)) zs.length (Nat.le_refl _) (by unfold maxLen; omega) (size_madeCells _ _)
    rw [made_flat] at this
    exact this)
  clear hT
  go_enter Try.func25, Try.ntmps25
  go_wp2_with fail
  go_loopw [13] (fun i wr => ∃ k : Nat, k ≤ zs.length ∧ i = .int .i64 k ∧ wr.ownsRow w.heap.size 39 2 (.slice (some ⟨w.heap.size, 0, none⟩) zs.length zs.length) zs.length (flatP (T.take k ++ List.replicate (zs.length - k) (0, 0))) ∧ w.heap.size < wr.heap.size ∧ Below w.heap.size w wr) (fun i _ => zs.length - (intOf i).toNat)
  case atStart => exact ⟨0, by omega, rfl, by simpa using Hrow0.out w, by simp, by go_grown⟩
  case round =>
    obtain ⟨k, hk, rfl, hown, hlw, hb⟩ := hrel
    by_cases hlt : k < zs.length
    · obtain ⟨_, b, off, rfl, hbl, hc0, hc1⟩ := rd_at H.out k hlt
      rw [atP_is zs k hlt] at hc0 hc1
      rw [← kept_cell hb b _ hbl] at hc0 hc1
      have hcp := hcell
      rw [← kept_cell hb bp _ hbp] at hcp
      have hat := (Hat.out k hlt).1
      have hlen : (flatP (T.take k ++ List.replicate (zs.length - k) (0, 0))).length = zs.length * 2 := hown.1
      obtain ⟨u0, hu0⟩ : ∃ u, wr.cell? ⟨w.heap.size, k * 2, none⟩ = some u := by
        rw [hown.cellAt _ (by omega)]
        exact ⟨_, List.getElem?_eq_getElem (by omega)⟩
      obtain ⟨u1, hu1⟩ : ∃ u, wr.cell? ⟨w.heap.size, k * 2 + 1, none⟩ = some u := by
        rw [hown.cellAt _ (by omega)]
        exact ⟨_, List.getElem?_eq_getElem (by omega)⟩
      have hz0 := hown.frozenAt (k * 2)
      have hz1 := hown.frozenAt (k * 2 + 1)
      have hnext := Hstep.out k hlt
      simp only [lessZ] at hnext
      have hF : lessZ p zs[k] = (zs[k].1, max 0 (zs[k].2 - p)) := rfl
      clear hF
      have Hown := Lib.hid hown; clear hown
      have Hnext := Lib.hid hnext; clear hnext
      generalize zs[k].1 = x at *
      generalize zs[k].2 = y at *
      have Hcl := Lib.hid (fun (u : World) (hu : u.cell? ⟨bp, 0, none⟩ = some (.int .i64 p)) => lessClosure_any y p bp u (by omega) hp hu)
      have hne1 : ¬ w.heap.size = wr.heap.size := by omega
      have hne2 : ¬ w.heap.size = bp := by omega
      have hlt2 : bp < wr.heap.size := by omega
      go_wp2_with fail
      go_region_held3 (fun w' => w'.cell? ⟨wr.heap.size, 0, none⟩ = some (.int .i64 x) ∧ w'.cell? ⟨wr.heap.size, 1, none⟩ = some (.int .i64 y) ∧ w'.cell? ⟨bp, 0, none⟩ = some (.int .i64 p)) (first | (go_keep; done) | exact keep_store wr w.heap.size _ _ bp _ _ _ _ _ hne2 hlt2 hcp)
        ((go_at_call 26; refine (Hcl.out _ (by simp [World.cell?_alloc_past, *])).mono ?_; rintro e w1 ⟨rfl, rfl⟩))
      have hs0 := Hown.out.stored (k * 2) (.int .i64 x)
      have hs1 := hs0.1.stored (k * 2 + 1) (.int .i64 (max 0 (y - p)))
      rw [flatP_set, Hnext.out] at hs1
      have hgr := grown_below hb (grown_step hs0.2 hs1.2) (fun g hg => by simp at hg; omega)
      have Hs := Lib.hid (hs1.1.alloc (.cells #[.int .i64 x, .int .i64 y] 39))
      have Hg := Lib.hid (hgr.alloc hgr.size (.cells #[.int .i64 x, .int .i64 y] 39))
      clear hs0 hs1 hgr
      go_wp2
      go_roundw
      case rel => exact ⟨k + 1, by omega, by go_num, Hs.out, by simp; omega, below_drew Hg.out⟩
      case measure => simp [intOf]; omega
    · have : k = zs.length := by omega
      subst this
      rw [Hend.out, Nat.sub_self] at hown
      have Hown := Lib.hid hown; clear hown
      go_wp2
      go_ret
      exact ⟨_, rfl, ⟨by rw [HTl.out]; simpa using Hown.out, fun g hg => by simp [Value.ownBlock] at hg; subst hg; exact ⟨Nat.le_refl _, hlw⟩⟩, hb⟩

theorem implLess_any (v : Value) (zs : List (Int × Int)) (p : Int) (w : World) (h : RdP w v zs) :
    Calls Try.prog 9 #[v, .int .i64 p] w fun e w' => ∃ v', e = .returned (.tuple #[v', .int .i64 (lessL zs p).2]) ∧ RowF 39 2 w' w.heap.size w'.heap.size v' (lessL zs p).1.length (flatP (lessL zs p).1) ∧ Below w.heap.size w w' := by
  have Hcode := Lib.hid (fun (u : World) (h : RdP u v zs) => implCode_any v zs p 0 50000 u h)
  have H := Lib.hid h; clear h
  have hmf : ∀ (fn : Fn) (first cap : Array Value) (w : World), (Instr.makeFunc fn first cap).run Try.prog w = .ok (.func fn first cap) w := fun _ _ _ _ => rfl
  by_cases hc : codeL zs p 0 50000 = 0
  · rw [hc] at Hcode
    have hk := code_ok hc
    rw [show lessL zs p = (zs.map (lessZ p), 0) by simp [lessL, hc]]
    have Hch := Lib.hid (fun (b : Nat) (u : World) (h : RdP u v zs) => changedLess_any v zs p b u h hk.1 hk.2)
    clear hc hk
    generalize zs.map (lessZ p) = T at *
    go_enter Try.func9, Try.ntmps9
    go_wp2_with fail
    refine (Hcode.out _ (RdP_kept H.out (by go_grown))).mono ?_
    rintro e w1 ⟨rfl, hb⟩
    refine kept_at hb w.heap.size (by go_size) fun c0 z0 s0 => ?_
    have e0 := c0 0
    simp at e0
    clear c0
    replace hb := kept_trans (a := w) (by go_grown) hb
    go_wp2_with fail
    refine (Hch.out w.heap.size _ (RdP_kept H.out hb) s0 e0).mono ?_
    rintro e w2 ⟨v', rfl, hr, hb2⟩
    have hs := hb.size
    go_wp2
    go_ret2
    exact ⟨_, rfl, ⟨row_lower hr.1 hs, fun g hg => ⟨by have := (hr.2 g hg).1; omega, (hr.2 g hg).2⟩⟩, kept_trans hb hb2⟩
  · have hc2 : (codeL zs p 0 50000 != 0) = true := by simpa using hc
    rw [show lessL zs p = ([], codeL zs p 0 50000) by simp [lessL, hc]]
    generalize codeL zs p 0 50000 = k at *
    go_enter Try.func9, Try.ntmps9
    go_wp2_with fail
    refine (Hcode.out _ (RdP_kept H.out (by go_grown))).mono ?_
    rintro e w1 ⟨rfl, hb⟩
    go_wp2
    go_ret2
    exact ⟨_, rfl, RowF_nil _ _ _ _ _, kept_trans (a := w) (by go_grown) hb⟩

theorem lessL_len (zs : List (Int × Int)) (p : Int) : (lessL zs p).1.length ≤ 4000000 := by
  unfold lessL
  split
  · next h =>
    have := (code_ok h).1.2
    simp
    omega
  · simp

theorem walk_FnExactLessWeight (w : World) (v0 : Value) (zs0 : List (Int × Int)) (h0 : RdP w v0 zs0) (wf0 : ∀ z ∈ zs0, (Lit.int .i64 z.1).wf = true ∧ (Lit.int .i64 z.2).wf = true) (a1 : Int) (w1 : (Lit.int .i64 a1).wf = true) :
    Calls Try.prog 3 #[v0, .int .i64 a1] w fun e w' => e = .returned (.bool true) ∧ Below w.heap.size w w' := by
  obtain ⟨A0, c0, rfl, l0, _⟩ := RdP_slice h0
  have H0 := Lib.hid h0; clear h0 wf0
  have hS := fun (x0 : Value) (u : World) (q0 : RdP u x0 zs0) => specLess_any x0 zs0 a1 u q0
  have hI := fun (x0 : Value) (u : World) (q0 : RdP u x0 zs0) => implLess_any x0 zs0 a1 u q0
  have hlen : (lessL zs0 a1).1.length ≤ 4000000 := lessL_len zs0 a1
  generalize lessL zs0 a1 = F at hS hI hlen
  have HS := Lib.hid hS; clear hS
  have HI := Lib.hid hI; clear hI
  by_cases n1 : zs0.length ≤ 1000000
  case neg =>
    go_enter Try.func3, Try.ntmps3
    go_wp2_with fail
    refine (szC_over _ _ _ _ (by omega) l0 (by omega) _).mono ?_
    rintro e w' ⟨rfl, rfl⟩
    go_wp2
    go_ret
    exact ⟨rfl, Below.refl _ _⟩
  go_enter Try.func3, Try.ntmps3
  go_wp2_with fail
  refine (szC_fit _ _ _ _ (by omega) _).mono ?_
  rintro e w' ⟨rfl, rfl⟩
  go_wp2_with fail
  refine (toC_false _ zs0 _ H0.out (by omega)).mono ?_
  rintro e w101 ⟨s0, rfl, ks0, b1⟩
  have z1 := b1.size
  go_wp2_with fail
  refine (HS.out s0 _ (CopyC_rd ks0)).mono ?_
  rintro e w102 ⟨vW, rfl, rW, b2⟩
  have z2 := b2.size
  replace ks0 := CopyC_kept ks0 b2
  replace b2 := kept_trans b1 b2
  go_wp2_with fail
  refine (toC_false _ zs0 _ (RdP_kept H0.out b2) (by omega)).mono ?_
  rintro e w103 ⟨x0, rfl, kx0, b3⟩
  have z3 := b3.size
  replace rW := RowF_kept rW b3
  replace b3 := kept_trans b2 b3
  go_wp2_with fail
  refine (HI.out x0 _ (CopyC_rd kx0)).mono ?_
  rintro e w104 ⟨vG, rfl, rG, b4⟩
  have z4 := b4.size
  replace rW := RowF_kept rW b4
  replace kx0 := CopyC_kept kx0 b4
  replace b4 := kept_trans b3 b4
  go_wp2_with fail
  refine (eqC_same _ _ _ _ (RowF_rd rG) (RowF_rd rW)).mono ?_
  rintro e w105 ⟨rfl, b5⟩
  have z5 := b5.size
  replace rW := RowF_kept rW b5
  replace kx0 := CopyC_kept kx0 b5
  replace rG := RowF_kept rG b5
  replace b5 := kept_trans b4 b5
  go_wp2_with fail
  refine (toC_false _ zs0 _ (RdP_kept H0.out b5) (by omega)).mono ?_
  rintro e w106 ⟨y0, rfl, ky0, b6⟩
  have z6 := b6.size
  replace rW := RowF_kept rW b6
  replace kx0 := CopyC_kept kx0 b6
  replace rG := RowF_kept rG b6
  replace b6 := kept_trans b5 b6
  go_wp2_with fail
  refine (intactC_same _ _ zs0 _ _ _ _ _ kx0 ky0).mono ?_
  rintro e w107 ⟨rfl, b7⟩
  have z7 := b7.size
  replace rW := RowF_kept rW b7
  replace kx0 := CopyC_kept kx0 b7
  replace rG := RowF_kept rG b7
  replace ky0 := CopyC_kept ky0 b7
  replace b7 := kept_trans b6 b7
  have hbase : w.heap.size ≤ w101.heap.size := z1
  have rx0 := CopyC_row kx0
  clear kx0
  go_wp2_with fail
  refine (markC_any _ _ _ _ 101 _ rx0 (by omega) (by omega)).mono ?_
  rintro e w108 ⟨rfl, mrx0, g8⟩
  have z8 := g8.size
  replace rW := RowF_far rW g8 (fun g hg => by have := (rx0).2 g hg; omega)
  replace rG := RowF_far rG g8 (fun g hg => by have := (rx0).2 g hg; omega)
  have b8 := grown_below b7 g8 (fun g hg => by have := (rx0).2 g hg; omega)
  clear rx0
  go_wp2_with fail
  refine (eqC_same _ _ _ _ (RowF_rd rG) (RowF_rd rW)).mono ?_
  rintro e w109 ⟨rfl, b9⟩
  have z9 := b9.size
  replace rW := RowF_kept rW b9
  replace rG := RowF_kept rG b9
  replace b9 := kept_trans b8 b9
  go_wp2_with fail
  refine (markC_any _ _ _ _ 101 _ rG (by omega) (by omega)).mono ?_
  rintro e w110 ⟨rfl, mrG, g10⟩
  have z10 := g10.size
  replace rW := RowF_far rW g10 (fun g hg => by have := (rG).2 g hg; omega)
  have b10 := grown_below b9 g10 (fun g hg => by have := (rG).2 g hg; omega)
  clear rG
  go_wp2_with fail
  refine (heldC_same _ _ 101 _ (RowF_rd mrG) (by omega) (by omega)).mono ?_
  rintro e w' ⟨rfl, rfl⟩
  go_wp2_with fail
  refine (toC_true _ zs0 _ (RdP_kept H0.out b10) (by omega)).mono ?_
  rintro e w111 ⟨t0, rfl, kt0, b11⟩
  have z11 := b11.size
  replace rW := RowF_kept rW b11
  replace mrG := RowF_kept mrG b11
  replace b11 := kept_trans b10 b11
  go_wp2_with fail
  refine (HI.out t0 _ kt0).mono ?_
  rintro e w112 ⟨vH, rfl, rH, b12⟩
  have z12 := b12.size
  replace rW := RowF_kept rW b12
  replace mrG := RowF_kept mrG b12
  replace kt0 := RdP_kept kt0 b12
  replace b12 := kept_trans b11 b12
  go_wp2_with fail
  refine (eqC_same _ _ _ _ (RowF_rd rH) (RowF_rd rW)).mono ?_
  rintro e w113 ⟨rfl, b13⟩
  have z13 := b13.size
  replace rW := RowF_kept rW b13
  replace mrG := RowF_kept mrG b13
  replace rH := RowF_kept rH b13
  replace b13 := kept_trans b12 b13
  go_wp2_with fail
  refine (heldC_same _ _ 101 _ (RowF_rd mrG) (by omega) (by omega)).mono ?_
  rintro e w' ⟨rfl, rfl⟩
  go_wp2
  go_ret
  exact ⟨rfl, b13⟩

end Go.Proofs.Ytapnihkgalbddab
namespace Go.Proofs.Ytapnihkgalbddab.fnExactLessWeight
open Go.ChangeShapes Go.WideShapes Go.ChangeAt Go.RowKit
set_option linter.unusedVariables false
set_option linter.unusedSimpArgs false
open Go.Joins Go.ChangeMaps
set_option maxRecDepth 100000 in
theorem lifted (os : Os) (started : os.Started) (H : Type) (enc : TypeId × Value → H) :
    ReturnsInHanded {} Try.checked os 3 .any (Rows.fnExactLessWeightSpec.pre6 enc Try.prog Try.f3 Rows.fnExactLessWeightRow.domain false) (Rows.fnExactLessWeightSpec.post enc Try.prog Try.f3 false true false false) := by
  refine returnsInHanded_of_change (C := Try.checked) (show ownKnob Try.prog.godebug = none by kernel_rfl) started (by kernel_rfl) Try.func3
    (ChangeSpec.witness6 (enc := enc) (C := Try.checked) false ⟨#[], #[.slice none 0 0, .int .i64 0], []⟩ 8 (by kernel_rfl) (by kernel_rfl) (by kernel_rfl) (by kernel_rfl)) ?_
  intro W base args ds gs before hval0 hW hcnd _
  have hval : ∀ (j : Nat) t v, Try.f3.params[j]? = some t → args[j]? = some v → Value.okWide Try.prog W .any base t v := hval0
  have hW' := hW
  obtain ⟨p, q, hA0, hV, rfl, hfz, hnd⟩ := hW
  have hA : DataW.TrodAll enc Try.prog W 0 (fun _ => true) true Try.f3.params.toList args.toList ds p := hA0
  rw [Try.params3] at hA hval
  obtain ⟨v0, vs0, d0, ds0, p0, q0, hargs, rfl, rfl, h0, r0⟩ := trodAll_cons hA
  obtain ⟨v1, vs1, d1, ds1, p1, q1, rfl, rfl, rfl, h1, r1⟩ := trodAll_cons r0
  obtain ⟨rfl, rfl, rfl⟩ := trodAll_nil r1
  obtain rfl : args = #[v0, v1] := by cases args; simp_all
  obtain ⟨rfl, rfl⟩ := trodVars_none hV
  obtain ⟨zs0, hr0, wf0⟩ := open_pairs Try.underlying22 Try.underlying43 Try.underlying2 Try.underlying2 (by kernel_rfl) rfl rfl (by kernel_rfl) (by kernel_rfl) (hval 0 22 v0 rfl rfl) h0
  obtain ⟨a1, rfl, rfl, rfl, w1⟩ := open_int Try.underlying2 (hval 1 2 v1 rfl rfl) h1
  clear hA0 hval0
  refine (walk_FnExactLessWeight (w := W) _ zs0 hr0 wf0 a1 w1).mono fun e W' ⟨he, hb⟩ => ?_
  subst he
  exact ⟨_, rfl, law_post (B := 4) (by kernel_rfl) (by kernel_rfl) rfl Try.underlying4 rfl hW' rfl hb⟩

/-- The statement: for every input the law returns true, and the arguments read afterwards as before. -/
theorem proved : Rows.FnExactLessWeightSaid :=
  OpenClaim.holds_of_wide 3 Try.f3 rfl rfl rfl rfl rfl rfl rfl ⟨rfl, rfl, rfl, rfl, rfl⟩ rfl rfl rfl rfl rfl (by kernel_rfl) Try.func3 (by kernel_rfl)
    (of_decide_eq_true (by kernel_rfl)) (by unfold Func.isWrapper; first | (rw [if_pos (by decide +kernel)]; kernel_rfl) | (rw [if_neg (by decide +kernel)]; exact ⟨rfl, rfl⟩))
    (fun os started H enc _ => lifted os started H enc)
end Go.Proofs.Ytapnihkgalbddab.fnExactLessWeight
