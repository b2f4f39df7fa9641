/- Proved: for every input the law FnExactSafeChart returns true, and each argument reads afterwards as it read before; no condition beside those of the given row. -/
import Derived.Test.YtjdppjcmelflbabRows
import Derived.WalkKit
import Derived.ProofKit
import Derived.OpenShut
import Derived.Lib.Hide
import Derived.Handy
import Derived.BigQuiet
import Derived.Carry
import Derived.Deep.QuietTactic
import Derived.Deep.RegionHeld3
import Derived.Deep.SlicePairs
import Derived.Laws.ResultCell
import Derived.Lib.SmallJoins
import Derived.OwnWalk
import Derived.Shelf.Abstract
import Derived.Lib.SmallJoins
import Derived.ChangeMaps5
namespace Go.Proofs.Ytjdppjcmelflbab
open Go.ChangeShapes Go.WideShapes Go.ChangeAt Go.RowKit
set_option linter.unusedVariables false
set_option linter.unusedSimpArgs false

theorem tmod_pos (n k : Int) (h : 0 ≤ n) : n.tmod k = n % k := Int.tmod_eq_emod_of_nonneg h

theorem trodAll_stay {H : Type} {enc : TypeId × Value → H} {P : Program} (hl : laidOutB P = true) {W W' : World} (hb : Below W.heap.size W W') :
    ∀ (ts : List TypeId) (vs : List Value) (ds : List (DataW H)) (ps : List MemPlace), ts.all (fun t => P.readableRec t && decide (t < P.types.size)) = true →
      DataW.TrodAll enc P W 0 (fun _ => true) true ts vs ds ps → (∀ x ∈ ps, x.block < W.heap.size) →
      DataW.TrodAll enc P W' 0 (fun b => decide (b < W.heap.size)) true ts vs ds ps := by
  intro ts
  induction ts with
  | nil => intro vs ds ps _ h _; obtain ⟨rfl, rfl, rfl⟩ := trodAll_nil h; exact rfl
  | cons t ts ih =>
    intro vs ds ps hr h hlt
    simp only [List.all_cons, Bool.and_eq_true, decide_eq_true_eq] at hr
    obtain ⟨v, vs', d, ds', p, q, rfl, rfl, rfl, h0, h1⟩ := trodAll_cons h
    exact ⟨p, q, Below.trod hl hr.1.1 hr.1.2 h0 hb (fun x hx => hlt x (by simp [hx])), ih _ _ _ hr.2 h1 (fun x hx => hlt x (by simp [hx])), rfl⟩

/-- A law's row at its end: it returned true, and of what was there nothing has turned. -/
theorem law_post {H : Type} {enc : TypeId × Value → H} {P : Program} {f : Func} {s : ChangeSpec} {W W' : World} {args : Array Value} {ds gs : List (DataW H)} {before : List MemPlace} {B : TypeId}
    (hl : laidOutB P = true) (hr : f.params.toList.all (fun t => P.readableRec t && decide (t < P.types.size)) = true)
    (hres : f.resultTypes = #[B]) (hB : P.underlying B = some .bool) (hv : s.vars = [])
    (hW : DataW.Whole enc P f.params.toList s.vars false W args.toList ds gs before)
    (hfn : s.fn H (ds ++ gs) = { results := [.lit (.bool true)], args := ds }) (hb : Below W.heap.size W W') :
    s.post enc P f false true false false W args (.bool true) W' := by
  have hlt : ∀ p ∈ before, p.block < W.heap.size := fun p hp => hW.lt p hp
  have hW' := hW
  obtain ⟨p, q, hA, hV, rfl, _, _⟩ := hW'
  rw [hv] at hV
  obtain ⟨rfl, rfl⟩ := trodVars_none hV
  refine ⟨ds, [], p ++ [], [], p, [], hW, ?_, ?_, ?_, hb.frame _, fun h => by cases h⟩
  · rw [hfn, hres]
    exact trodAll_cons_mk (shut_bool hB _) trodAll_mk0
  · rw [hfn]
    exact trodAll_stay hl hb _ _ _ _ hr hA (fun x hx => hlt x (by simp [hx]))
  · rw [hfn, hv]
    exact rfl

theorem kept_cell {W w1 : World} (hb : Below W.heap.size W w1) (b o : Nat) (h : b < W.heap.size) : w1.cell? ⟨b, o, none⟩ = W.cell? ⟨b, o, none⟩ := hb.cell (p := ⟨b, o, none⟩) h

theorem kept_frozen {W w1 : World} (hb : Below W.heap.size W w1) (b o : Nat) (h : b < W.heap.size) : w1.frozen? ⟨b, o, none⟩ = W.frozen? ⟨b, o, none⟩ := hb.frozen (p := ⟨b, o, none⟩) h

theorem kept {W w1 : World} (hb : Below W.heap.size W w1) :
    (∀ b o, b < W.heap.size → w1.cell? ⟨b, o, none⟩ = W.cell? ⟨b, o, none⟩) ∧ (∀ b o, b < W.heap.size → w1.frozen? ⟨b, o, none⟩ = W.frozen? ⟨b, o, none⟩) ∧ W.heap.size ≤ w1.heap.size :=
  ⟨kept_cell hb, kept_frozen hb, hb.size⟩

theorem kept_trans {a b c : World} (h : Below a.heap.size a b) (k : Below b.heap.size b c) : Below a.heap.size a c := h.trans (k.mono h.size)

theorem kept_at {W w1 : World} (hb : Below W.heap.size W w1) (b : Nat) {G : Prop} (h : b < W.heap.size)
    (k : (∀ o, w1.cell? ⟨b, o, none⟩ = W.cell? ⟨b, o, none⟩) → (∀ o, w1.frozen? ⟨b, o, none⟩ = W.frozen? ⟨b, o, none⟩) → b < w1.heap.size → G) : G :=
  k (fun o => kept_cell hb b o h) (fun o => kept_frozen hb b o h) (Nat.lt_of_lt_of_le h hb.size)

theorem kept_drewN {B : Nat} {a w : World} (h : Below B a w) (n : Nat) : Below B a (w.drewN n) := { os := h.os, tape := h.tape, output := h.output, size := h.size, block := h.block }

theorem grown_step {a b c : World} {row : Option Nat} (h : a.grownBy b row) (k : b.grownBy c row) : a.grownBy c row :=
  ⟨k.os.trans h.os, k.tape.trans h.tape, k.output.trans h.output, Nat.le_trans h.size k.size, fun i hi hne => (k.block i (Nat.lt_of_lt_of_le hi h.size) hne).trans (h.block i hi hne)⟩

theorem grown_below {a b c : World} {row : Option Nat} (h : Below a.heap.size a b) (k : b.grownBy c row) (hr : ∀ g, row = some g → a.heap.size ≤ g) : Below a.heap.size a c := h.grown k h.size hr

theorem results_cell1 {fn : Func} {p : Tmp} {ty : TypeId} (h : fn.results = #[.cell p ty]) (tmps : Array Value) (P : Program) (w : World) :
    (results fn tmps).run P w = ((asAddr (tmps.getD p undef)).run P w).andThen fun a w₁ => (loadVar ty a).run P w₁ := by
  simp only [results, h]
  simp [Sem.run_bind, Result.andThen]

def inB (n low high : Int) : Bool := decide (low ≤ n) && decide (n ≤ high)

theorem in_any (n low high : Int) (w : World) :
    Calls Try.prog 72 #[.int .i64 n, .int .i64 low, .int .i64 high] w fun e w' => e = .returned (.bool (inB n low high)) ∧ w = w' := by
  unfold inB
  by_cases h1 : low ≤ n <;> by_cases h2 : n ≤ high <;>
  · go_enter Try.func72, Try.ntmps72
    go_wp2
    go_ret
    exact ⟨by simp [*], rfl⟩

theorem inB_true {n a b : Int} (h : inB n a b = true) : a ≤ n ∧ n ≤ b := by simpa [inB] using h

theorem inB_false {n a b : Int} (h : inB n a b = false) : ¬ (a ≤ n ∧ n ≤ b) := by simpa [inB] using h

theorem own_kept {W w1 : World} {base : Nat} {e : TypeId} {size : Nat} {v : Value} {n : Nat} {xs : List Value} (h : W.ownsRow base e size v n xs) (hb : Below W.heap.size W w1) : w1.ownsRow base e size v n xs := by
  refine ⟨h.1, ?_⟩
  rcases h.2 with h2 | ⟨g, cap, cur, hv, hg, hh, r⟩
  · exact Or.inl h2
  · refine Or.inr ⟨g, cap, cur, hv, hg, ?_, r⟩
    rw [hb.block g (h.lt g (by rw [hv]; rfl)).2]
    exact hh

/-- The slice value reads as a list of numbers. -/
def RdI (w : World) (v : Value) (zs : List Int) : Prop :=
  zs.length ≤ 9223372036854775807 ∧ ∃ A c, v = .slice A zs.length c ∧ ∀ k, (hk : k < zs.length) → ∃ b off, A = some ⟨b, off, none⟩ ∧ b < w.heap.size ∧ w.cell? ⟨b, off + k, none⟩ = some (.int .i64 zs[k])

theorem RdI_kept {W w1 : World} {v : Value} {zs : List Int} (h : RdI W v zs) (hb : Below W.heap.size W w1) : RdI w1 v zs := by
  obtain ⟨hl, A, c, rfl, hr⟩ := h
  refine ⟨hl, A, c, rfl, fun k hk => ?_⟩
  obtain ⟨b, off, e, hlt, hc⟩ := hr k hk
  exact ⟨b, off, e, Nat.lt_of_lt_of_le hlt hb.size, by rw [kept_cell hb b _ hlt]; exact hc⟩

/-- What a marked list holds: k, k + 1, .. -/
def marks (k : Nat) : Nat → List Int
  | 0 => []
  | n + 1 => (k : Int) :: marks (k + 1) n

theorem marks_len (k n : Nat) : (marks k n).length = n := by
  induction n generalizing k with
  | zero => rfl
  | succ n ih => simp [marks, ih]

theorem marks_at (k n j : Nat) (h : j < n) : (marks k n)[j]? = some ((k + j : Nat) : Int) := by
  induction n generalizing k j with
  | zero => omega
  | succ n ih =>
    cases j with
    | zero => simp [marks]
    | succ j => simp only [marks, List.getElem?_cons_succ]; rw [ih (k + 1) j (by omega)]; congr 2; omega

theorem marks_set (k j : Nat) (l : List Int) (h : j < l.length) : (marks k j ++ l.drop j).set j ((k + j : Nat) : Int) = marks k (j + 1) ++ l.drop (j + 1) := by
  apply List.ext_getElem?
  intro i
  rw [List.getElem?_set]
  by_cases h1 : j = i
  · subst h1
    rw [if_pos rfl, if_pos (by simp [marks_len]; omega), List.getElem?_append_left (by rw [marks_len]; omega), marks_at _ _ _ (by omega)]
  · rw [if_neg h1]
    by_cases h2 : i < j
    · rw [List.getElem?_append_left (by rw [marks_len]; omega), List.getElem?_append_left (by rw [marks_len]; omega), marks_at _ _ _ h2, marks_at _ _ _ (by omega)]
    · rw [List.getElem?_append_right (by rw [marks_len]; omega), List.getElem?_append_right (by rw [marks_len]; omega), marks_len, marks_len, List.getElem?_drop, List.getElem?_drop]
      congr 1
      omega

theorem flat_len {α : Type} {enc : α → List Value} {sz : Nat} (h : ∀ z, (enc z).length = sz) (zs : List α) : (zs.flatMap enc).length = zs.length * sz := by
  induction zs with
  | nil => simp
  | cons z zs ih => rw [List.flatMap_cons, List.length_append, ih, h, List.length_cons, Nat.add_mul]; omega

theorem flat_at {α : Type} {enc : α → List Value} {sz : Nat} (h : ∀ z, (enc z).length = sz) (zs : List α) (k j : Nat) (hk : k < zs.length) (hj : j < sz) : (zs.flatMap enc)[k * sz + j]? = (enc zs[k])[j]? := by
  induction zs generalizing k with
  | nil => simp at hk
  | cons z zs ih =>
    cases k with
    | zero => rw [List.flatMap_cons, List.getElem?_append_left (by rw [h]; omega)]; simp
    | succ k =>
      have e : (k + 1) * sz + j - (enc z).length = k * sz + j := by rw [h, Nat.add_mul]; omega
      rw [List.flatMap_cons, List.getElem?_append_right (by rw [h, Nat.add_mul]; omega), e, ih k (by simpa using hk)]
      simp

/-- The slice value reads as n elements of sz cells each, cell for cell. -/
def RdF (w : World) (v : Value) (n sz : Nat) (xs : List Value) : Prop :=
  n ≤ 9223372036854775807 ∧ xs.length = n * sz ∧ ∃ A c, v = .slice A n c ∧ ∀ i, i < n * sz → ∃ b off, A = some ⟨b, off, none⟩ ∧ b < w.heap.size ∧ w.cell? ⟨b, off + i, none⟩ = xs[i]?

theorem RdF_kept {W w1 : World} {v : Value} {n sz : Nat} {xs : List Value} (h : RdF W v n sz xs) (hb : Below W.heap.size W w1) : RdF w1 v n sz xs := by
  obtain ⟨hl, hx, A, c, rfl, hr⟩ := h
  refine ⟨hl, hx, A, c, rfl, fun k hk => ?_⟩
  obtain ⟨b, off, e, hlt, hc⟩ := hr k hk
  exact ⟨b, off, e, Nat.lt_of_lt_of_le hlt hb.size, by rw [kept_cell hb b _ hlt]; exact hc⟩

/-- A row of elements of the call's own (type e, sz cells each), in a block from lo on and below hi. -/
def RowF (e sz : Nat) (w : World) (lo hi : Nat) (v : Value) (n : Nat) (xs : List Value) : Prop :=
  w.ownsRow lo e sz v n xs ∧ ∀ g, v.ownBlock = some g → lo ≤ g ∧ g < hi

theorem RowF_nil (e sz : Nat) (w : World) (lo hi : Nat) : RowF e sz w lo hi (.slice none 0 0) 0 [] := ⟨World.ownsRow_nil _ _ _ _, fun g h => by simp [Value.ownBlock] at h⟩

theorem RowF_form {e sz : Nat} {w : World} {lo hi : Nat} {v : Value} {n : Nat} {xs : List Value} (h : RowF e sz w lo hi v n xs) :
    (n = 0 ∧ xs = [] ∧ v = .slice none 0 0) ∨ ∃ g cap, v = .slice (some ⟨g, 0, none⟩) n cap ∧ lo ≤ g ∧ g < hi ∧ g < w.heap.size ∧ n ≤ cap ∧ cap ≤ maxLen := by
  rcases h.1.2 with ⟨h1, h2⟩ | ⟨g, cap, cur, rfl, hg, hh, h3, h4, _⟩
  · exact Or.inl ⟨h2, List.eq_nil_of_length_eq_zero (by rw [h.1.1, h2, Nat.zero_mul]), h1⟩
  · exact Or.inr ⟨g, cap, rfl, hg, (h.2 g rfl).2, (h.1.lt g rfl).2, h3, h4⟩

theorem RowF_rd {e sz : Nat} {w : World} {lo hi : Nat} {v : Value} {n : Nat} {xs : List Value} (h : RowF e sz w lo hi v n xs) : RdF w v n sz xs := by
  rcases RowF_form h with ⟨rfl, rfl, rfl⟩ | ⟨g, cap, rfl, _, _, hlt, h3, h4⟩
  · exact ⟨by simp, by simp, none, 0, rfl, fun k hk => by simp at hk⟩
  · unfold maxLen at h4
    refine ⟨by omega, h.1.1, some ⟨g, 0, none⟩, cap, rfl, fun k hk => ⟨g, 0, rfl, hlt, ?_⟩⟩
    rw [Nat.zero_add, h.1.cellAt k hk]

theorem RowF_kept {e sz : Nat} {W w1 : World} {lo hi : Nat} {v : Value} {n : Nat} {xs : List Value} (h : RowF e sz W lo hi v n xs) (hb : Below W.heap.size W w1) : RowF e sz w1 lo hi v n xs := ⟨own_kept h.1 hb, h.2⟩

theorem RowF_far {e sz : Nat} {W w1 : World} {lo hi : Nat} {v : Value} {n : Nat} {xs : List Value} {row : Option Nat} (h : RowF e sz W lo hi v n xs) (hg : W.grownBy w1 row) (hr : ∀ g, row = some g → g < lo ∨ hi ≤ g) : RowF e sz w1 lo hi v n xs := by
  refine ⟨h.1.kept hg ?_, h.2⟩
  rcases hv : v.ownBlock with _ | g
  · exact Or.inl rfl
  · refine Or.inr (fun e => ?_)
    have h1 := h.2 g hv
    have h2 := hr g e.symm
    omega

/-- The first elements of a row. -/
theorem RowF_short {e sz : Nat} {w : World} {lo hi g cap m n : Nat} {xs : List Value} (h : RowF e sz w lo hi (.slice (some ⟨g, 0, none⟩) m cap) m xs) (hn : n ≤ m) :
    RowF e sz w lo hi (.slice (some ⟨g, 0, none⟩) n cap) n (xs.take (n * sz)) := by
  refine ⟨⟨?_, ?_⟩, fun g' hg' => h.2 g' hg'⟩
  · rw [List.length_take, h.1.1]
    have := Nat.mul_le_mul_right sz hn
    omega
  · rcases h.1.2 with ⟨h1, h2⟩ | ⟨g', cap', cur, h1, hg, hh, h3, h4, h5, h6⟩
    · simp at h1
    · simp only [Value.slice.injEq, Option.some.injEq, Addr.mk.injEq, and_true, true_and] at h1
      obtain ⟨rfl, rfl⟩ := h1
      refine Or.inr ⟨g, cap, cur, rfl, hg, hh, by omega, h4, h5, ?_⟩
      rw [← h6, List.take_take]
      congr 1
      have := Nat.mul_le_mul_right sz hn
      omega

theorem RowF_lo {e sz : Nat} {w : World} {lo lo' hi hi' : Nat} {v : Value} {n : Nat} {xs : List Value} (h : RowF e sz w lo hi v n xs) (hl : lo' ≤ lo) (hh : hi ≤ hi') : RowF e sz w lo' hi' v n xs :=
  ⟨Joins.ownsRow_le h.1 hl, fun g hg => ⟨by have := (h.2 g hg).1; omega, by have := (h.2 g hg).2; omega⟩⟩

/-- A pair of numbers, cell by cell. -/
def encP (z : Int × Int) : List Value := [.int .i64 z.1, .int .i64 z.2]

def flatP (zs : List (Int × Int)) : List Value := zs.flatMap encP

theorem flatP_len (zs : List (Int × Int)) : (flatP zs).length = zs.length * 2 := flat_len (enc := encP) (fun _ => rfl) zs

theorem flatP_at (zs : List (Int × Int)) (k : Nat) (h : k < zs.length) : (flatP zs)[k * 2]? = some (.int .i64 zs[k].1) ∧ (flatP zs)[k * 2 + 1]? = some (.int .i64 zs[k].2) :=
  ⟨flat_at (enc := encP) (sz := 2) (fun _ => rfl) zs k 0 h (by omega), flat_at (enc := encP) (sz := 2) (fun _ => rfl) zs k 1 h (by omega)⟩

/-- The slice value reads as a list of pairs of numbers. -/
def RdP (w : World) (v : Value) (zs : List (Int × Int)) : Prop := RdF w v zs.length 2 (flatP zs)

theorem RdP_kept {W w1 : World} {v : Value} {zs : List (Int × Int)} (h : RdP W v zs) (hb : Below W.heap.size W w1) : RdP w1 v zs := RdF_kept h hb

theorem RdP_slice {w : World} {v : Value} {zs : List (Int × Int)} (h : RdP w v zs) : ∃ A c, v = .slice A zs.length c ∧ zs.length ≤ 9223372036854775807 ∧
    ∀ k, (hk : k < zs.length) → ∃ b off, A = some ⟨b, off, none⟩ ∧ b < w.heap.size ∧ w.cell? ⟨b, off + k * 2, none⟩ = some (.int .i64 zs[k].1) ∧ w.cell? ⟨b, off + k * 2 + 1, none⟩ = some (.int .i64 zs[k].2) := by
  obtain ⟨hl, hx, A, c, rfl, hr⟩ := h
  refine ⟨A, c, rfl, hl, fun k hk => ?_⟩
  obtain ⟨b, off, rfl, hlt, h0⟩ := hr (k * 2) (by omega)
  obtain ⟨b', off', e, _, h1⟩ := hr (k * 2 + 1) (by omega)
  simp only [Option.some.injEq, Addr.mk.injEq, and_true] at e
  obtain ⟨rfl, rfl⟩ := e
  rw [(flatP_at zs k hk).1] at h0
  rw [(flatP_at zs k hk).2, ← Nat.add_assoc] at h1
  exact ⟨b, off, rfl, hlt, h0, h1⟩

/-- An argument that is a slice of structs of two numbers. -/
theorem open_pairs {H : Type} {enc : TypeId × Value → H} {P : Program} {W : World} {t e : TypeId} {f0 f1 : Field} {base : Nat} {v : Value} {d : DataW H} {p : List MemPlace}
    (ht : P.underlying t = some (.slice e)) (he : P.underlying e = some (.struct #[f0, f1])) (i0 : P.underlying f0.type = some (.int .i64)) (i1 : P.underlying f1.type = some (.int .i64))
    (ce : P.cellsOf e = 2) (o0 : f0.offset = 0) (o1 : f1.offset = 1) (c0 : P.cellsOf f0.type = 1) (c1 : P.cellsOf f1.type = 1)
    (hv : Value.okWide P W .any base t v) (h : DataW.Trod enc P W 0 (fun _ => true) true t v d p) :
    ∃ zs : List (Int × Int), RdP W v zs ∧ ∀ z ∈ zs, (Lit.int .i64 z.1).wf = true ∧ (Lit.int .i64 z.2).wf = true := by
  obtain ⟨a1, len, cap, rfl⟩ := okWide_slice ht hv
  obtain ⟨fuel, hf⟩ := h
  rcases Deep.open_slice_pairs ht he ce o0 o1 c0 c1 hf with ⟨hcs, hx⟩ | ⟨a, len', cap', m, n, V0, V1, D0, D1, P0, P1, hcs, _, hl, hm, hmm, hx, hi⟩
  · simp [Value.cells] at hcs
    obtain ⟨rfl, rfl, rfl⟩ := hcs
    exact ⟨[], ⟨by simp, rfl, none, 0, rfl, fun i hi => by simp at hi⟩, fun z h => by cases h⟩
  · simp [Value.cells] at hcs
    obtain ⟨rfl, rfl, rfl⟩ := hcs
    simp only [if_true] at hmm
    have each : ∀ i, i < len → ∃ q : Int × Int, V0 i = .int .i64 q.1 ∧ V1 i = .int .i64 q.2 ∧ (Lit.int .i64 q.1).wf = true ∧ (Lit.int .i64 q.2).wf = true := by
      intro i hlt
      obtain ⟨_, _, g0, g1⟩ := hi i (by omega)
      obtain ⟨x, e0, _, w0⟩ := DataW.trod_int i0 g0
      obtain ⟨y, e1, _, w1⟩ := DataW.trod_int i1 g1
      simp at e0 e1
      exact ⟨(x, y), e0, e1, w0, w1⟩
    obtain ⟨q, hq⟩ := Deep.choose_lt each
    obtain ⟨b, off, spot⟩ := a
    refine ⟨(List.range len).map q, ⟨by simp; unfold maxLen at hm; omega, by rw [flatP_len], some ⟨b, off, spot⟩, cap, by simp, fun j hj => ?_⟩, ?_⟩
    · simp only [List.length_map, List.length_range] at hj
      obtain ⟨h0, h1, _, _⟩ := hi (j / 2) (by omega)
      have hspot : spot = none := by simpa [Addr.add] using World.cell?_spot (hi 0 (by omega)).1
      subst hspot
      rw [add_plain] at h0 h1
      have hat := flatP_at ((List.range len).map q) (j / 2) (by simp; omega)
      simp only [List.getElem_map, List.getElem_range] at hat
      rw [← (hq (j / 2) (by omega)).1, ← (hq (j / 2) (by omega)).2.1] at hat
      refine ⟨b, off, rfl, World.block_lt_of_cell? _ _ h0, ?_⟩
      rcases Nat.mod_two_eq_zero_or_one j with hp | hp
      · have e : j / 2 * 2 = j := by omega
        rw [e] at hat h0
        rw [hat.1, ← h0]
      · have e : j / 2 * 2 + 1 = j := by omega
        rw [e] at hat h1
        rw [hat.2, ← h1]
    · intro z hz
      obtain ⟨i, hi', rfl⟩ := List.mem_map.1 hz
      exact (hq i (List.mem_range.1 hi')).2.2

def roomL (n : Nat) : Nat := if n % 6 = 5 then 0 else if n % 3 = 0 then 1 else n

theorem roomL_le (n : Nat) : roomL n ≤ n + 1 := by
  unfold roomL
  split
  · omega
  · split <;> omega

theorem room_any (n : Nat) (hn : n ≤ 9223372036854775807) (w : World) :
    Calls Try.prog 67 #[.int .i64 n] w fun e w' => e = .returned (.int .i64 (roomL n : Nat)) ∧ w = w' := by
  unfold roomL
  have e6 : (n : Int).tmod 6 = ((n % 6 : Nat) : Int) := by rw [tmod_pos _ _ (by omega)]; omega
  have e3 : (n : Int).tmod 3 = ((n % 3 : Nat) : Int) := by rw [tmod_pos _ _ (by omega)]; omega
  by_cases h6 : n % 6 = 5
  · rw [h6] at e6
    go_enter Try.func67, Try.ntmps67
    go_wp2
    go_ret
    exact ⟨by simp [h6], rfl⟩
  · have d6 : ((n : Int).tmod 6 == 5) = false := by rw [e6]; simp; omega
    by_cases h3 : n % 3 = 0
    · rw [h3] at e3
      go_enter Try.func67, Try.ntmps67
      go_wp2
      go_ret
      exact ⟨by simp [h6, h3], rfl⟩
    · have d3 : ((n : Int).tmod 3 == 0) = false := by rw [e3]; simp; omega
      go_enter Try.func67, Try.ntmps67
      go_wp2
      go_ret
      exact ⟨by simp [h6, h3], rfl⟩

theorem szC_any (A : Option Addr) (n c : Nat) (left : Int) (h : 0 ≤ left ∧ left ≤ 1000000) (hn : n ≤ 9223372036854775807) (w : World) :
    Calls Try.prog 33 #[.slice A n c, .int .i64 left] w fun e w' => e = .returned (.int .i64 (if (n : Int) ≤ left then left - n else -1)) ∧ w = w' := by
  by_cases h1 : (n : Int) ≤ left
  · rw [if_pos h1]
    go_enter Try.func33, Try.ntmps33
    go_wp2
    go_ret
    exact ⟨rfl, rfl⟩
  · rw [if_neg h1]
    go_enter Try.func33, Try.ntmps33
    go_wp2
    go_ret
    exact ⟨rfl, rfl⟩

theorem toStep_any (x y : Int) (w : World) :
    Calls Try.prog 68 #[.agg #[.int .i64 x, .int .i64 y]] w fun e w' => e = .returned (.agg #[.int .i64 x, .int .i64 y]) ∧ Below w.heap.size w w' := by
  go_enter Try.func68, Try.ntmps68
  go_wp2
  go_returns
  exact ⟨rfl, by go_grown⟩

def fillP : Int × Int := (-7000000000000000101, -7000000000000000101)

theorem fillStep_any (w : World) :
    Calls Try.prog 69 #[] w fun e w' => e = .returned (.agg #[.int .i64 fillP.1, .int .i64 fillP.2]) ∧ Below w.heap.size w w' := by
  unfold fillP
  go_enter Try.func69, Try.ntmps69
  go_wp2
  go_returns
  exact ⟨rfl, by go_grown⟩

theorem eqStep_same (x y : Int) (w : World) :
    Calls Try.prog 71 #[.agg #[.int .i64 x, .int .i64 y], .agg #[.int .i64 x, .int .i64 y]] w fun e w' => e = .returned (.bool true) ∧ Below w.heap.size w w' := by
  go_enter Try.func71, Try.ntmps71
  go_wp2
  go_ret
  exact ⟨rfl, by go_grown⟩

theorem info_step : (Try.prog.info? 76).map (fun i => (i.zero, i.size, i.bytes)) = some (some (.agg #[.int .i64 0, .int .i64 0]), 2, 16) := by kernel_rfl

theorem eqC_same (v1 v2 : Value) (zs : List (Int × Int)) (w : World) (h1 : RdP w v1 zs) (h2 : RdP w v2 zs) :
    Calls Try.prog 37 #[v1, v2] w fun e w' => e = .returned (.bool true) ∧ Below w.heap.size w w' := by
  obtain ⟨A, c, rfl, hl, r1⟩ := RdP_slice h1
  obtain ⟨A2, c2, rfl, _, r2⟩ := RdP_slice h2
  clear h1 h2
  have R1 := Lib.hid r1; clear r1
  have R2 := Lib.hid r2; clear r2
  go_enter Try.func37, Try.ntmps37
  go_wp2_with fail
  go_loopw [5] (fun i wr => ∃ k : Nat, k ≤ zs.length ∧ i = .int .i64 k ∧ Below w.heap.size w wr) (fun i _ => zs.length - (intOf i).toNat)
  case atStart => exact ⟨0, by omega, rfl, Below.refl _ _⟩
  case round =>
    obtain ⟨k, hk, rfl, hb⟩ := hrel
    by_cases hlt : k < zs.length
    · obtain ⟨b, off, rfl, hbl, hc0, hc1⟩ := R1.out k hlt
      obtain ⟨b2, off2, rfl, hbl2, hd0, hd1⟩ := R2.out k hlt
      rw [← kept_cell hb b _ hbl] at hc0 hc1
      rw [← kept_cell hb b2 _ hbl2] at hd0 hd1
      generalize zs[k].1 = x at *
      generalize zs[k].2 = y at *
      have hsz := hb.size
      have hbl' := Nat.lt_of_lt_of_le hbl hsz
      have hbl2' := Nat.lt_of_lt_of_le hbl2 hsz
      go_wp2_with fail
      go_region_held3 (fun w' => w'.cell? ⟨b, off + k * 2, none⟩ = some (.int .i64 x) ∧ w'.cell? ⟨b, off + k * 2 + 1, none⟩ = some (.int .i64 y) ∧ w'.cell? ⟨b2, off2 + k * 2, none⟩ = some (.int .i64 x) ∧ w'.cell? ⟨b2, off2 + k * 2 + 1, none⟩ = some (.int .i64 y)) (go_keep)
        ((go_at_call 71; refine (eqStep_same _ _ _).mono ?_; rintro e w1 ⟨rfl, hb1⟩; replace hb1 := kept_trans (a := wr) (by go_grown) hb1; have hcl := kept_cell hb1))
      go_wp2
      go_roundw
      case rel => exact ⟨k + 1, by omega, by go_num, kept_trans hb (by assumption)⟩
      case measure => simp [intOf]; omega
    · have : k = zs.length := by omega
      subst this
      go_wp2
      go_ret
      exact ⟨rfl, hb⟩

theorem flatP_set (l : List (Int × Int)) (j : Nat) (x y : Int) : ((flatP l).set (j * 2) (.int .i64 x)).set (j * 2 + 1) (.int .i64 y) = flatP (l.set j (x, y)) := by
  induction l generalizing j with
  | nil => simp [flatP]
  | cons z l ih =>
    cases j with
    | zero => simp [flatP, encP]
    | succ j =>
      have := ih j
      simp only [flatP, encP, List.flatMap_cons, List.cons_append, List.nil_append, Nat.succ_mul, List.set_cons_succ] at this ⊢
      rw [this]

theorem fill_step {α : Type} (T : List α) (z : α) (j : Nat) (h : j < T.length) : (T.take j ++ List.replicate (T.length - j) z).set j T[j] = T.take (j + 1) ++ List.replicate (T.length - (j + 1)) z := by
  obtain ⟨m, hm⟩ : ∃ m, T.length - j = m + 1 := ⟨T.length - j - 1, by omega⟩
  rw [hm, show T.length - (j + 1) = m by omega, List.replicate_succ, List.set_append, if_neg (by simp; omega), List.length_take, Nat.min_eq_left (by omega), Nat.sub_self, List.set_cons_zero, ← List.take_append_getElem h, List.append_assoc]
  rfl

/-- What a copy's block holds: the list, and behind it the filler. -/
def copyT (zs : List (Int × Int)) : List (Int × Int) := zs ++ List.replicate (roomL zs.length) fillP

theorem copyT_len (zs : List (Int × Int)) : (copyT zs).length = zs.length + roomL zs.length := by simp [copyT]

/-- A copy of a list of steps that the law made: the whole block is a row of the call's own. -/
def CopyC (w : World) (lo hi : Nat) (v : Value) (zs : List (Int × Int)) : Prop :=
  zs.length ≤ 1000000 ∧ ∃ g, v = .slice (some ⟨g, 0, none⟩) zs.length (copyT zs).length ∧ RowF 76 2 w lo hi (.slice (some ⟨g, 0, none⟩) (copyT zs).length (copyT zs).length) (copyT zs).length (flatP (copyT zs))

theorem CopyC_kept {W w1 : World} {lo hi : Nat} {v : Value} {zs : List (Int × Int)} (h : CopyC W lo hi v zs) (hb : Below W.heap.size W w1) : CopyC w1 lo hi v zs := by
  obtain ⟨hl, g, e, hr⟩ := h
  exact ⟨hl, g, e, RowF_kept hr hb⟩

theorem CopyC_row {w : World} {lo hi : Nat} {v : Value} {zs : List (Int × Int)} (h : CopyC w lo hi v zs) : RowF 76 2 w lo hi v zs.length (flatP zs) := by
  obtain ⟨hl, g, rfl, hr⟩ := h
  have := RowF_short hr (n := zs.length) (by rw [copyT_len]; omega)
  have e : (flatP (copyT zs)).take (zs.length * 2) = flatP zs := by
    rw [show flatP (copyT zs) = flatP zs ++ flatP (List.replicate (roomL zs.length) fillP) by simp [flatP, copyT]]
    rw [← flatP_len, List.take_left]
  rwa [e] at this

theorem CopyC_rd {w : World} {lo hi : Nat} {v : Value} {zs : List (Int × Int)} (h : CopyC w lo hi v zs) : RdP w v zs := RowF_rd (CopyC_row h)

theorem make_steps (n : Nat) (h : n ≤ 4000000) (w : World) :
    (Instr.makeSlice 44 (.int .i64 (n : Int)) (.int .i64 (n : Int))).run Try.prog w = .ok (.slice (some ⟨w.heap.size, 0, none⟩) n n) (w.alloc (.cells (madeCells #[.int .i64 0, .int .i64 0] (n * 2)) 76)) := by
  obtain ⟨i, hi, hz, hs, hb⟩ := info_parts info_step
  have hb' : (i.bytes : Int) * (n : Int) ≤ 281474976710656 := by rw [hb]; omega
  have hr := run_make (P := Try.prog) w 44 76 i (.agg #[.int .i64 0, .int .i64 0]) Try.underlying44 hi hz .i64 .i64 n n (by omega) (Int.le_refl _) hb' (by omega)
  simp only [Int.toNat_natCast, hs] at hr
  exact hr

theorem made_flat (n : Nat) : (madeCells #[.int .i64 0, .int .i64 0] (n * 2)).toList = flatP (List.replicate n (0, 0)) := by
  apply List.ext_getElem?
  intro j
  by_cases hj : j < n * 2
  · have h := flatP_at (List.replicate n ((0 : Int), (0 : Int))) (j / 2) (by simp; omega)
    simp only [List.getElem_replicate] at h
    rcases Nat.mod_two_eq_zero_or_one j with hp | hp
    · rw [show j / 2 * 2 = j by omega] at h
      rw [h.1]
      simp [madeCells, hj, hp]
    · rw [show j / 2 * 2 + 1 = j by omega] at h
      rw [h.2]
      simp [madeCells, hj, hp]
  · rw [List.getElem?_eq_none (by rw [Array.length_toList, size_madeCells]; omega), List.getElem?_eq_none (by rw [flatP_len]; simp; omega)]

theorem copyT_at (zs : List (Int × Int)) (j : Nat) : (h : j < zs.length) → (copyT zs)[j]'(by rw [copyT_len]; omega) = zs[j] := by
  intro h
  simp [copyT, h]

theorem copyT_fill (zs : List (Int × Int)) (j : Nat) (h : zs.length ≤ j) : (h2 : j < (copyT zs).length) → (copyT zs)[j] = fillP := by
  intro h2
  simp [copyT, h]

theorem toC_row (v : Value) (zs : List (Int × Int)) (bare : Bool) (w : World) (h : RdP w v zs) (hn : zs.length ≤ 1000000) (hbare : bare = false ∨ zs ≠ []) :
    Calls Try.prog 35 #[v, .bool bare] w fun e w' => ∃ v', e = .returned v' ∧ CopyC w' w.heap.size w'.heap.size v' zs ∧ Below w.heap.size w w' := by
  obtain ⟨A, c, rfl, hl, r1⟩ := RdP_slice h
  clear h
  have R := Lib.hid r1; clear r1
  have hN := copyT_len zs
  have hr := roomL_le zs.length
  have hmk : ∀ w : World, (Instr.makeSlice 44 (.int .i64 ((zs.length : Int) + (roomL zs.length : Int))) (.int .i64 ((zs.length : Int) + (roomL zs.length : Int)))).run Try.prog w = .ok (.slice (some ⟨w.heap.size, 0, none⟩) (copyT zs).length (copyT zs).length) (w.alloc (.cells (madeCells #[.int .i64 0, .int .i64 0] ((copyT zs).length * 2)) 76)) := by
    intro w
    have := make_steps (copyT zs).length (by omega) w
    rwa [show (((copyT zs).length : Nat) : Int) = (zs.length : Int) + (roomL zs.length : Int) by omega] at this
  have hcap : (copyT zs).length ≤ maxLen := by unfold maxLen; omega
  have hrow0 : ∀ wa : World, w.heap.size ≤ wa.heap.size → (wa.alloc (.cells (madeCells #[.int .i64 0, .int .i64 0] ((copyT zs).length * 2)) 76)).ownsRow w.heap.size 76 2 (.slice (some ⟨wa.heap.size, 0, none⟩) (copyT zs).length (copyT zs).length) (copyT zs).length (flatP ((copyT zs).take 0 ++ List.replicate ((copyT zs).length - 0) (0, 0))) := by
    intro wa hwa
    have := World.ownsRow_lit wa (e := 76) (size := 2) (madeCells #[.int .i64 0, .int .i64 0] ((copyT zs).length * 2)) (copyT zs).length hwa hcap (size_madeCells _ _)
    rw [made_flat] at this
    simpa using this
  have Hrow := Lib.hid hrow0; clear hrow0
  have hb0 : bare = true → ((zs.length : Int) == 0) = false := by
    intro hb
    have : zs.length ≠ 0 := fun h => by
      rcases hbare with h1 | h1
      · rw [hb] at h1; cases h1
      · exact h1 (List.eq_nil_of_length_eq_zero h)
    simpa using this
  clear hbare
  generalize hNN : (copyT zs).length = N at *
  have HNN := Lib.hid hNN; clear hNN
  have hNb : N ≤ 2000002 ∧ zs.length ≤ N := by omega
  have HN := Lib.hid hN; clear hN
  cases bare
  all_goals
    have hbn := hb0
    simp only [forall_const, reduceCtorEq, false_implies, Bool.false_eq_true] at hbn
    clear hb0
    go_enter Try.func35, Try.ntmps35
    go_wp2_with (go_at_call 67; refine (room_any _ (by omega) _).mono ?_; rintro e w1 ⟨rfl, rfl⟩)
    go_loopw [6] (fun i wr => ∃ j : Nat, j ≤ zs.length ∧ i = .int .i64 j ∧ wr.ownsRow w.heap.size 76 2 (.slice (some ⟨w.heap.size, 0, none⟩) N N) N (flatP ((copyT zs).take j ++ List.replicate (N - j) (0, 0))) ∧ Below w.heap.size w wr) (fun i _ => zs.length - (intOf i).toNat)
    case atStart => exact ⟨0, by omega, rfl, Hrow.out w (Nat.le_refl _), by go_grown⟩
    case round =>
      obtain ⟨j, hj, rfl, hown, hb⟩ := hrel
      have hsz := hb.size
      by_cases hlt : j < zs.length
      · obtain ⟨b, off, rfl, hbl, hc0, hc1⟩ := R.out j hlt
        rw [← kept_cell hb b _ hbl] at hc0 hc1
        go_wp2_with fail
        refine (toStep_any _ _ _).mono ?_
        rintro e w1 ⟨rfl, hb1⟩
        have hown1 := own_kept hown hb1
        have hlen : (flatP ((copyT zs).take j ++ List.replicate (N - j) (0, 0))).length = N * 2 := hown.1
        obtain ⟨u0, hu0⟩ : ∃ u, w1.cell? ⟨w.heap.size, j * 2, none⟩ = some u := by
          rw [hown1.cellAt _ (by omega)]
          exact ⟨_, List.getElem?_eq_getElem (by omega)⟩
        obtain ⟨u1, hu1⟩ : ∃ u, w1.cell? ⟨w.heap.size, j * 2 + 1, none⟩ = some u := by
          rw [hown1.cellAt _ (by omega)]
          exact ⟨_, List.getElem?_eq_getElem (by omega)⟩
        have hz0 := hown1.frozenAt (j * 2)
        have hz1 := hown1.frozenAt (j * 2 + 1)
        have hs0 := hown1.stored (j * 2) (.int .i64 zs[j].1)
        have hs1 := hs0.1.stored (j * 2 + 1) (.int .i64 zs[j].2)
        rw [flatP_set] at hs1
        have hstep := fill_step (copyT zs) (0, 0) j (by rw [HNN.out]; omega)
        rw [copyT_at zs j hlt, HNN.out] at hstep
        rw [show ((zs[j].1, zs[j].2) : Int × Int) = zs[j] from rfl, hstep] at hs1
        have Hs := Lib.hid hs1.1
        have Hg := Lib.hid (grown_step hs0.2 hs1.2)
        clear hs0 hs1 hstep hown hown1 hlen
        go_wp2
        go_roundw
        case rel => exact ⟨j + 1, by omega, by go_num, Hs.out, grown_below (kept_trans hb hb1) Hg.out (fun g hg => by simp at hg; omega)⟩
        case measure => simp [intOf]; omega
      · have : j = zs.length := by omega
        subst this
        go_wp2_with fail
        go_loopw [7] (fun i wr => ∃ j : Nat, zs.length ≤ j ∧ j ≤ N ∧ i = .int .i64 j ∧ wr.ownsRow w.heap.size 76 2 (.slice (some ⟨w.heap.size, 0, none⟩) N N) N (flatP ((copyT zs).take j ++ List.replicate (N - j) (0, 0))) ∧ Below w.heap.size w wr) (fun i _ => N - (intOf i).toNat)
        case atStart => exact ⟨zs.length, by omega, by omega, rfl, hown, hb⟩
        case round =>
          obtain ⟨j, hj0, hj, rfl, hown, hb⟩ := hrel
          have hsz := hb.size
          by_cases hlt : j < N
          · go_wp2_with fail
            refine (fillStep_any _).mono ?_
            rintro e w1 ⟨rfl, hb1⟩
            have hown1 := own_kept hown hb1
            have hlen : (flatP ((copyT zs).take j ++ List.replicate (N - j) (0, 0))).length = N * 2 := hown.1
            obtain ⟨u0, hu0⟩ : ∃ u, w1.cell? ⟨w.heap.size, j * 2, none⟩ = some u := by
              rw [hown1.cellAt _ (by omega)]
              exact ⟨_, List.getElem?_eq_getElem (by omega)⟩
            obtain ⟨u1, hu1⟩ : ∃ u, w1.cell? ⟨w.heap.size, j * 2 + 1, none⟩ = some u := by
              rw [hown1.cellAt _ (by omega)]
              exact ⟨_, List.getElem?_eq_getElem (by omega)⟩
            have hz0 := hown1.frozenAt (j * 2)
            have hz1 := hown1.frozenAt (j * 2 + 1)
            have hs0 := hown1.stored (j * 2) (.int .i64 fillP.1)
            have hs1 := hs0.1.stored (j * 2 + 1) (.int .i64 fillP.2)
            rw [flatP_set] at hs1
            have hstep := fill_step (copyT zs) (0, 0) j (by rw [HNN.out]; omega)
            rw [copyT_fill zs j hj0 (by rw [HNN.out]; omega), HNN.out] at hstep
            rw [show ((fillP.1, fillP.2) : Int × Int) = fillP from rfl, hstep] at hs1
            have Hs := Lib.hid hs1.1
            have Hg := Lib.hid (grown_step hs0.2 hs1.2)
            clear hs0 hs1 hstep hown hown1 hlen
            go_wp2
            go_roundw
            case rel => exact ⟨j + 1, by omega, by omega, by go_num, Hs.out, grown_below (kept_trans hb hb1) Hg.out (fun g hg => by simp at hg; omega)⟩
            case measure => simp [intOf]; omega
          · have : j = N := by omega
            subst this
            have Hown := Lib.hid hown; clear hown
            go_wp2
            go_ret
            have hT : (copyT zs).take j ++ List.replicate (j - j) (0, 0) = copyT zs := by rw [List.take_of_length_le (by rw [HNN.out]; exact Nat.le_refl _)]; simp
            refine ⟨_, rfl, ⟨hn, w.heap.size, by rw [HNN.out]; rfl, ?_⟩, hb⟩
            rw [HNN.out, ← hT]
            exact ⟨Hown.out, fun g hg => by simp [Value.ownBlock] at hg; subst hg; exact ⟨Nat.le_refl _, (Hown.out.lt _ rfl).2⟩⟩

theorem toC_false (v : Value) (zs : List (Int × Int)) (w : World) (h : RdP w v zs) (hn : zs.length ≤ 1000000) :
    Calls Try.prog 35 #[v, .bool false] w fun e w' => ∃ v', e = .returned v' ∧ CopyC w' w.heap.size w'.heap.size v' zs ∧ Below w.heap.size w w' := toC_row v zs false w h hn (Or.inl rfl)

theorem toC_true (v : Value) (zs : List (Int × Int)) (w : World) (h : RdP w v zs) (hn : zs.length ≤ 1000000) :
    Calls Try.prog 35 #[v, .bool true] w fun e w' => ∃ v', e = .returned v' ∧ RdP w' v' zs ∧ Below w.heap.size w w' := by
  by_cases hz : zs = []
  · subst hz
    obtain ⟨A, c, rfl, hl, _⟩ := RdP_slice h
    go_enter Try.func35, Try.ntmps35
    go_wp2
    go_ret
    exact ⟨_, rfl, RowF_rd (RowF_nil 76 2 _ 0 0), Below.refl _ _⟩
  · refine (toC_row v zs true w h hn (Or.inr hz)).mono ?_
    rintro e w' ⟨v', rfl, hc, hb⟩
    exact ⟨v', rfl, CopyC_rd hc, hb⟩

theorem intactC_same (v1 v2 : Value) (zs : List (Int × Int)) (lo1 hi1 lo2 hi2 : Nat) (w : World) (h1 : CopyC w lo1 hi1 v1 zs) (h2 : CopyC w lo2 hi2 v2 zs) :
    Calls Try.prog 38 #[v1, v2] w fun e w' => e = .returned (.bool true) ∧ Below w.heap.size w w' := by
  obtain ⟨hn, g1, rfl, r1⟩ := h1
  obtain ⟨_, g2, rfl, r2⟩ := h2
  have q1 : RdP w _ (copyT zs) := RowF_rd r1
  have q2 : RdP w _ (copyT zs) := RowF_rd r2
  clear r1 r2
  have hN := copyT_len zs
  have hr := roomL_le zs.length
  generalize hT : copyT zs = T at *
  clear hT
  have Q1 := Lib.hid q1; clear q1
  have Q2 := Lib.hid q2; clear q2
  generalize hTl : T.length = N at *
  have hN' : (zs.length : Int) + (roomL zs.length : Int) = (N : Int) := by omega
  have hcap : zs.length ≤ N := by omega
  clear hN
  go_enter Try.func38, Try.ntmps38
  go_wp2_with (go_at_call 67; refine (room_any _ (by omega) _).mono ?_; rintro e w1 ⟨rfl, rfl⟩)
  go_region_held3 (fun _ => True) (trivial)
    ((go_at_call 37; refine (eqC_same _ _ T _ (by exact Q1.out) (by exact Q2.out)).mono ?_; rintro e w1 ⟨rfl, hb1⟩; replace hb1 := kept_trans (a := w) (by go_grown) hb1))
  go_wp2
  go_ret
  exact ⟨rfl, by assumption⟩

/-- The numbers of a list of pairs, one after the other. -/
def flatI (zs : List (Int × Int)) : List Int := zs.flatMap fun z => [z.1, z.2]

theorem flatI_len (zs : List (Int × Int)) : (flatI zs).length = zs.length * 2 := by
  induction zs with
  | nil => rfl
  | cons z zs ih =>
    have : flatI (z :: zs) = z.1 :: z.2 :: flatI zs := by simp [flatI]
    rw [this, List.length_cons, List.length_cons, ih, List.length_cons]
    omega

theorem flatI_eq (zs : List (Int × Int)) : flatP zs = (flatI zs).map (Value.int .i64) := by
  induction zs with
  | nil => rfl
  | cons z zs ih =>
    have h1 : flatI (z :: zs) = z.1 :: z.2 :: flatI zs := by simp [flatI]
    have h2 : flatP (z :: zs) = .int .i64 z.1 :: .int .i64 z.2 :: flatP zs := by simp [flatP, encP]
    rw [h1, h2, ih]
    rfl

theorem markC_any (v : Value) (zs : List (Int × Int)) (lo hi k0 : Nat) (w : World) (h : RowF 76 2 w lo hi v zs.length (flatP zs)) (hk0 : k0 ≤ 10000000) (hn : zs.length ≤ 4000000) :
    Calls Try.prog 39 #[v, .int .i64 k0] w fun e w' => e = .returned (.int .i64 ((k0 + zs.length * 2 : Nat) : Int)) ∧ RowF 76 2 w' lo hi v zs.length ((marks k0 (zs.length * 2)).map (Value.int .i64)) ∧ w.grownBy w' v.ownBlock := by
  rcases RowF_form h with ⟨hz, hx, rfl⟩ | ⟨g, cap, rfl, _, _, hlt, _, _⟩
  · have hzs := List.eq_nil_of_length_eq_zero hz
    subst hzs
    go_enter Try.func39, Try.ntmps39
    go_wp2_with fail
    refine wp_loop_rounds 1 ?_
    rw [rounds_succ]
    go_wp2
    go_ret
    exact ⟨rfl, RowF_nil _ _ _ _ _, World.grownBy.refl _ _⟩
  · have hfl := flatI_eq zs
    have hfn := flatI_len zs
    rw [hfl] at h
    generalize flatI zs = F at *
    generalize hN : zs.length = N at *
    have HN := Lib.hid hN; clear hN
    have HFN := Lib.hid hfn; clear hfn hfl
    have H := Lib.hid h; clear h
    go_enter Try.func39, Try.ntmps39
    go_wp2_with fail
    go_loopw [1, 5] (fun q i wr => ∃ j : Nat, j ≤ N ∧ i = .int .i64 j ∧ q = .int .i64 ((k0 + j * 2 : Nat) : Int) ∧ wr.ownsRow lo 76 2 (.slice (some ⟨g, 0, none⟩) N cap) N ((marks k0 (j * 2) ++ F.drop (j * 2)).map (Value.int .i64)) ∧ w.grownBy wr (some g)) (fun _ i _ => N - (intOf i).toNat)
    case atStart => exact ⟨0, by omega, rfl, by simp, by have := H.out.1; simpa [marks] using this, World.grownBy.refl _ _⟩
    case round =>
      obtain ⟨j, hj, rfl, rfl, hown, hg⟩ := hrel
      by_cases hlt : j < N
      · have hlen : ((marks k0 (j * 2) ++ F.drop (j * 2)).map (Value.int .i64)).length = N * 2 := hown.1
        obtain ⟨u0, hu0⟩ : ∃ u, wr.cell? ⟨g, j * 2, none⟩ = some u := by
          rw [hown.cellAt _ (by omega)]
          exact ⟨_, List.getElem?_eq_getElem (by omega)⟩
        obtain ⟨u1, hu1⟩ : ∃ u, wr.cell? ⟨g, j * 2 + 1, none⟩ = some u := by
          rw [hown.cellAt _ (by omega)]
          exact ⟨_, List.getElem?_eq_getElem (by omega)⟩
        have hz0 := hown.frozenAt (j * 2)
        have hz1 := hown.frozenAt (j * 2 + 1)
        have hs0 := hown.stored (j * 2) (.int .i64 ((k0 + j * 2 : Nat) : Int))
        rw [← List.map_set, marks_set _ _ _ (by rw [HFN.out]; omega)] at hs0
        have hs1 := hs0.1.stored (j * 2 + 1) (.int .i64 ((k0 + (j * 2 + 1) : Nat) : Int))
        rw [← List.map_set, marks_set _ _ _ (by rw [HFN.out]; omega)] at hs1
        have Hs := Lib.hid hs1.1
        have Hg := Lib.hid (grown_step hs0.2 hs1.2)
        clear hs0 hs1 hlen
        have Hown := Lib.hid hown; clear hown
        go_wp2
        go_roundw
        case rel =>
          refine ⟨j + 1, by omega, by go_num, by go_num, ?_, ?_⟩
          · have := Hs.out
            rw [show (j + 1) * 2 = j * 2 + 1 + 1 by omega]
            simpa [Int.add_assoc] using this
          · have := grown_step hg Hg.out
            simpa [Int.add_assoc] using this
        case measure => simp [intOf]; omega
      · have : j = N := by omega
        subst this
        go_wp2
        go_ret
        refine ⟨rfl, ⟨?_, fun x hx => H.out.2 x hx⟩, hg⟩
        have hd : F.drop (j * 2) = [] := List.drop_eq_nil_of_le (by rw [HFN.out]; omega)
        rw [hd, List.append_nil] at hown
        exact hown

theorem heldC_same (v : Value) (n k0 : Nat) (w : World) (h : RdF w v n 2 ((marks k0 (n * 2)).map (Value.int .i64))) (hk0 : k0 ≤ 10000000) (hn : n ≤ 4000000) :
    Calls Try.prog 40 #[v, .int .i64 k0] w fun e w' => e = .returned (.int .i64 ((k0 + n * 2 : Nat) : Int)) ∧ w = w' := by
  obtain ⟨_, _, A, c, rfl, r1⟩ := h
  have R1 := Lib.hid r1; clear r1
  go_enter Try.func40, Try.ntmps40
  go_wp2_with fail
  go_loop [1, 5] (fun q i => ∃ j : Nat, j ≤ n ∧ i = .int .i64 j ∧ q = .int .i64 ((k0 + j * 2 : Nat) : Int)) (fun _ i => n - (intOf i).toNat)
  case atStart => exact ⟨0, by omega, rfl, by simp⟩
  case round =>
    obtain ⟨j, hj, rfl, rfl⟩ := hrel
    by_cases hlt : j < n
    · obtain ⟨b, off, rfl, hbl, hc0⟩ := R1.out (j * 2) (by omega)
      obtain ⟨b', off', e', _, hc1⟩ := R1.out (j * 2 + 1) (by omega)
      simp only [Option.some.injEq, Addr.mk.injEq, and_true] at e'
      obtain ⟨rfl, rfl⟩ := e'
      rw [List.getElem?_map, marks_at _ _ _ (by omega), Option.map_some] at hc0 hc1
      rw [← Nat.add_assoc] at hc1
      go_wp2
      go_round
      case rel => exact ⟨j + 1, by omega, by go_num, by go_num⟩
      case measure => simp [intOf]; omega
    · have : j = n := by omega
      subst this
      go_wp2
      go_ret
      exact ⟨rfl, rfl⟩

theorem szC_fit (A : Option Addr) (n c : Nat) (left : Int) (h : (n : Int) ≤ left ∧ left ≤ 1000000) (w : World) :
    Calls Try.prog 33 #[.slice A n c, .int .i64 left] w fun e w' => e = .returned (.int .i64 (left - n)) ∧ w = w' := by
  have := szC_any A n c left (by omega) (by omega) w
  rwa [if_pos h.1] at this

theorem szC_over (A : Option Addr) (n c : Nat) (left : Int) (h : 0 ≤ left ∧ left ≤ 1000000) (hn : n ≤ 9223372036854775807) (hlt : left < n) (w : World) :
    Calls Try.prog 33 #[.slice A n c, .int .i64 left] w fun e w' => e = .returned (.int .i64 (-1)) ∧ w = w' := by
  have := szC_any A n c left h hn w
  rwa [if_neg (by omega)] at this

/-- The step i of a list is in order. -/
def OkAt (zs : List (Int × Int)) (i : Nat) (h : i < zs.length) : Prop :=
  (1 ≤ zs[i].1 ∧ zs[i].1 ≤ 1000 ∧ 0 ≤ zs[i].2 ∧ zs[i].2 ≤ 50000) ∧ (0 < i → zs[i - 1].1 < zs[i].1 ∧ zs[i].2 ≤ zs[i - 1].2)

def OkAll (zs : List (Int × Int)) (n : Nat) : Prop := ∀ i, (h : i < zs.length) → i < n → OkAt zs i h

theorem OkAll_step {zs : List (Int × Int)} {n : Nat} (h : OkAll zs n) (hn : n < zs.length) (h1 : OkAt zs n hn) : OkAll zs (n + 1) := by
  intro i hi hlt
  rcases Nat.lt_or_ge i n with h2 | h2
  · exact h i hi h2
  · obtain rfl : i = n := by omega
    exact h1

/-- The list is a load chart. -/
def ChartP (zs : List (Int × Int)) : Prop := OkAll zs zs.length ∧ 1 ≤ zs.length ∧ zs.length ≤ 20

open Classical in
/-- .. as a bool. -/
noncomputable def chartB (zs : List (Int × Int)) : Bool := decide (ChartP zs)

theorem chartB_true {zs : List (Int × Int)} (h : ChartP zs) : chartB zs = true := by simp [chartB, h]

theorem chartB_false {zs : List (Int × Int)} (h : ¬ ChartP zs) : chartB zs = false := by simp [chartB, h]

theorem chartB_iff {zs : List (Int × Int)} : chartB zs = true ↔ ChartP zs := by simp [chartB]

theorem drew_more {w a : World} (h : ∃ q, a = w.drewN q) (n : Nat) : ∃ q, a.drewN n = w.drewN q := by
  obtain ⟨q, rfl⟩ := h
  exact ⟨q + n, World.drewN_drewN _ _ _⟩

theorem specChart_quiet (v : Value) (zs : List (Int × Int)) (w : World) (h : RdP w v zs) :
    Calls Try.prog 64 #[v] w fun e w' => e = .returned (.bool (chartB zs)) ∧ ∃ q, w' = w.drewN q := by
  obtain ⟨A, c, rfl, hl, r1⟩ := RdP_slice h
  clear h
  have R := Lib.hid r1; clear r1
  go_enter Try.func64, Try.ntmps64
  go_wp2_with fail
  go_loopw [3] (fun i wr => ∃ k : Nat, k ≤ zs.length ∧ i = .int .i64 k ∧ OkAll zs k ∧ ∃ q, wr = w.drewN q) (fun i _ => zs.length - (intOf i).toNat)
  case atStart => exact ⟨0, by omega, rfl, fun i _ h => by omega, 0, World.drewN_zero w⟩
  case round =>
    obtain ⟨k, hk, rfl, hall, hq⟩ := hrel
    have hb : Below w.heap.size w wr := by obtain ⟨q, rfl⟩ := hq; exact kept_drewN (Below.refl _ _) _
    have HQ := Lib.hid hq; clear hq
    by_cases hlt : k < zs.length
    · obtain ⟨b, off, rfl, hbl, hc0, hc1⟩ := R.out k hlt
      rw [← kept_cell hb b _ hbl] at hc0 hc1
      have hbad : ¬ OkAt zs k hlt → chartB zs = false := fun hn => chartB_false fun hc => hn (hc.1 k hlt hlt)
      have hgood : OkAt zs k hlt → OkAll zs (k + 1) := OkAll_step hall hlt
      unfold OkAt at hbad hgood
      generalize hx : zs[k].1 = x at *
      generalize hy : zs[k].2 = y at *
      have Hall := Lib.hid hall; clear hall
      have Hbad := Lib.hid hbad; clear hbad
      have Hgood := Lib.hid hgood; clear hgood
      cases i1 : inB x 1 1000
      · go_wp2_with (go_at_call 72; refine (in_any _ _ _ _).mono ?_; rintro e w1 ⟨rfl, rfl⟩)
        go_ret
        exact ⟨by rw [Hbad.out (fun h => inB_false i1 ⟨h.1.1, h.1.2.1⟩)]; rfl, HQ.out⟩
      · have j1 := inB_true i1
        cases i2 : inB y 0 50000
        · go_wp2_with (go_at_call 72; refine (in_any _ _ _ _).mono ?_; rintro e w1 ⟨rfl, rfl⟩)
          go_ret
          exact ⟨by rw [Hbad.out (fun h => inB_false i2 ⟨h.1.2.2.1, h.1.2.2.2⟩)]; rfl, HQ.out⟩
        · have j2 := inB_true i2
          by_cases h0 : k = 0
          · subst h0
            simp only [Nat.zero_mul, Nat.add_zero] at hc0 hc1
            go_wp2_with (go_at_call 72; refine (in_any _ _ _ _).mono ?_; rintro e w1 ⟨rfl, rfl⟩)
            go_quiet (fail)
            go_wp2
            go_roundw
            case rel => exact ⟨1, by omega, by go_num, Hgood.out ⟨by omega, fun h => by omega⟩, drew_more HQ.out _⟩
            case measure => simp [intOf]; omega
          · obtain ⟨m, hm⟩ : ∃ m, k - 1 = m := ⟨k - 1, rfl⟩
            have hkm : (k : Int) - 1 = (m : Int) := by omega
            have hkd : decide (0 < k) = true := by simp; omega
            obtain ⟨b', off', e', _, hd0, hd1⟩ := R.out m (by omega)
            simp only [Option.some.injEq, Addr.mk.injEq, and_true] at e'
            obtain ⟨rfl, rfl⟩ := e'
            rw [← kept_cell hb b _ hbl] at hd0 hd1
            simp only [hm] at Hbad Hgood
            generalize zs[m].1 = x' at *
            generalize zs[m].2 = y' at *
            by_cases h1 : x ≤ x'
            · go_wp2_with (go_at_call 72; refine (in_any _ _ _ _).mono ?_; rintro e w1 ⟨rfl, rfl⟩)
              go_quiet (fail)
              go_wp2
              go_ret
              exact ⟨by rw [Hbad.out (fun h => by omega)]; rfl, drew_more HQ.out _⟩
            · have hd1 : decide (x ≤ x') = false := by simp; omega
              by_cases h2 : y' < y
              · go_wp2_with (go_at_call 72; refine (in_any _ _ _ _).mono ?_; rintro e w1 ⟨rfl, rfl⟩)
                go_quiet (fail)
                go_wp2
                go_ret
                exact ⟨by rw [Hbad.out (fun h => by omega)]; rfl, drew_more HQ.out _⟩
              · go_wp2_with (go_at_call 72; refine (in_any _ _ _ _).mono ?_; rintro e w1 ⟨rfl, rfl⟩)
                go_quiet (fail)
                go_wp2
                go_roundw
                case rel => exact ⟨k + 1, by omega, by go_num, Hgood.out ⟨by omega, fun h => by omega⟩, drew_more HQ.out _⟩
                case measure => simp [intOf]; omega
    · have : k = zs.length := by omega
      subst this
      have E : inB (zs.length : Int) 1 20 = chartB zs := by
        by_cases hc : 1 ≤ zs.length ∧ zs.length ≤ 20
        · rw [chartB_true ⟨hall, hc⟩]
          simp [inB]
          omega
        · rw [chartB_false fun h => hc h.2]
          simp only [inB]
          simp
          omega
      go_wp2_with (go_at_call 72; refine (in_any _ _ _ _).mono ?_; rintro e w1 ⟨rfl, rfl⟩)
      go_ret
      exact ⟨rfl, HQ.out⟩

theorem specChart_any (v : Value) (zs : List (Int × Int)) (w : World) (h : RdP w v zs) :
    Calls Try.prog 64 #[v] w fun e w' => e = .returned (.bool (chartB zs)) ∧ Below w.heap.size w w' :=
  (specChart_quiet v zs w h).mono fun e w' ⟨he, q, hq⟩ => ⟨he, hq ▸ kept_drewN (Below.refl _ _) _⟩

/-- The step before the step k; ahead of the first one, what no step can fail. -/
def prevP (zs : List (Int × Int)) : Nat → Int × Int
  | 0 => (0, 50000)
  | m + 1 => zs.getD m (0, 50000)

theorem prevP_succ (zs : List (Int × Int)) (k : Nat) (h : k < zs.length) : prevP zs (k + 1) = zs[k] := by simp [prevP, h]

theorem OkAt_prev {zs : List (Int × Int)} {k : Nat} (hall : OkAll zs k) (h : k < zs.length) :
    OkAt zs k h ↔ (prevP zs k).1 < zs[k].1 ∧ zs[k].1 ≤ 1000 ∧ 0 ≤ zs[k].2 ∧ zs[k].2 ≤ (prevP zs k).2 := by
  cases k with
  | zero => simp only [OkAt, prevP]; omega
  | succ m =>
    have h1 := hall m (by omega) (by omega)
    rw [prevP_succ zs m (by omega)]
    simp only [OkAt, Nat.add_sub_cancel] at h1 ⊢
    omega

theorem implChart_any (v : Value) (zs : List (Int × Int)) (w : World) (h : RdP w v zs) :
    Calls Try.prog 70 #[v] w fun e w' => e = .returned (.bool (chartB zs)) ∧ Below w.heap.size w w' := by
  obtain ⟨A, c, rfl, hl, r1⟩ := RdP_slice h
  clear h
  have R := Lib.hid r1; clear r1
  by_cases g1 : zs.length < 1
  · have hc : chartB zs = false := chartB_false fun h => by have := h.2; omega
    rw [hc]
    go_enter Try.func70, Try.ntmps70
    go_wp2
    go_ret
    exact ⟨rfl, Below.refl _ _⟩
  by_cases g2 : 20 < zs.length
  · have hc : chartB zs = false := chartB_false fun h => by have := h.2; omega
    rw [hc]
    go_enter Try.func70, Try.ntmps70
    go_wp2
    go_ret
    exact ⟨rfl, Below.refl _ _⟩
  go_enter Try.func70, Try.ntmps70
  go_wp2_with fail
  go_loopw [17] (fun i wr => ∃ k : Nat, k ≤ zs.length ∧ i = .int .i64 k ∧ OkAll zs k ∧ Below w.heap.size w wr ∧ w.heap.size < wr.heap.size ∧ wr.cell? ⟨w.heap.size, 0, none⟩ = some (.int .i64 (prevP zs k).1) ∧ wr.cell? ⟨w.heap.size, 1, none⟩ = some (.int .i64 (prevP zs k).2) ∧ wr.frozen? ⟨w.heap.size, 0, none⟩ = false ∧ wr.frozen? ⟨w.heap.size, 1, none⟩ = false) (fun i _ => zs.length - (intOf i).toNat)
  case atStart => exact ⟨0, by omega, rfl, fun i _ h => by omega, by go_grown, by simp, by simp [prevP], by simp [prevP], by simp, by simp⟩
  case round =>
    obtain ⟨k, hk, rfl, hall, hb, hlw, hp0, hp1, hz0, hz1⟩ := hrel
    by_cases hlt : k < zs.length
    · obtain ⟨b, off, rfl, hbl, hc0, hc1⟩ := R.out k hlt
      rw [← kept_cell hb b _ hbl] at hc0 hc1
      have hiff := OkAt_prev hall hlt
      have hbad : ¬ OkAt zs k hlt → chartB zs = false := fun hn => chartB_false fun hc => hn (hc.1 k hlt hlt)
      have hgood : OkAt zs k hlt → OkAll zs (k + 1) := OkAll_step hall hlt
      have hnext := prevP_succ zs k hlt
      rw [hiff] at hbad hgood
      clear hiff
      rw [show zs[k] = (zs[k].1, zs[k].2) from rfl] at hnext
      generalize zs[k].1 = x at *
      generalize zs[k].2 = y at *
      generalize (prevP zs k).1 = x' at *
      generalize (prevP zs k).2 = y' at *
      have Hall := Lib.hid hall; clear hall
      have Hbad := Lib.hid hbad; clear hbad
      have Hgood := Lib.hid hgood; clear hgood
      have Hnext := Lib.hid hnext; clear hnext
      by_cases h1 : x ≤ x'
      · go_wp2
        go_ret
        exact ⟨by rw [Hbad.out (fun h => by omega)]; rfl, by go_grown⟩
      · have hd1 : decide (x ≤ x') = false := by simp; omega
        by_cases h2 : 1000 < x
        · go_wp2
          go_ret
          exact ⟨by rw [Hbad.out (fun h => by omega)]; rfl, by go_grown⟩
        · by_cases h3 : y < 0
          · go_wp2
            go_ret
            exact ⟨by rw [Hbad.out (fun h => by omega)]; rfl, by go_grown⟩
          · by_cases h4 : y' < y
            · go_wp2
              go_ret
              exact ⟨by rw [Hbad.out (fun h => by omega)]; rfl, by go_grown⟩
            · go_wp2
              go_roundw
              case rel => exact ⟨k + 1, by omega, by go_num, Hgood.out (by omega), by go_grown, by simp; omega, by rw [Hnext.out]; simp [World.cell?_alloc_past, World.cell?_setCell_same', World.cell?_setCell_other, hlw, hp0, hp1], by rw [Hnext.out]; simp [World.cell?_alloc_past, World.cell?_setCell_same', World.cell?_setCell_other, hlw, hp0, hp1], by simp [World.frozen?_alloc_past, hlw, hz0], by simp [World.frozen?_alloc_past, hlw, hz1]⟩
              case measure => simp [intOf]; omega
    · have : k = zs.length := by omega
      subst this
      go_wp2
      go_ret
      exact ⟨by rw [chartB_true ⟨hall, by omega, by omega⟩]; rfl, hb⟩

/-- The step k. -/
def atP (zs : List (Int × Int)) (k : Nat) : Int × Int := zs.getD k (0, 0)

theorem atP_is (zs : List (Int × Int)) (k : Nat) (h : k < zs.length) : atP zs k = zs[k] := by simp [atP, h]

theorem rd_at {w : World} {A : Option Addr} {n c : Nat} {zs : List (Int × Int)} (h : RdP w (.slice A n c) zs) (k : Nat) (hk : k < zs.length) :
    n = zs.length ∧ ∃ b off, A = some ⟨b, off, none⟩ ∧ b < w.heap.size ∧ w.cell? ⟨b, off + k * 2, none⟩ = some (.int .i64 (atP zs k).1) ∧ w.cell? ⟨b, off + k * 2 + 1, none⟩ = some (.int .i64 (atP zs k).2) := by
  obtain ⟨A', c', e, hl, r1⟩ := RdP_slice h
  obtain ⟨b, off, rfl, hb, h0, h1⟩ := r1 k hk
  simp only [Value.slice.injEq] at e
  refine ⟨e.2.1, b, off, e.1, hb, ?_, ?_⟩
  · rw [atP_is zs k hk]; exact h0
  · rw [atP_is zs k hk]; exact h1

theorem mul_bd (a b p q : Int) (h1 : 0 ≤ a ∧ a ≤ p) (h2 : 0 ≤ b ∧ b ≤ q) : 0 ≤ a * b ∧ a * b ≤ p * q :=
  ⟨Int.mul_nonneg h1.1 h2.1, Int.mul_le_mul h1.2 h2.2 h2.1 (by omega)⟩

theorem flatP_snoc (zs : List (Int × Int)) (p q : Int) : flatP zs ++ [.int .i64 p, .int .i64 q] = flatP (zs ++ [(p, q)]) := by simp [flatP, encP]

/-- append of one pair to a row of the call's own. -/
theorem wp_appendP {ops : Array Oper} {rest : List Oper} {o : Oper} {a : Act} {Q : Exit → Act → World → Prop} {W wr : World} (hgd : o.guard = none) (s x : Operand)
    (ho : o.op = .call { callee := .builtin .append, args := #[s, x], argTypes := #[44, 44] })
    (lo : Nat) (v : Value) (zs : List (Int × Int)) (p q : Int) (hs : a.eval s = v) (hrow : RowF 76 2 wr lo wr.heap.size v zs.length (flatP zs)) (hx : a.eval x = .slice (some ⟨wr.heap.size, 0, none⟩) 1 1)
    (hW : Below W.heap.size W wr) (hlo : W.heap.size ≤ lo) (hlo2 : lo ≤ wr.heap.size) (hn : zs.length < 1000000000)
    (h : ∀ v' w', RowF 76 2 w' lo w'.heap.size v' (zs ++ [(p, q)]).length (flatP (zs ++ [(p, q)])) → Below W.heap.size W w' → wr.heap.size ≤ w'.heap.size → wpList Try.prog ops Q rest (a.put o.dst v') w') :
    wpList Try.prog ops Q (o :: rest) a (wr.alloc (.cells #[.int .i64 p, .int .i64 q] 76)) := by
  obtain ⟨i0, hi, hz0, hz1, hz2⟩ := info_parts info_step
  refine wpList_append_own _ hgd s x _ ho lo 76 i0 (.agg #[.int .i64 0, .int .i64 0]) 2 16 Try.underlying44 hi hz0 hz1 hz2 rfl (by decide) v zs.length _ hs (hrow.1.alloc _) ⟨wr.heap.size, 0, none⟩ 1 1 [.int .i64 p, .int .i64 q] hx rfl ?_ ?_ ?_ ?_ ?_ ?_
  · intro j u hj
    match j with
    | 0 => simp at hj; subst hj; simp [Addr.add]
    | 1 => simp at hj; subst hj; simp [Addr.add]
    | j + 2 => simp at hj
  · intro u hu; simp at hu; rcases hu with rfl | rfl <;> rfl
  · unfold maxLen; omega
  · omega
  · simp; omega
  · intro v' w' hown hg _
    rw [flatP_snoc] at hown
    have hrow' : RowF 76 2 w' lo w'.heap.size v' (zs ++ [(p, q)]).length (flatP (zs ++ [(p, q)])) := ⟨by simpa using hown, hown.lt⟩
    refine h v' w' hrow' ?_ (Nat.le_trans (by simp) hg.size)
    refine grown_below (hW.alloc hW.size _) hg (fun g hg2 => ?_)
    have := (hrow.2 g hg2).1
    omega

theorem max_any (a b : Int) (w : World) :
    Calls Try.prog 78 #[.int .i64 a, .int .i64 b] w fun e w' => e = .returned (.int .i64 (max a b)) ∧ w = w' := by
  by_cases h : b < a
  · rw [show max a b = a by omega]
    go_enter Try.func78, Try.ntmps78
    go_wp2
    go_ret
    exact ⟨rfl, rfl⟩
  · rw [show max a b = b by omega]
    go_enter Try.func78, Try.ntmps78
    go_wp2
    go_ret
    exact ⟨rfl, rfl⟩

theorem min_any (x y : Int) (w : World) :
    Calls Try.prog 66 #[.int .i64 x, .int .i64 y] w fun e w' => e = .returned (.int .i64 (min x y)) ∧ w = w' := by
  by_cases h : x < y
  · rw [show min x y = x by omega]
    go_enter Try.func66, Try.ntmps66
    go_wp2
    go_ret
    exact ⟨rfl, rfl⟩
  · rw [show min x y = y by omega]
    go_enter Try.func66, Try.ntmps66
    go_wp2
    go_ret
    exact ⟨rfl, rfl⟩

/-- The first place at which p holds; -1 if there is none. -/
def idxL {α : Type} (p : α → Bool) (zs : List α) : Int := if zs.findIdx p < zs.length then (zs.findIdx p : Int) else -1

theorem idxL_is {α : Type} {p : α → Bool} {zs : List α} {k : Nat} (h : k < zs.length) (hk : p zs[k] = true) (hb : ∀ j (hj : j < zs.length), j < k → p zs[j] = false) : idxL p zs = (k : Int) := by
  unfold idxL
  have e : zs.findIdx p = k := by
    rw [List.findIdx_eq h]
    exact ⟨hk, fun j hj => hb j (by omega) hj⟩
  rw [e, if_pos h]

theorem idxL_none {α : Type} {p : α → Bool} {zs : List α} (hb : ∀ j (hj : j < zs.length), p zs[j] = false) : idxL p zs = -1 := by
  unfold idxL
  have e : zs.findIdx p = zs.length := by
    rw [List.findIdx_eq_length]
    intro x hx
    obtain ⟨i, hi, rfl⟩ := List.mem_iff_getElem.1 hx
    exact hb i hi
  rw [e, if_neg (by omega)]

theorem idxL_any {α : Type} (p : α → Bool) (zs : List α) : decide (0 ≤ idxL p zs) = zs.any p := by
  unfold idxL
  by_cases h : zs.findIdx p < zs.length
  · rw [if_pos h]
    have := List.findIdx_lt_length.1 h
    simp
    obtain ⟨x, hx, hp⟩ := this
    exact ⟨x, hx, hp⟩
  · rw [if_neg h]
    have : ¬ ∃ x ∈ zs, p x = true := fun hx => h (List.findIdx_lt_length.2 hx)
    simp at this ⊢
    exact this

theorem idxL_bd {α : Type} (p : α → Bool) (zs : List α) : -1 ≤ idxL p zs ∧ idxL p zs ≤ zs.length := by
  unfold idxL
  split <;> omega

/-- A base's numbers (side, mass, ballast, jib's mass, its radius, counterweight, its radius) are as asked. -/
def baseB (s m b j a c d : Int) : Bool := inB s 10 200 && inB m 1 500000 && inB b 0 500000 && inB j 0 500000 && inB c 0 500000 && inB a 0 1000 && inB d 0 1000

/-- The mass of a crane with a load. -/
def totL (m b j c l : Int) : Int := m + b + j + c + l

/-- The moment of a crane with a load at a radius. -/
def tipL (j a c d l r : Int) : Int := l * r + j * a - c * d

/-- A moment without its sign. -/
def tiltL (n : Int) : Int := max n (-n)

theorem seven (p0 p1 p2 p3 p4 p5 p6 : Bool) : p0 = false ∨ (p0 = true ∧ p1 = false) ∨ (p0 = true ∧ p1 = true ∧ p2 = false) ∨ (p0 = true ∧ p1 = true ∧ p2 = true ∧ p3 = false) ∨ (p0 = true ∧ p1 = true ∧ p2 = true ∧ p3 = true ∧ p4 = false) ∨
    (p0 = true ∧ p1 = true ∧ p2 = true ∧ p3 = true ∧ p4 = true ∧ p5 = false) ∨ (p0 = true ∧ p1 = true ∧ p2 = true ∧ p3 = true ∧ p4 = true ∧ p5 = true ∧ p6 = false) ∨ (p0 = true ∧ p1 = true ∧ p2 = true ∧ p3 = true ∧ p4 = true ∧ p5 = true ∧ p6 = true) := by
  cases p0 <;> cases p1 <;> cases p2 <;> cases p3 <;> cases p4 <;> cases p5 <;> cases p6 <;> simp

/-- What is known of the numbers of a base. -/
theorem base_bd {s m b j a c d : Int} (h : baseB s m b j a c d = true) : (10 ≤ s ∧ s ≤ 200) ∧ (1 ≤ m ∧ m ≤ 500000) ∧ (0 ≤ b ∧ b ≤ 500000) ∧ (0 ≤ j ∧ j ≤ 500000) ∧ (0 ≤ c ∧ c ≤ 500000) ∧ (0 ≤ a ∧ a ≤ 1000) ∧ 0 ≤ d ∧ d ≤ 1000 := by
  simp only [baseB, Bool.and_eq_true] at h
  obtain ⟨⟨⟨⟨⟨⟨g0, g1⟩, g2⟩, g3⟩, g4⟩, g5⟩, g6⟩ := h
  exact ⟨inB_true g0, inB_true g1, inB_true g2, inB_true g3, inB_true g4, inB_true g5, inB_true g6⟩

/-- The parts of a moment, and that they are not too great. -/
def TipP (x y z : Int) : Prop := (0 ≤ x ∧ x ≤ 50000000) ∧ (0 ≤ y ∧ y ≤ 500000000) ∧ 0 ≤ z ∧ z ≤ 500000000

theorem tip_parts {s m b j a c d l r : Int} (h : baseB s m b j a c d = true) (hl : inB l 0 50000 = true) (hr : inB r 0 1000 = true) : TipP (l * r) (j * a) (c * d) := by
  obtain ⟨_, _, _, h3, h4, h5, h6⟩ := base_bd h
  exact ⟨mul_bd l r 50000 1000 (inB_true hl) (inB_true hr), mul_bd j a 500000 1000 h3 h5, mul_bd c d 500000 1000 h4 h6⟩

/-- A base at the beginning of a block. -/
def BaAt (w : World) (p : Nat) (s m b j a c d : Int) : Prop :=
  w.cell? ⟨p, 0, none⟩ = some (.int .i64 s) ∧ w.cell? ⟨p, 1, none⟩ = some (.int .i64 m) ∧ w.cell? ⟨p, 2, none⟩ = some (.int .i64 b) ∧ w.cell? ⟨p, 3, none⟩ = some (.int .i64 j) ∧
    w.cell? ⟨p, 4, none⟩ = some (.int .i64 a) ∧ w.cell? ⟨p, 5, none⟩ = some (.int .i64 c) ∧ w.cell? ⟨p, 6, none⟩ = some (.int .i64 d)

theorem BaAt_kept {W w1 : World} {p : Nat} {s m b j a c d : Int} (h : BaAt W p s m b j a c d) (hb : Below W.heap.size W w1) : BaAt w1 p s m b j a c d := by
  obtain ⟨h0, h1, h2, h3, h4, h5, h6⟩ := h
  have hl := World.block_lt_of_cell? _ _ h0
  refine ⟨?_, ?_, ?_, ?_, ?_, ?_, ?_⟩ <;> (rw [kept_cell hb p _ hl]; assumption)

theorem BaAt_new (s m b j a c d : Int) (w : World) : BaAt (w.alloc (.cells #[.int .i64 s, .int .i64 m, .int .i64 b, .int .i64 j, .int .i64 a, .int .i64 c, .int .i64 d] 25)) w.heap.size s m b j a c d := ⟨by simp, by simp, by simp, by simp, by simp, by simp, by simp⟩

theorem mass_any (n : Int) (w : World) :
    Calls Try.prog 73 #[.int .i64 n] w fun e w' => e = .returned (.bool (inB n 0 500000)) ∧ w = w' := by
  go_enter Try.func73, Try.ntmps73
  go_wp2_with (go_at_call 72; refine (in_any _ _ _ _).mono ?_; rintro e w1 ⟨rfl, rfl⟩)
  go_ret
  exact ⟨rfl, rfl⟩

theorem specBase_any (p : Nat) (s m b j a c d : Int) (w : World) (h : BaAt w p s m b j a c d) :
    Calls Try.prog 41 #[.pointer (some ⟨p, 0, none⟩)] w fun e w' => e = .returned (.bool (baseB s m b j a c d)) ∧ w = w' := by
  obtain ⟨h0, h1, h2, h3, h4, h5, h6⟩ := h
  unfold baseB
  rcases seven (inB s 10 200) (inB m 1 500000) (inB b 0 500000) (inB j 0 500000) (inB c 0 500000) (inB a 0 1000) (inB d 0 1000) with g | ⟨g0, g⟩ | ⟨g0, g1, g⟩ | ⟨g0, g1, g2, g⟩ | ⟨g0, g1, g2, g3, g⟩ | ⟨g0, g1, g2, g3, g4, g⟩ | ⟨g0, g1, g2, g3, g4, g5, g⟩ | ⟨g0, g1, g2, g3, g4, g5, g⟩
  all_goals
    go_enter Try.func41, Try.ntmps41
    go_wp2_with (first | (go_at_call 72; refine (in_any _ _ _ _).mono ?_; rintro e w1 ⟨rfl, rfl⟩) | (go_at_call 73; refine (mass_any _ _).mono ?_; rintro e w1 ⟨rfl, rfl⟩))
    go_ret
    exact ⟨by simp [*], rfl⟩

/-- The code of a base and of what is told about the other arguments. -/
def codeL3 (B : Bool) (bs : List Bool) : Int := if B then (if bs.all id then 0 else 2) else 1

theorem codeL3_ok {B : Bool} {bs : List Bool} (h : codeL3 B bs = 0) : B = true ∧ ∀ x ∈ bs, x = true := by
  unfold codeL3 at h
  cases B
  · simp at h
  · cases hb : bs.all id
    · rw [hb] at h; simp at h
    · exact ⟨rfl, fun x hx => by have := List.all_eq_true.1 hb x hx; simpa using this⟩

theorem specPercent_any (n : Int) (w : World) :
    Calls Try.prog 65 #[.int .i64 n] w fun e w' => e = .returned (.bool (inB n 100 1000)) ∧ w = w' := by
  go_enter Try.func65, Try.ntmps65
  go_wp2_with (go_at_call 72; refine (in_any _ _ _ _).mono ?_; rintro e w1 ⟨rfl, rfl⟩)
  go_ret
  exact ⟨rfl, rfl⟩

theorem BaAt_drew {w : World} {p : Nat} {s m b j a c d : Int} (h : BaAt w p s m b j a c d) (n : Nat) : BaAt (w.drewN n) p s m b j a c d := BaAt_kept h (kept_drewN (Below.refl _ _) n)

theorem specTotal_any (p : Nat) (s m b j a c d : Int) (l : Int) (w : World) (h : BaAt w p s m b j a c d) (hv : baseB s m b j a c d = true) (hl : inB l 0 50000 = true) :
    Calls Try.prog 44 #[.pointer (some ⟨p, 0, none⟩), .int .i64 l] w fun e w' => e = .returned (.int .i64 (totL m b j c l)) ∧ ∃ n, w' = w.drewN n := by
  obtain ⟨h0, h1, h2, h3, h4, h5, h6⟩ := h
  have hb := base_bd hv
  have hi := inB_true hl
  unfold totL
  clear hv hl
  have w1 : IntKind.i64.wrap (m + b) = m + b := IntWalk.i64_in _ (by omega)
  have w2 : IntKind.i64.wrap (m + b + j) = m + b + j := IntWalk.i64_in _ (by omega)
  have w3 : IntKind.i64.wrap (m + b + j + c) = m + b + j + c := IntWalk.i64_in _ (by omega)
  have w4 : IntKind.i64.wrap (m + b + j + c + l) = m + b + j + c + l := IntWalk.i64_in _ (by omega)
  go_enter Try.func44, Try.ntmps44
  go_wp2_with fail
  go_quiet (fail)
  go_wp2
  go_ret
  exact ⟨rfl, _, rfl⟩

theorem specTip_any (p : Nat) (s m b j a c d : Int) (l r : Int) (w : World) (h : BaAt w p s m b j a c d) (hm : TipP (l * r) (j * a) (c * d)) :
    Calls Try.prog 48 #[.pointer (some ⟨p, 0, none⟩), .int .i64 l, .int .i64 r] w fun e w' => e = .returned (.int .i64 (tipL j a c d l r)) ∧ ∃ n, w' = w.drewN n := by
  obtain ⟨h0, h1, h2, h3, h4, h5, h6⟩ := h
  obtain ⟨m0, m1, m2⟩ := hm
  unfold tipL
  have w1 : IntKind.i64.wrap (l * r) = l * r := IntWalk.i64_in _ (by omega)
  have w2 : IntKind.i64.wrap (j * a) = j * a := IntWalk.i64_in _ (by omega)
  have w3 : IntKind.i64.wrap (c * d) = c * d := IntWalk.i64_in _ (by omega)
  have w4 : IntKind.i64.wrap (l * r + j * a) = l * r + j * a := IntWalk.i64_in _ (by omega)
  have w5 : IntKind.i64.wrap (l * r + j * a - c * d) = l * r + j * a - c * d := IntWalk.i64_in _ (by omega)
  go_enter Try.func48, Try.ntmps48
  go_wp2_with fail
  go_quiet (fail)
  go_wp2
  go_ret
  exact ⟨rfl, _, rfl⟩

theorem specSize_any (n : Int) (h : -1000000000000000000 ≤ n ∧ n ≤ 1000000000000000000) (w : World) :
    Calls Try.prog 52 #[.int .i64 n] w fun e w' => e = .returned (.int .i64 (tiltL n)) ∧ w = w' := by
  unfold tiltL
  go_enter Try.func52, Try.ntmps52
  go_wp2_with (go_at_call 78; refine (max_any _ _ _).mono ?_; rintro e w1 ⟨rfl, rfl⟩)
  go_ret
  exact ⟨rfl, rfl⟩

/-- A crane has a safety. -/
def stabB (s m b j a c d : Int) (l r q : Int) : Bool := decide (2 * q * tiltL (tipL j a c d l r) ≤ 100 * totL m b j c l * s)

/-- The numbers of a stability, and that their products are not too great. -/
def StabP (T M s q : Int) : Prop := (0 ≤ T ∧ T ≤ 2050000) ∧ (-550000000 ≤ M ∧ M ≤ 550000000) ∧ (0 ≤ tiltL M ∧ tiltL M ≤ 550000000) ∧ (0 ≤ 100 * T * s ∧ 100 * T * s ≤ 41000000000) ∧ (0 ≤ 2 * q * tiltL M ∧ 2 * q * tiltL M ≤ 1100000000000) ∧ (0 ≤ T * s ∧ T * s ≤ 410000000)

theorem stab_parts {s m b j a c d l r q : Int} (h : baseB s m b j a c d = true) (hl : inB l 0 50000 = true) (hr : inB r 0 1000 = true) (hq : inB q 0 1000 = true) : StabP (totL m b j c l) (tipL j a c d l r) s q := by
  have hp := tip_parts h hl hr
  have hb := base_bd h
  have gl := inB_true hl
  have gq := inB_true hq
  obtain ⟨p0, p1, p2⟩ := hp
  have hT : 0 ≤ totL m b j c l ∧ totL m b j c l ≤ 2050000 := by unfold totL; omega
  have hM : -550000000 ≤ tipL j a c d l r ∧ tipL j a c d l r ≤ 550000000 := by unfold tipL; omega
  have hA : 0 ≤ tiltL (tipL j a c d l r) ∧ tiltL (tipL j a c d l r) ≤ 550000000 := by unfold tiltL; omega
  have k1 := mul_bd (100 * totL m b j c l) s 205000000 200 (by omega) (by omega)
  have k2 := mul_bd (2 * q) (tiltL (tipL j a c d l r)) 2000 550000000 (by omega) hA
  have k3 := mul_bd (totL m b j c l) s 2050000 200 (by omega) (by omega)
  exact ⟨hT, hM, hA, by omega, by omega, by omega⟩

theorem specStable_any (p : Nat) (s m b j a c d : Int) (l r q : Int) (w : World) (h : BaAt w p s m b j a c d) (hv : baseB s m b j a c d = true) (hl : inB l 0 50000 = true) (hr : inB r 0 1000 = true) (hq : inB q 0 1000 = true) :
    Calls Try.prog 55 #[.pointer (some ⟨p, 0, none⟩), .int .i64 l, .int .i64 r, .int .i64 q] w fun e w' => e = .returned (.bool (stabB s m b j a c d l r q)) ∧ ∃ n, w' = w.drewN n := by
  have HT := Lib.hid (fun n => specTotal_any p s m b j a c d l (w.drewN n) (BaAt_drew h n) hv hl)
  have hS := stab_parts hv hl hr hq
  have HM := Lib.hid (fun n => specTip_any p s m b j a c d l r (w.drewN n) (BaAt_drew h n) (tip_parts hv hl hr))
  obtain ⟨h0, h1, h2, h3, h4, h5, h6⟩ := h
  have gq := inB_true hq
  have gs := (base_bd hv).1
  unfold stabB
  clear h1 h2 h3 h4 h5 h6 hv hl hr hq
  generalize totL m b j c l = T at *
  generalize tipL j a c d l r = M at *
  have HA := Lib.hid (fun u => specSize_any M (by have := hS.2.1; omega) u)
  obtain ⟨s0, s1, s2, s3, s4, _⟩ := hS
  generalize tiltL M = A at *
  have x1 : IntKind.i64.wrap (100 * T) = 100 * T := IntWalk.i64_in _ (by omega)
  have x2 : IntKind.i64.wrap (100 * T * s) = 100 * T * s := IntWalk.i64_in _ (by omega)
  have x3 : IntKind.i64.wrap (2 * q) = 2 * q := IntWalk.i64_in _ (by omega)
  have x4 : IntKind.i64.wrap (2 * q * A) = 2 * q * A := IntWalk.i64_in _ (by omega)
  go_enter Try.func55, Try.ntmps55
  go_wp2_with fail
  go_quiet (first | (go_at_call 44; exact Calls.quiet_of (HT.out _)) | (go_at_call 48; exact Calls.quiet_of (HM.out _)) | (go_at_call 52; exact Calls.quiet_of_same ((HA.out _).mono fun e w' h => ⟨h.1, h.2.symm⟩)))
  go_wp2
  go_ret
  exact ⟨rfl, _, rfl⟩

/-- The greatest of the numbers 50 * n, .., 50, 0 with p; -1 if there is none. -/
def downL (p : Int → Bool) : Nat → Int
  | 0 => if p 0 then 0 else -1
  | n + 1 => if p (50 * (n + 1 : Nat)) then 50 * (n + 1 : Nat) else downL p n

theorem downL_bd (p : Int → Bool) (n : Nat) : downL p n = -1 ∨ (0 ≤ downL p n ∧ downL p n ≤ 50 * n ∧ p (downL p n) = true) := by
  induction n with
  | zero => unfold downL; split <;> simp_all
  | succ n ih =>
    unfold downL
    split
    · right; refine ⟨by omega, by omega, by assumption⟩
    · rcases ih with h | h
      · exact Or.inl h
      · right; refine ⟨h.1, by omega, h.2.2⟩

/-- The safe part of a chart: g: the greatest loads, p: what is stable, l: the load before. -/
def safeL (g : Int → Int) (p : Int → Int → Bool) : Int → List (Int × Int) → List (Int × Int)
  | _, [] => []
  | l, z :: zs => if g z.1 < 0 ∨ p (min (min z.2 (g z.1)) l) z.1 = false then [] else (z.1, min (min z.2 (g z.1)) l) :: safeL g p (min (min z.2 (g z.1)) l) zs

theorem RdI_of (w : World) (g c : Nat) (zs : List Int) (hl : zs.length ≤ 9223372036854775807) (hg : g < w.heap.size) (hc : ∀ k, (hk : k < zs.length) → w.cell? ⟨g, k, none⟩ = some (.int .i64 zs[k])) : RdI w (.slice (some ⟨g, 0, none⟩) zs.length c) zs :=
  ⟨hl, _, _, rfl, fun k hk => ⟨g, 0, rfl, hg, by rw [Nat.zero_add]; exact hc k hk⟩⟩

theorem rdI1 {w : World} {g c : Nat} {x : Int} (hg : g < w.heap.size) (h0 : w.cell? ⟨g, 0, none⟩ = some (.int .i64 x)) : RdI w (.slice (some ⟨g, 0, none⟩) 1 c) [x] :=
  RdI_of w g c [x] (by simp) hg (fun k hk => by simp at hk; subst hk; exact h0)

theorem rdI2 {w : World} {g c : Nat} {x y : Int} (hg : g < w.heap.size) (h0 : w.cell? ⟨g, 0, none⟩ = some (.int .i64 x)) (h1 : w.cell? ⟨g, 1, none⟩ = some (.int .i64 y)) : RdI w (.slice (some ⟨g, 0, none⟩) 2 c) [x, y] :=
  RdI_of w g c [x, y] (by simp) hg (fun k hk => by
    match k, hk with
    | 0, _ => exact h0
    | 1, _ => exact h1)

theorem rdI3 {w : World} {g c : Nat} {x y z : Int} (hg : g < w.heap.size) (h0 : w.cell? ⟨g, 0, none⟩ = some (.int .i64 x)) (h1 : w.cell? ⟨g, 1, none⟩ = some (.int .i64 y)) (h2 : w.cell? ⟨g, 2, none⟩ = some (.int .i64 z)) : RdI w (.slice (some ⟨g, 0, none⟩) 3 c) [x, y, z] :=
  RdI_of w g c [x, y, z] (by simp) hg (fun k hk => by
    match k, hk with
    | 0, _ => exact h0
    | 1, _ => exact h1
    | 2, _ => exact h2)

set_option maxRecDepth 100000 in
theorem indexFuncI_any (v : Value) (zs : List Int) (g : FuncId) (he : Enters Try.prog g) (cap : Array Value) (p : Int → Bool) (w : World) (h : RdI w v zs)
    (hf : ∀ k (hk : k < zs.length) w1, Below w.heap.size w w1 → Calls Try.prog g (#[.int .i64 zs[k]] ++ cap) w1 fun e w2 => e = .returned (.bool (p zs[k])) ∧ Below w1.heap.size w1 w2) :
    Calls Try.prog 80 #[v, .func (.func g) #[] cap] w fun e w' => e = .returned (.int .i64 (idxL p zs)) ∧ Below w.heap.size w w' := by
  obtain ⟨hl, A, c, rfl, r1⟩ := h
  have R := Lib.hid r1; clear r1
  have Hf := Lib.hid hf; clear hf
  have HIS := Lib.hid (fun k (h : k < zs.length) => @idxL_is _ p zs k h)
  have HNO := Lib.hid (@idxL_none _ p zs)
  generalize idxL p zs = G at *
  go_enter Try.func80, Try.ntmps80
  go_wp2_with fail
  go_loopw [8] (fun i wr => ∃ k : Nat, k ≤ zs.length ∧ i = .int .i64 k ∧ (∀ j (hj : j < zs.length), j < k → p zs[j] = false) ∧ Below w.heap.size w wr) (fun i _ => zs.length - (intOf i).toNat)
  case atStart => exact ⟨0, by omega, rfl, fun j _ h => by omega, Below.refl _ _⟩
  case round =>
    obtain ⟨k, hk, rfl, hall, hb⟩ := hrel
    by_cases hlt : k < zs.length
    · obtain ⟨b, off, rfl, hbl, hc0⟩ := R.out k hlt
      rw [← kept_cell hb b _ hbl] at hc0
      have hc := Hf.out k hlt wr hb
      cases hp : p zs[k]
      · have hnx : ∀ j (hj : j < zs.length), j < k + 1 → p zs[j] = false := fun j hj hjk => by
          rcases Nat.lt_or_ge j k with h1 | h1
          · exact hall j hj h1
          · obtain rfl : j = k := by omega
            exact hp
        rw [hp] at hc
        have HNX := Lib.hid hnx; clear hnx hall hp
        have Hc := Lib.hid hc; clear hc
        generalize zs[k] = x at *
        go_wp2_with fail
        rw [he, Oper.upon_enter]
        refine Hc.out.mono ?_
        rintro e w1 ⟨rfl, hb1⟩
        go_wp2
        go_roundw
        case rel => exact ⟨k + 1, by omega, by go_num, HNX.out, kept_trans hb hb1⟩
        case measure => simp [intOf]; omega
      · have hE := HIS.out k hlt hp hall
        subst hE
        rw [hp] at hc
        have Hc := Lib.hid hc; clear hc hall hp
        generalize zs[k] = x at *
        go_wp2_with fail
        rw [he, Oper.upon_enter]
        refine Hc.out.mono ?_
        rintro e w1 ⟨rfl, hb1⟩
        go_wp2
        go_ret
        exact ⟨rfl, kept_trans hb hb1⟩
    · have : k = zs.length := by omega
      subst this
      have hE := HNO.out (fun j hj => hall j hj hj)
      clear hall
      subst hE
      go_wp2
      go_ret
      exact ⟨rfl, hb⟩

theorem containsFuncI_any (v : Value) (zs : List Int) (g : FuncId) (he : Enters Try.prog g) (cap : Array Value) (p : Int → Bool) (w : World) (h : RdI w v zs)
    (hf : ∀ k (hk : k < zs.length) w1, Below w.heap.size w w1 → Calls Try.prog g (#[.int .i64 zs[k]] ++ cap) w1 fun e w2 => e = .returned (.bool (p zs[k])) ∧ Below w1.heap.size w1 w2) :
    Calls Try.prog 74 #[v, .func (.func g) #[] cap] w fun e w' => e = .returned (.bool (zs.any p)) ∧ Below w.heap.size w w' := by
  have H := Lib.hid (indexFuncI_any v zs g he cap p w h hf)
  obtain ⟨hl, A, c, rfl, r1⟩ := h
  clear hf r1
  have hbd := idxL_bd p zs
  rw [← idxL_any]
  generalize idxL p zs = G at *
  go_enter Try.func74, Try.ntmps74
  go_wp2_with fail
  refine H.out.mono ?_
  rintro e w1 ⟨rfl, hb1⟩
  go_wp2
  go_ret
  exact ⟨rfl, hb1⟩

theorem outside_any (n lo hi : Int) (b1 b2 : Nat) (w : World) (h1 : w.cell? ⟨b1, 0, none⟩ = some (.int .i64 lo)) (h2 : w.cell? ⟨b2, 0, none⟩ = some (.int .i64 hi)) :
    Calls Try.prog 75 #[.int .i64 n, .pointer (some ⟨b1, 0, none⟩), .pointer (some ⟨b2, 0, none⟩)] w fun e w' => e = .returned (.bool (!inB n lo hi)) ∧ Below w.heap.size w w' := by
  unfold inB
  by_cases g1 : lo ≤ n <;> by_cases g2 : n ≤ hi
  all_goals
    go_enter Try.func75, Try.ntmps75
    go_wp2
    go_ret
    exact ⟨by simp [*], Below.refl _ _⟩

theorem within_any (lo hi : Int) (v : Value) (zs : List Int) (w : World) (h : RdI w v zs) :
    Calls Try.prog 42 #[.int .i64 lo, .int .i64 hi, v] w fun e w' => e = .returned (.bool (zs.all fun n => inB n lo hi)) ∧ Below w.heap.size w w' := by
  have hall : (zs.all fun n => inB n lo hi) = !(zs.any fun n => !inB n lo hi) := by simp [List.any_eq_not_all_not]
  rw [hall]
  clear hall
  have HC := Lib.hid (fun u (q : RdI u v zs) b1 b2 (l1 : b1 < u.heap.size) (l2 : b2 < u.heap.size) (c1 : u.cell? ⟨b1, 0, none⟩ = some (.int .i64 lo)) (c2 : u.cell? ⟨b2, 0, none⟩ = some (.int .i64 hi)) =>
    containsFuncI_any v zs 75 (enters_of Try.func75 (by kernel_rfl) rfl) #[.pointer (some ⟨b1, 0, none⟩), .pointer (some ⟨b2, 0, none⟩)] (fun n => !inB n lo hi) u q
      (fun k hk w1 hb => outside_any zs[k] lo hi b1 b2 w1 (by rw [kept_cell hb b1 0 l1]; exact c1) (by rw [kept_cell hb b2 0 l2]; exact c2)))
  obtain ⟨hl, A, c, rfl, r1⟩ := h
  have H := Lib.hid (show RdI w (.slice A zs.length c) zs from ⟨hl, A, c, rfl, r1⟩); clear r1
  generalize (zs.any fun n => !inB n lo hi) = X at *
  have hmf : ∀ (fn : Fn) (first cap : Array Value) (w : World), (Instr.makeFunc fn first cap).run Try.prog w = .ok (.func fn first cap) w := fun _ _ _ _ => rfl
  go_enter Try.func42, Try.ntmps42
  go_wp2_with fail
  refine (HC.out _ (RdI_kept H.out (by go_grown)) w.heap.size (w.heap.size + 1) (by simp; try omega) (by simp) (by simp) (by simp)).mono ?_
  rintro e w1 ⟨rfl, hb1⟩
  have b1 := kept_trans (a := w) (by go_grown) hb1
  go_wp2
  go_ret
  exact ⟨rfl, b1⟩

theorem toBase_any (s m b j a c d : Int) (w : World) :
    Calls Try.prog 14 #[.agg #[.int .i64 s, .int .i64 m, .int .i64 b, .int .i64 j, .int .i64 a, .int .i64 c, .int .i64 d]] w fun e w' => e = .returned (.agg #[.int .i64 s, .int .i64 m, .int .i64 b, .int .i64 j, .int .i64 a, .int .i64 c, .int .i64 d]) ∧ Below w.heap.size w w' := by
  go_enter Try.func14, Try.ntmps14
  go_wp2
  go_returns
  exact ⟨rfl, by go_grown⟩

set_option maxRecDepth 100000 in
/-- An argument that is a base. -/
theorem open_base {H : Type} {enc : TypeId × Value → H} {W : World} {base : Nat} {v : Value} {d : DataW H} {p : List MemPlace}
    (hv : Value.okWide Try.prog W .any base 23 v) (h : DataW.Trod enc Try.prog W 0 (fun _ => true) true 23 v d p) :
    ∃ s m b j a c d : Int, v = .agg #[.int .i64 s, .int .i64 m, .int .i64 b, .int .i64 j, .int .i64 a, .int .i64 c, .int .i64 d] := by
  obtain ⟨cs, rfl, hsz⟩ := okWide_struct Try.underlying23 hv
  obtain ⟨fuel, hf⟩ := h
  obtain ⟨xs, n, _, _, hl, hlen, hg⟩ := DataW.trod_struct Try.underlying23 (show DataW.trod enc Try.prog W 0 (fun _ => true) true fuel 23 cs.toList = some (d, p) from by simpa [Value.cells] using hf)
  have hl7 : cs.toList.length = 7 := hl.trans (by kernel_rfl)
  have z : Try.prog.cellsOf 2 = 1 := by kernel_rfl
  have h0 : DataW.trod enc Try.prog W 0 (fun _ => true) true n 2 ((cs.toList.drop 0).take (Try.prog.cellsOf 2)) = xs[0]? := hg 0 _ rfl
  have h1 : DataW.trod enc Try.prog W 0 (fun _ => true) true n 2 ((cs.toList.drop 1).take (Try.prog.cellsOf 2)) = xs[1]? := hg 1 _ rfl
  have h2 : DataW.trod enc Try.prog W 0 (fun _ => true) true n 2 ((cs.toList.drop 2).take (Try.prog.cellsOf 2)) = xs[2]? := hg 2 _ rfl
  have h3 : DataW.trod enc Try.prog W 0 (fun _ => true) true n 2 ((cs.toList.drop 3).take (Try.prog.cellsOf 2)) = xs[3]? := hg 3 _ rfl
  have h4 : DataW.trod enc Try.prog W 0 (fun _ => true) true n 2 ((cs.toList.drop 4).take (Try.prog.cellsOf 2)) = xs[4]? := hg 4 _ rfl
  have h5 : DataW.trod enc Try.prog W 0 (fun _ => true) true n 2 ((cs.toList.drop 5).take (Try.prog.cellsOf 2)) = xs[5]? := hg 5 _ rfl
  have h6 : DataW.trod enc Try.prog W 0 (fun _ => true) true n 2 ((cs.toList.drop 6).take (Try.prog.cellsOf 2)) = xs[6]? := hg 6 _ rfl
  obtain ⟨l⟩ := cs
  match l, hl7 with
  | [c0, c1, c2, c3, c4, c5, c6], _ =>
    have i0 : xs[0]? = some (xs[0]'(by rw [hlen]; decide)) := List.getElem?_eq_getElem _
    have i1 : xs[1]? = some (xs[1]'(by rw [hlen]; decide)) := List.getElem?_eq_getElem _
    have i2 : xs[2]? = some (xs[2]'(by rw [hlen]; decide)) := List.getElem?_eq_getElem _
    have i3 : xs[3]? = some (xs[3]'(by rw [hlen]; decide)) := List.getElem?_eq_getElem _
    have i4 : xs[4]? = some (xs[4]'(by rw [hlen]; decide)) := List.getElem?_eq_getElem _
    have i5 : xs[5]? = some (xs[5]'(by rw [hlen]; decide)) := List.getElem?_eq_getElem _
    have i6 : xs[6]? = some (xs[6]'(by rw [hlen]; decide)) := List.getElem?_eq_getElem _
    simp only [i0, i1, i2, i3, i4, i5, i6, z, List.drop_succ_cons, List.drop_zero, List.take_succ_cons, List.take_zero] at h0 h1 h2 h3 h4 h5 h6
    obtain ⟨x0, e0, _, _⟩ := DataW.trod_int Try.underlying2 h0
    obtain ⟨x1, e1, _, _⟩ := DataW.trod_int Try.underlying2 h1
    obtain ⟨x2, e2, _, _⟩ := DataW.trod_int Try.underlying2 h2
    obtain ⟨x3, e3, _, _⟩ := DataW.trod_int Try.underlying2 h3
    obtain ⟨x4, e4, _, _⟩ := DataW.trod_int Try.underlying2 h4
    obtain ⟨x5, e5, _, _⟩ := DataW.trod_int Try.underlying2 h5
    obtain ⟨x6, e6, _, _⟩ := DataW.trod_int Try.underlying2 h6
    simp only [List.cons.injEq, and_true] at e0 e1 e2 e3 e4 e5 e6
    subst e0 e1 e2 e3 e4 e5 e6
    exact ⟨x0, x1, x2, x3, x4, x5, x6, rfl⟩

/-- The slice value reads as a list of truth values. -/
def RdT (w : World) (v : Value) (zs : List Bool) : Prop :=
  zs.length ≤ 9223372036854775807 ∧ ∃ A c, v = .slice A zs.length c ∧ ∀ k, (hk : k < zs.length) → ∃ b off, A = some ⟨b, off, none⟩ ∧ b < w.heap.size ∧ w.cell? ⟨b, off + k, none⟩ = some (.bool zs[k])

theorem RdT_of (w : World) (g c : Nat) (zs : List Bool) (hl : zs.length ≤ 9223372036854775807) (hg : g < w.heap.size) (hc : ∀ k, (hk : k < zs.length) → w.cell? ⟨g, k, none⟩ = some (.bool zs[k])) : RdT w (.slice (some ⟨g, 0, none⟩) zs.length c) zs :=
  ⟨hl, _, _, rfl, fun k hk => ⟨g, 0, rfl, hg, by rw [Nat.zero_add]; exact hc k hk⟩⟩

theorem RdT_kept {W w1 : World} {v : Value} {zs : List Bool} (h : RdT W v zs) (hb : Below W.heap.size W w1) : RdT w1 v zs := by
  obtain ⟨hl, A, c, rfl, hr⟩ := h
  refine ⟨hl, A, c, rfl, fun k hk => ?_⟩
  obtain ⟨b, off, e, hlt, hc⟩ := hr k hk
  exact ⟨b, off, e, Nat.lt_of_lt_of_le hlt hb.size, by rw [kept_cell hb b _ hlt]; exact hc⟩

theorem rdT1 {w : World} {g c : Nat} {x : Bool} (hg : g < w.heap.size) (h0 : w.cell? ⟨g, 0, none⟩ = some (.bool x)) : RdT w (.slice (some ⟨g, 0, none⟩) 1 c) [x] :=
  RdT_of w g c [x] (by simp) hg (fun k hk => by simp at hk; subst hk; exact h0)

theorem indexT_any (v : Value) (zs : List Bool) (w : World) (h : RdT w v zs) :
    Calls Try.prog 81 #[v, .bool false] w fun e w' => e = .returned (.int .i64 (idxL (fun x => !x) zs)) ∧ Below w.heap.size w w' := by
  obtain ⟨hl, A, c, rfl, r1⟩ := h
  have R := Lib.hid r1; clear r1
  have HIS := Lib.hid (fun k (h : k < zs.length) => @idxL_is _ (fun x : Bool => !x) zs k h)
  have HNO := Lib.hid (@idxL_none _ (fun x : Bool => !x) zs)
  generalize idxL (fun x : Bool => !x) zs = G at *
  go_enter Try.func81, Try.ntmps81
  go_wp2_with fail
  go_loopw [8] (fun i wr => ∃ k : Nat, k ≤ zs.length ∧ i = .int .i64 k ∧ (∀ j (hj : j < zs.length), j < k → (!zs[j]) = false) ∧ Below w.heap.size w wr) (fun i _ => zs.length - (intOf i).toNat)
  case atStart => exact ⟨0, by omega, rfl, fun j _ h => by omega, Below.refl _ _⟩
  case round =>
    obtain ⟨k, hk, rfl, hall, hb⟩ := hrel
    by_cases hlt : k < zs.length
    · obtain ⟨b, off, rfl, hbl, hc0⟩ := R.out k hlt
      rw [← kept_cell hb b _ hbl] at hc0
      cases hp : zs[k]
      · have hE := HIS.out k hlt (by rw [hp]; rfl) hall
        subst hE
        rw [hp] at hc0
        clear hp hall
        go_wp2
        go_ret
        exact ⟨rfl, hb⟩
      · have hnx : ∀ j (hj : j < zs.length), j < k + 1 → (!zs[j]) = false := fun j hj hjk => by
          rcases Nat.lt_or_ge j k with h1 | h1
          · exact hall j hj h1
          · obtain rfl : j = k := by omega
            rw [hp]; rfl
        have HNX := Lib.hid hnx; clear hnx hall
        rw [hp] at hc0
        clear hp
        go_wp2
        go_roundw
        case rel => exact ⟨k + 1, by omega, by go_num, HNX.out, hb⟩
        case measure => simp [intOf]; omega
    · have : k = zs.length := by omega
      subst this
      have hE := HNO.out (fun j hj => hall j hj hj)
      clear hall
      subst hE
      go_wp2
      go_ret
      exact ⟨rfl, hb⟩

theorem containsT_any (v : Value) (zs : List Bool) (w : World) (h : RdT w v zs) :
    Calls Try.prog 76 #[v, .bool false] w fun e w' => e = .returned (.bool (zs.any fun x => !x)) ∧ Below w.heap.size w w' := by
  have H := Lib.hid (indexT_any v zs w h)
  obtain ⟨hl, A, c, rfl, r1⟩ := h
  clear r1
  have hbd := idxL_bd (fun x : Bool => !x) zs
  rw [← idxL_any]
  generalize idxL (fun x : Bool => !x) zs = G at *
  go_enter Try.func76, Try.ntmps76
  go_wp2_with fail
  refine H.out.mono ?_
  rintro e w1 ⟨rfl, hb1⟩
  go_wp2
  go_ret
  exact ⟨rfl, hb1⟩

theorem four (p0 p1 p2 p3 : Bool) : p0 = false ∨ (p0 = true ∧ p1 = false) ∨ (p0 = true ∧ p1 = true ∧ p2 = false) ∨ (p0 = true ∧ p1 = true ∧ p2 = true ∧ p3 = false) ∨ (p0 = true ∧ p1 = true ∧ p2 = true ∧ p3 = true) := by
  cases p0 <;> cases p1 <;> cases p2 <;> cases p3 <;> simp

set_option maxHeartbeats 1000000 in
theorem implVB_any (s m b j a c d : Int) (w : World) :
    Calls Try.prog 15 #[.agg #[.int .i64 s, .int .i64 m, .int .i64 b, .int .i64 j, .int .i64 a, .int .i64 c, .int .i64 d]] w fun e w' => e = .returned (.bool (baseB s m b j a c d)) ∧ Below w.heap.size w w' := by
  have e1 : baseB s m b j a c d = ([s].all (fun n => inB n 10 200) && [m].all (fun n => inB n 1 500000) && [b, j, c].all (fun n => inB n 0 500000) && [a, d].all (fun n => inB n 0 1000)) := by simp [baseB, Bool.and_assoc]
  rw [e1]; clear e1
  have H0 := fun v u q => within_any 10 200 v [s] u q
  have H1 := fun v u q => within_any 1 500000 v [m] u q
  have H2 := fun v u q => within_any 0 500000 v [b, j, c] u q
  have H3 := fun v u q => within_any 0 1000 v [a, d] u q
  generalize [s].all (fun n => inB n 10 200) = p0 at *
  generalize [m].all (fun n => inB n 1 500000) = p1 at *
  generalize [b, j, c].all (fun n => inB n 0 500000) = p2 at *
  generalize [a, d].all (fun n => inB n 0 1000) = p3 at *
  rcases four p0 p1 p2 p3 with rfl | ⟨rfl, rfl⟩ | ⟨rfl, rfl, rfl⟩ | ⟨rfl, rfl, rfl, rfl⟩ | ⟨rfl, rfl, rfl, rfl⟩
  all_goals
    have H0 := Lib.hid H0
    have H1 := Lib.hid H1
    have H2 := Lib.hid H2
    have H3 := Lib.hid H3
  case inl =>
    go_enter Try.func15, Try.ntmps15
    go_wp2_with fail
    refine (H0.out _ _ (rdI1 (by go_size) (by go_simp))).mono ?_
    rintro e w1 ⟨rfl, hb1⟩
    refine kept_at hb1 w.heap.size (by go_size) fun c1_0 z1_0 s1_0 => ?_
    have b1 := kept_trans (a := w) (by go_grown) hb1
    go_wp2
    go_ret
    exact ⟨rfl, b1⟩
  case inr.inl =>
    go_enter Try.func15, Try.ntmps15
    go_wp2_with fail
    refine (H0.out _ _ (rdI1 (by go_size) (by go_simp))).mono ?_
    rintro e w1 ⟨rfl, hb1⟩
    refine kept_at hb1 w.heap.size (by go_size) fun c1_0 z1_0 s1_0 => ?_
    have b1 := kept_trans (a := w) (by go_grown) hb1
    go_wp2_with fail
    refine (H1.out _ _ (rdI1 (by go_size) (by go_simp))).mono ?_
    rintro e w2 ⟨rfl, hb2⟩
    refine kept_at hb2 w.heap.size (by go_size) fun c2_0 z2_0 s2_0 => ?_
    have b2 := kept_trans (a := w) (by go_grown) hb2
    go_wp2
    go_ret
    exact ⟨rfl, b2⟩
  case inr.inr.inl =>
    go_enter Try.func15, Try.ntmps15
    go_wp2_with fail
    refine (H0.out _ _ (rdI1 (by go_size) (by go_simp))).mono ?_
    rintro e w1 ⟨rfl, hb1⟩
    refine kept_at hb1 w.heap.size (by go_size) fun c1_0 z1_0 s1_0 => ?_
    have b1 := kept_trans (a := w) (by go_grown) hb1
    go_wp2_with fail
    refine (H1.out _ _ (rdI1 (by go_size) (by go_simp))).mono ?_
    rintro e w2 ⟨rfl, hb2⟩
    refine kept_at hb2 w.heap.size (by go_size) fun c2_0 z2_0 s2_0 => ?_
    have b2 := kept_trans (a := w) (by go_grown) hb2
    go_wp2_with fail
    refine (H2.out _ _ (rdI3 (by go_size) (by go_simp) (by go_simp) (by go_simp))).mono ?_
    rintro e w3 ⟨rfl, hb3⟩
    refine kept_at hb3 w.heap.size (by go_size) fun c3_0 z3_0 s3_0 => ?_
    have b3 := kept_trans (a := w) (by go_grown) hb3
    go_wp2
    go_ret
    exact ⟨rfl, b3⟩
  all_goals
    go_enter Try.func15, Try.ntmps15
    go_wp2_with fail
    refine (H0.out _ _ (rdI1 (by go_size) (by go_simp))).mono ?_
    rintro e w1 ⟨rfl, hb1⟩
    refine kept_at hb1 w.heap.size (by go_size) fun c1_0 z1_0 s1_0 => ?_
    have b1 := kept_trans (a := w) (by go_grown) hb1
    go_wp2_with fail
    refine (H1.out _ _ (rdI1 (by go_size) (by go_simp))).mono ?_
    rintro e w2 ⟨rfl, hb2⟩
    refine kept_at hb2 w.heap.size (by go_size) fun c2_0 z2_0 s2_0 => ?_
    have b2 := kept_trans (a := w) (by go_grown) hb2
    go_wp2_with fail
    refine (H2.out _ _ (rdI3 (by go_size) (by go_simp) (by go_simp) (by go_simp))).mono ?_
    rintro e w3 ⟨rfl, hb3⟩
    refine kept_at hb3 w.heap.size (by go_size) fun c3_0 z3_0 s3_0 => ?_
    have b3 := kept_trans (a := w) (by go_grown) hb3
    go_wp2_with fail
    refine (H3.out _ _ (rdI2 (by go_size) (by go_simp) (by go_simp))).mono ?_
    rintro e w4 ⟨rfl, hb4⟩
    have b4 := kept_trans (a := w) (by go_grown) hb4
    go_wp2
    go_ret
    exact ⟨rfl, b4⟩

theorem validPercent_any (n : Int) (w : World) :
    Calls Try.prog 56 #[.int .i64 n] w fun e w' => e = .returned (.bool (inB n 100 1000)) ∧ Below w.heap.size w w' := by
  have H := fun v u q => within_any 100 1000 v [n] u q
  rw [show ([n].all fun n => inB n 100 1000) = inB n 100 1000 by simp] at H
  have H := Lib.hid H
  generalize inB n 100 1000 = p at *
  go_enter Try.func56, Try.ntmps56
  go_wp2_with fail
  refine (H.out _ _ (rdI1 (by go_size) (by go_simp))).mono ?_
  rintro e w1 ⟨rfl, hb1⟩
  have b1 := kept_trans (a := w) (by go_grown) hb1
  go_wp2
  go_ret
  exact ⟨rfl, b1⟩

theorem baseCode_any (s m b j a c d : Int) (v : Value) (zs : List Bool) (w : World) (h : RdT w v zs) :
    Calls Try.prog 45 #[.agg #[.int .i64 s, .int .i64 m, .int .i64 b, .int .i64 j, .int .i64 a, .int .i64 c, .int .i64 d], v] w fun e w' => e = .returned (.int .i64 (codeL3 (baseB s m b j a c d) zs)) ∧ Below w.heap.size w w' := by
  have HB := fun u => implVB_any s m b j a c d u
  have HC := fun u (q : RdT u v zs) => containsT_any v zs u q
  have hE : codeL3 (baseB s m b j a c d) zs = if baseB s m b j a c d = true then (if (zs.any fun x => !x) = true then 2 else 0) else 1 := by
    unfold codeL3
    have : (zs.any fun x => !x) = !(zs.all id) := by simp [List.any_eq_not_all_not]; rfl
    rw [this]
    cases baseB s m b j a c d <;> cases zs.all id <;> rfl
  rw [hE]
  clear hE
  have H := Lib.hid h
  obtain ⟨hl, A, cp, rfl, _⟩ := h
  generalize baseB s m b j a c d = p at *
  generalize (zs.any fun x => !x) = q at *
  cases p
  case false =>
    have HB := Lib.hid HB
    clear HC
    go_enter Try.func45, Try.ntmps45
    go_wp2_with fail
    refine (HB.out _).mono ?_
    rintro e w1 ⟨rfl, hb1⟩
    have b1 := kept_trans (a := w) (by go_grown) hb1
    go_wp2
    go_ret
    exact ⟨rfl, b1⟩
  cases q
  all_goals
    have HB := Lib.hid HB
    have HC := Lib.hid HC
    go_enter Try.func45, Try.ntmps45
    go_wp2_with fail
    refine (HB.out _).mono ?_
    rintro e w1 ⟨rfl, hb1⟩
    have b1 := kept_trans (a := w) (by go_grown) hb1
    go_wp2_with fail
    refine (HC.out _ (RdT_kept H.out b1)).mono ?_
    rintro e w2 ⟨rfl, hb2⟩
    have b2 := kept_trans b1 hb2
    go_wp2
    go_ret
    exact ⟨rfl, b2⟩

theorem loaded_any (s m b j a c d : Int) (l r : Int) (w : World) (hv : baseB s m b j a c d = true) (hl : inB l 0 50000 = true) (hr : inB r 0 1000 = true) :
    Calls Try.prog 47 #[.agg #[.int .i64 s, .int .i64 m, .int .i64 b, .int .i64 j, .int .i64 a, .int .i64 c, .int .i64 d], .int .i64 l, .int .i64 r] w fun e w' => e = .returned (.tuple #[.int .i64 (totL m b j c l), .int .i64 (tipL j a c d l r)]) ∧ Below w.heap.size w w' := by
  obtain ⟨m0, m1, m2⟩ := tip_parts hv hl hr
  have hb := base_bd hv
  have hi := inB_true hl
  unfold totL tipL
  clear hv hl hr
  have w1 : IntKind.i64.wrap (l * r) = l * r := IntWalk.i64_in _ (by omega)
  have w2 : IntKind.i64.wrap (j * a) = j * a := IntWalk.i64_in _ (by omega)
  have w3 : IntKind.i64.wrap (c * d) = c * d := IntWalk.i64_in _ (by omega)
  have v1 : wrap64 (l * r) = l * r := IntWalk.wrap64_in _ (by omega)
  have v2 : wrap64 (j * a) = j * a := IntWalk.wrap64_in _ (by omega)
  have v3 : wrap64 (c * d) = c * d := IntWalk.wrap64_in _ (by omega)
  go_enter Try.func47, Try.ntmps47
  go_wp2
  go_ret2
  exact ⟨by simp [*], by go_grown⟩

theorem stance_any (s m b j a c d : Int) (l r : Int) (w : World) (hv : baseB s m b j a c d = true) (hl : inB l 0 50000 = true) (hr : inB r 0 1000 = true) :
    Calls Try.prog 53 #[.agg #[.int .i64 s, .int .i64 m, .int .i64 b, .int .i64 j, .int .i64 a, .int .i64 c, .int .i64 d], .int .i64 l, .int .i64 r] w fun e w' => e = .returned (.agg #[.int .i64 s, .int .i64 (totL m b j c l), .int .i64 (tiltL (tipL j a c d l r))]) ∧ Below w.heap.size w w' := by
  have HL := Lib.hid (fun u => loaded_any s m b j a c d l r u hv hl hr)
  have hS := stab_parts hv hl hr (q := 0) (by simp [inB])
  clear hv hl hr
  unfold tiltL at *
  generalize totL m b j c l = T at *
  generalize tipL j a c d l r = M at *
  obtain ⟨s0, s1, s2, _⟩ := hS
  go_enter Try.func53, Try.ntmps53
  go_wp2_with fail
  refine (HL.out _).mono ?_
  rintro e w1 ⟨rfl, hb1⟩
  refine kept_at hb1 w.heap.size (by go_size) fun c1_0 z1_0 s1_0 => ?_
  refine kept_at hb1 (w.heap.size + 1) (by go_size) fun c1_1 z1_1 s1_1 => ?_
  have b1 := kept_trans (a := w) (by go_grown) hb1
  go_wp2
  all_goals
    (try simp only [Exit.inBlock, Exit.then])
    refine bodyPost_ret (v := .agg #[.int .i64 s, .int .i64 T, .int .i64 (max M (-M))]) ?_ rfl ⟨rfl, ?_⟩
    · rw [results_cell1 rfl]
      go_simp
      try omega
    · exact (by first | (go_grown; done) | (refine kept_drewN ?_ _; go_grown; done) | (go_grown; refine kept_drewN ?_ _; go_grown))

theorem safe_any (s T A q : Int) (w : World) (h1 : 0 ≤ 100 * T * s ∧ 100 * T * s ≤ 41000000000) (h2 : 0 ≤ 2 * q * A ∧ 2 * q * A ≤ 1100000000000) (hT : 0 ≤ T ∧ T ≤ 2050000) (hq : 0 ≤ q ∧ q ≤ 1000) :
    Calls Try.prog 57 #[.agg #[.int .i64 s, .int .i64 T, .int .i64 A], .int .i64 q] w fun e w' => e = .returned (.bool (decide (2 * q * A ≤ 100 * T * s))) ∧ Below w.heap.size w w' := by
  have v1 : wrap64 (100 * T) = 100 * T := IntWalk.wrap64_in _ (by omega)
  have v2 : wrap64 (100 * T * s) = 100 * T * s := IntWalk.wrap64_in _ (by omega)
  have v3 : wrap64 (2 * q) = 2 * q := IntWalk.wrap64_in _ (by omega)
  have v4 : wrap64 (2 * q * A) = 2 * q * A := IntWalk.wrap64_in _ (by omega)
  have w1 : IntKind.i64.wrap (100 * T) = 100 * T := IntWalk.i64_in _ (by omega)
  have w2 : IntKind.i64.wrap (100 * T * s) = 100 * T * s := IntWalk.i64_in _ (by omega)
  have w3 : IntKind.i64.wrap (2 * q) = 2 * q := IntWalk.i64_in _ (by omega)
  have w4 : IntKind.i64.wrap (2 * q * A) = 2 * q * A := IntWalk.i64_in _ (by omega)
  go_enter Try.func57, Try.ntmps57
  go_wp2
  go_ret
  exact ⟨by simp [*], by go_grown⟩

theorem in_wide {q : Int} (h : inB q 100 1000 = true) : inB q 0 1000 = true := by
  have := inB_true h
  simp [inB]; omega

theorem downL_hit {p : Int → Bool} {k : Nat} (h : p (50 * (k : Int)) = true) : downL p k = 50 * (k : Int) := by
  cases k with
  | zero => unfold downL; simp at h ⊢; exact h
  | succ k => unfold downL; rw [if_pos h]

theorem downL_miss0 {p : Int → Bool} (h : p (50 * ((0 : Nat) : Int)) = false) : downL p 0 = -1 := by
  unfold downL
  simp at h
  simp [h]

theorem downL_miss {p : Int → Bool} {k : Nat} (h : p (50 * ((k + 1 : Nat) : Int)) = false) : downL p (k + 1) = downL p k := by
  rw [downL, if_neg (by rw [h]; simp)]

/-- The greatest load with which a crane has a safety at a radius; -1 if there is none. -/
def glL (s m b j a c d : Int) (r q : Int) : Int := downL (fun l => stabB s m b j a c d l r q) 1000

/-- How far the search has come. -/
def GlR (p : Int → Bool) (x : Int) : Prop := (∃ k : Nat, k ≤ 1000 ∧ x = 50 * (k : Int) ∧ downL p 1000 = downL p k) ∨ x = -50 ∧ downL p 1000 = -1

theorem GlR_next {p : Int → Bool} {k : Nat} (hk : k ≤ 1000) (he : downL p 1000 = downL p k) (h : p (50 * (k : Int)) = false) : GlR p (50 * (k : Int) - 50) := by
  cases k with
  | zero => exact Or.inr ⟨by simp, by rw [he]; exact downL_miss0 h⟩
  | succ k => exact Or.inl ⟨k, by omega, by omega, by rw [he]; exact downL_miss h⟩

theorem load_in {k : Nat} (hk : k ≤ 1000) : inB (50 * (k : Int)) 0 50000 = true := by simp [inB]; omega

theorem specGl_any (p : Nat) (s m b j a c d : Int) (r q : Int) (w : World) (h : BaAt w p s m b j a c d) (hv : baseB s m b j a c d = true) (hr : inB r 0 1000 = true) (hq : inB q 0 1000 = true) :
    Calls Try.prog 62 #[.pointer (some ⟨p, 0, none⟩), .int .i64 r, .int .i64 q] w fun e w' => e = .returned (.int .i64 (glL s m b j a c d r q)) ∧ Below w.heap.size w w' := by
  obtain ⟨P, hP⟩ : ∃ P : Int → Bool, ∀ l, P l = stabB s m b j a c d l r q := ⟨_, fun _ => rfl⟩
  have hgl : glL s m b j a c d r q = downL P 1000 := by unfold glL; congr 1; funext l; exact (hP l).symm
  rw [hgl]
  have HP : ∀ l, inB l 0 50000 = true → ∀ u, Below w.heap.size w u → Calls Try.prog 55 #[.pointer (some ⟨p, 0, none⟩), .int .i64 l, .int .i64 r, .int .i64 q] u fun e w' => e = .returned (.bool (P l)) ∧ ∃ n, w' = u.drewN n := fun l hl u hb => by
    rw [hP l]
    exact specStable_any p s m b j a c d l r q u (BaAt_kept h hb) hv hl hr hq
  have HP := Lib.hid HP
  clear h hv hr hq hP hgl
  have HD := Lib.hid (rfl : downL P 1000 = downL P 1000)
  generalize hG : downL P 1000 = G at *
  have HG := Lib.hid hG; clear hG HD
  go_enter Try.func62, Try.ntmps62
  go_wp2_with fail
  go_loopw [7] (fun x wr => ∃ y : Int, x = .int .i64 y ∧ GlR P y ∧ Below w.heap.size w wr) (fun x _ => (intOf x + 50).toNat)
  case atStart => exact ⟨50000, rfl, Or.inl ⟨1000, by omega, rfl, rfl⟩, Below.refl _ _⟩
  case round =>
    obtain ⟨y, rfl, hy, hb⟩ := hrel
    rcases hy with ⟨k, hk, rfl, he⟩ | ⟨rfl, he⟩
    · have hc := HP.out _ (load_in hk) wr hb
      have hnx := GlR_next hk he
      rw [HG.out] at he
      cases hp : P (50 * (k : Int))
      · have hnx := Lib.hid (hnx hp)
        rw [hp] at hc
        have HC := Lib.hid hc; clear hc he hp
        go_wp2_with fail
        refine HC.out.mono ?_
        rintro e w1 ⟨rfl, n, rfl⟩
        go_wp2
        go_roundw
        case rel => exact ⟨50 * (k : Int) - 50, by go_num, hnx.out, kept_drewN hb _⟩
        case measure => simp [intOf]; omega
      · rw [hp] at hc
        have HC := Lib.hid hc; clear hc hnx
        rw [downL_hit hp] at he
        clear hp
        subst he
        go_wp2_with fail
        refine HC.out.mono ?_
        rintro e w1 ⟨rfl, n, rfl⟩
        go_wp2
        go_ret
        exact ⟨rfl, kept_drewN hb _⟩
    · rw [HG.out] at he
      subst he
      go_wp2
      go_ret
      exact ⟨rfl, hb⟩

/-- The load of a search and whether there is one. -/
theorem glL_bd (s m b j a c d : Int) (r q : Int) : glL s m b j a c d r q = -1 ∨ (0 ≤ glL s m b j a c d r q ∧ glL s m b j a c d r q ≤ 50000 ∧ stabB s m b j a c d (glL s m b j a c d r q) r q = true) := by
  have := downL_bd (fun l => stabB s m b j a c d l r q) 1000
  unfold glL
  rcases this with h | ⟨h1, h2, h3⟩
  · exact Or.inl h
  · exact Or.inr ⟨h1, by omega, h3⟩

theorem implGl_any (s m b j a c d : Int) (r q : Int) (w : World) (hv : baseB s m b j a c d = true) (hr : inB r 0 1000 = true) (hq : inB q 0 1000 = true) :
    Calls Try.prog 63 #[.agg #[.int .i64 s, .int .i64 m, .int .i64 b, .int .i64 j, .int .i64 a, .int .i64 c, .int .i64 d], .int .i64 r, .int .i64 q] w fun e w' => e = .returned (.tuple #[.int .i64 (if glL s m b j a c d r q = -1 then 0 else glL s m b j a c d r q), .bool (decide (glL s m b j a c d r q ≠ -1))]) ∧ Below w.heap.size w w' := by
  obtain ⟨P, hP⟩ : ∃ P : Int → Bool, ∀ l, P l = stabB s m b j a c d l r q := ⟨_, fun _ => rfl⟩
  have hgl : glL s m b j a c d r q = downL P 1000 := by unfold glL; congr 1; funext l; exact (hP l).symm
  rw [hgl]
  have HT : ∀ l, inB l 0 50000 = true → ∃ T A : Int, (∀ u, Calls Try.prog 53 #[.agg #[.int .i64 s, .int .i64 m, .int .i64 b, .int .i64 j, .int .i64 a, .int .i64 c, .int .i64 d], .int .i64 l, .int .i64 r] u fun e w' => e = .returned (.agg #[.int .i64 s, .int .i64 T, .int .i64 A]) ∧ Below u.heap.size u w') ∧
      ∀ u, Calls Try.prog 57 #[.agg #[.int .i64 s, .int .i64 T, .int .i64 A], .int .i64 q] u fun e w' => e = .returned (.bool (P l)) ∧ Below u.heap.size u w' := fun l hl => by
    have hS := stab_parts hv hl hr hq
    refine ⟨_, _, fun u => stance_any s m b j a c d l r u hv hl hr, fun u => ?_⟩
    rw [hP l]
    exact safe_any s _ _ q u hS.2.2.2.1 hS.2.2.2.2.1 hS.1 (inB_true hq)
  have HT := Lib.hid HT
  clear hv hr hq hP hgl
  generalize hG : downL P 1000 = G at *
  have HG := Lib.hid hG; clear hG
  have hA := BaAt_new s m b j a c d w
  obtain ⟨a0, a1, a2, a3, a4, a5, a6⟩ := hA
  have HA := Lib.hid (BaAt_new s m b j a c d w)
  clear a0 a1 a2 a3 a4 a5 a6
  go_enter Try.func63, Try.ntmps63
  go_wp2_with fail
  go_loopw [6] (fun x wr => ∃ y : Int, x = .int .i64 y ∧ GlR P y ∧ w.heap.size < wr.heap.size ∧ BaAt wr w.heap.size s m b j a c d ∧ Below w.heap.size w wr) (fun x _ => (intOf x + 50).toNat)
  case atStart => exact ⟨50000, rfl, Or.inl ⟨1000, by omega, rfl, rfl⟩, by simp, HA.out, by go_grown⟩
  case round =>
    obtain ⟨y, rfl, hy, hsz, hba, hb⟩ := hrel
    rcases hy with ⟨k, hk, rfl, he⟩ | ⟨rfl, he⟩
    · obtain ⟨T, A, ht, hs⟩ := HT.out _ (load_in hk)
      have hnx := GlR_next hk he
      rw [HG.out] at he
      have HB := Lib.hid hba
      obtain ⟨a0, a1, a2, a3, a4, a5, a6⟩ := hba
      have HTT := Lib.hid ht; clear ht
      cases hp : P (50 * (k : Int))
      · have hnx := Lib.hid (hnx hp)
        rw [hp] at hs
        have HS := Lib.hid hs; clear hs he hp
        go_wp2_with fail
        refine (HTT.out _).mono ?_
        rintro e w1 ⟨rfl, hb1⟩
        go_wp2_with fail
        refine (HS.out _).mono ?_
        rintro e w2 ⟨rfl, hb2⟩
        have hb3 := kept_trans hb1 hb2
        go_wp2
        go_roundw
        case rel => exact ⟨50 * (k : Int) - 50, by go_num, hnx.out, Nat.lt_of_lt_of_le hsz hb3.size, BaAt_kept HB.out hb3, kept_trans hb hb3⟩
        case measure => simp [intOf]; omega
      · rw [hp] at hs
        have HS := Lib.hid hs; clear hs hnx
        rw [downL_hit hp] at he
        clear hp
        subst he
        go_wp2_with fail
        refine (HTT.out _).mono ?_
        rintro e w1 ⟨rfl, hb1⟩
        go_wp2_with fail
        refine (HS.out _).mono ?_
        rintro e w2 ⟨rfl, hb2⟩
        have hb3 := kept_trans hb1 hb2
        go_wp2
        all_goals first
          | (exfalso; omega)
          | (go_ret2; exact ⟨rfl, kept_trans hb hb3⟩)
    · rw [HG.out] at he
      subst he
      clear hba
      go_wp2
      go_ret2
      exact ⟨rfl, hb⟩

theorem BaAt_newT (t : TypeId) (s m b j a c d : Int) (w : World) : BaAt (w.alloc (.cells #[.int .i64 s, .int .i64 m, .int .i64 b, .int .i64 j, .int .i64 a, .int .i64 c, .int .i64 d] t)) w.heap.size s m b j a c d := ⟨by simp, by simp, by simp, by simp, by simp, by simp, by simp⟩

theorem BaAt_grown {w w1 : World} {p : Nat} {row : Option Nat} {s m b j a c d : Int} (h : BaAt w p s m b j a c d) (hg : w.grownBy w1 row) (hne : ∀ g, row = some g → g ≠ p) : BaAt w1 p s m b j a c d := by
  obtain ⟨h0, h1, h2, h3, h4, h5, h6⟩ := h
  have hn : some p ≠ row := fun e => hne p e.symm rfl
  exact ⟨hg.cell h0 hn, hg.cell h1 hn, hg.cell h2 hn, hg.cell h3 hn, hg.cell h4 hn, hg.cell h5 hn, hg.cell h6 hn⟩

/-- What SafeChart returns. -/
noncomputable def scAll (s m b j a c d : Int) (zs : List (Int × Int)) (q : Int) : List (Int × Int) × Int :=
  if (baseB s m b j a c d && chartB zs) = true then (if inB q 100 1000 = true then (if safeL (fun r => glL s m b j a c d r q) (fun l r => stabB s m b j a c d l r q) 50000 zs = [] then ([], 3) else (safeL (fun r => glL s m b j a c d r q) (fun l r => stabB s m b j a c d l r q) 50000 zs, 0)) else ([], 2)) else ([], 1)

theorem safeL_stop {g : Int → Int} {p : Int → Int → Bool} {l : Int} {zs : List (Int × Int)} {k : Nat} (hk : k < zs.length) (h : g zs[k].1 < 0 ∨ p (min (min zs[k].2 (g zs[k].1)) l) zs[k].1 = false) : safeL g p l (zs.drop k) = [] := by
  rw [List.drop_eq_getElem_cons hk, safeL, if_pos h]

theorem safeL_go {g : Int → Int} {p : Int → Int → Bool} {l : Int} {zs : List (Int × Int)} {k : Nat} (hk : k < zs.length) (h1 : 0 ≤ g zs[k].1) (h2 : p (min (min zs[k].2 (g zs[k].1)) l) zs[k].1 = true) :
    safeL g p l (zs.drop k) = (zs[k].1, min (min zs[k].2 (g zs[k].1)) l) :: safeL g p (min (min zs[k].2 (g zs[k].1)) l) (zs.drop (k + 1)) := by
  rw [List.drop_eq_getElem_cons hk, safeL, if_neg (by rw [h2]; simp; omega)]

theorem safeL_end {g : Int → Int} {p : Int → Int → Bool} {l : Int} {zs : List (Int × Int)} : safeL g p l (zs.drop zs.length) = [] := by
  rw [List.drop_eq_nil_of_le (Nat.le_refl _), safeL]

theorem safeL_len (g : Int → Int) (p : Int → Int → Bool) (l : Int) (zs : List (Int × Int)) : (safeL g p l zs).length ≤ zs.length := by
  induction zs generalizing l with
  | nil => simp [safeL]
  | cons z zs ih =>
    unfold safeL
    split
    · simp
    · have := ih (min (min z.2 (g z.1)) l)
      simp only [List.length_cons]
      omega

/-- How far a safe chart has come: k steps, us; l: the load before; R: the whole. -/
def ScR (g : Int → Int) (p : Int → Int → Bool) (zs R : List (Int × Int)) (k : Nat) (us : List (Int × Int)) (l : Int) : Prop :=
  k ≤ zs.length ∧ us.length = k ∧ R = us ++ safeL g p l (zs.drop k) ∧ (0 ≤ l ∧ l ≤ 50000) ∧ (k = 0 → l = 50000) ∧ (0 < k → ∃ x, us[k - 1]? = some (x, l))

theorem ScR_go {g : Int → Int} {p : Int → Int → Bool} {zs R : List (Int × Int)} {k : Nat} {us : List (Int × Int)} {l : Int} (h : ScR g p zs R k us l) (hk : k < zs.length) (h1 : 0 ≤ g zs[k].1) (hy : 0 ≤ zs[k].2) (h2 : p (min (min zs[k].2 (g zs[k].1)) l) zs[k].1 = true) :
    ScR g p zs R (k + 1) (us ++ [(zs[k].1, min (min zs[k].2 (g zs[k].1)) l)]) (min (min zs[k].2 (g zs[k].1)) l) := by
  obtain ⟨a1, a2, a3, a4, a5, a6⟩ := h
  refine ⟨by omega, by simp [a2], ?_, by omega, by omega, fun _ => ⟨zs[k].1, ?_⟩⟩
  · rw [a3, safeL_go hk h1 h2]; simp
  · rw [Nat.add_sub_cancel, List.getElem?_append_right (by omega), a2, Nat.sub_self]; rfl

set_option maxHeartbeats 4000000 in
theorem specSC_loop (s m b j a c d : Int) (v : Value) (zs : List (Int × Int)) (q : Int) (g : Int → Int) (p : Int → Int → Bool) (R : List (Int × Int)) (w : World) (h : RdP w v zs) (hv : baseB s m b j a c d = true) (hch : ChartP zs) (hq : inB q 100 1000 = true) (hg : ∀ r, g r = glL s m b j a c d r q) (hp : ∀ l r, p l r = stabB s m b j a c d l r q) (hR : R = safeL g p 50000 zs) :
    Calls Try.prog 34 #[.agg #[.int .i64 s, .int .i64 m, .int .i64 b, .int .i64 j, .int .i64 a, .int .i64 c, .int .i64 d], v, .int .i64 q] w fun e w' => ∃ v', e = .returned (.tuple #[v', .int .i64 (if R = [] then 3 else 0)]) ∧ RowF 76 2 w' w.heap.size w'.heap.size v' R.length (flatP R) ∧ Below w.heap.size w w' := by
  have hqw := in_wide hq
  have HB := fun u (x : BaAt u w.heap.size s m b j a c d) => specBase_any w.heap.size s m b j a c d u x
  have HC := fun u (x : RdP u v zs) => specChart_any v zs u x
  have HQ := fun u => specPercent_any q u
  rw [hv] at HB
  rw [chartB_true hch] at HC
  rw [hq] at HQ
  have HG : ∀ r, inB r 0 1000 = true → ∀ u, BaAt u w.heap.size s m b j a c d → Calls Try.prog 62 #[.pointer (some ⟨w.heap.size, 0, none⟩), .int .i64 r, .int .i64 q] u fun e w' => e = .returned (.int .i64 (g r)) ∧ Below u.heap.size u w' := fun r hr u x => by
    rw [hg]
    exact specGl_any w.heap.size s m b j a c d r q u x hv hr hqw
  have HT : ∀ l r, inB l 0 50000 = true → inB r 0 1000 = true → ∀ u, BaAt u w.heap.size s m b j a c d → Calls Try.prog 55 #[.pointer (some ⟨w.heap.size, 0, none⟩), .int .i64 l, .int .i64 r, .int .i64 q] u fun e w' => e = .returned (.bool (p l r)) ∧ ∃ n, w' = u.drewN n := fun l r hl hr u x => by
    rw [hp]
    exact specStable_any w.heap.size s m b j a c d l r q u x hv hl hr hqw
  have hgb : ∀ r, -1 ≤ g r ∧ g r ≤ 50000 := fun r => by rw [hg]; rcases glL_bd s m b j a c d r q with h | h <;> omega
  have HB := Lib.hid HB
  have HC := Lib.hid HC
  have HQ := Lib.hid HQ
  have HG := Lib.hid HG
  have HT := Lib.hid HT
  have HGB := Lib.hid hgb
  obtain ⟨A, cp, rfl, hln, _⟩ := RdP_slice h
  have hn := hch.2
  have Hat := Lib.hid (fun (k : Nat) (hk : k < zs.length) => hch.1 k hk hk)
  have b0 : Below w.heap.size w (w.alloc (.cells #[.int .i64 s, .int .i64 m, .int .i64 b, .int .i64 j, .int .i64 a, .int .i64 c, .int .i64 d] 25)) := by go_grown
  have H := Lib.hid (RdP_kept h b0)
  have ha := BaAt_new s m b j a c d w
  have hz0 : w.heap.size < (w.alloc (.cells #[.int .i64 s, .int .i64 m, .int .i64 b, .int .i64 j, .int .i64 a, .int .i64 c, .int .i64 d] 25)).heap.size := by simp
  have h0 : ScR g p zs R 0 [] 50000 := ⟨by omega, rfl, by rw [hR]; simp, by omega, fun _ => rfl, fun h => by omega⟩
  have H0 := Lib.hid h0
  clear h hv hch hq hqw hg hp hgb hR h0
  have hk3 : R = [] → (if R = [] then (3 : Int) else 0) = 3 := fun h => if_pos h
  have hk0 : R ≠ [] → (if R = [] then (3 : Int) else 0) = 0 := fun h => if_neg h
  generalize (if R = [] then (3 : Int) else 0) = KK at *
  have HK3 := Lib.hid hk3; clear hk3
  have HK0 := Lib.hid hk0; clear hk0
  go_enter Try.func34, Try.ntmps34
  go_wp2_with fail
  generalize w.alloc (.cells #[.int .i64 s, .int .i64 m, .int .i64 b, .int .i64 j, .int .i64 a, .int .i64 c, .int .i64 d] 25) = w100 at *
  have HA := Lib.hid ha; clear ha
  refine (HB.out _ HA.out).mono ?_
  rintro e w1 ⟨rfl, rfl⟩
  go_wp2_with fail
  refine (HC.out _ H.out).mono ?_
  rintro e w2 ⟨rfl, hb2⟩
  have hz2 := hb2.size
  go_wp2_with fail
  refine (HQ.out _).mono ?_
  rintro e w3 ⟨rfl, rfl⟩
  go_wp2_with fail
  go_loopw [8, 9] (fun o i wr => ∃ (k : Nat) (us : List (Int × Int)) (l : Int) (ov : Value), ov = o ∧ i = .int .i64 k ∧ ScR g p zs R k us l ∧ RowF 76 2 wr w100.heap.size wr.heap.size ov us.length (flatP us) ∧ Below w100.heap.size w100 wr) (fun _ i _ => zs.length - (intOf i).toNat)
  case atStart => exact ⟨0, [], 50000, _, rfl, rfl, H0.out, ⟨World.ownsRow_lit _ #[] 0 hz2 (by decide) (by rfl), fun g hg => by simp [Value.ownBlock] at hg; subst hg; simp; omega⟩, by first | (go_grown; done) | exact hb2.alloc hb2.size _⟩
  case round =>
    obtain ⟨k, us, l, ov, ho, rfl, hsc, hrow, hb⟩ := hrel
    subst ho
    have hsz := hb.size
    obtain ⟨Ao, co, rfl⟩ : ∃ Ao co, ov = .slice Ao us.length co := by
      rcases RowF_form hrow with ⟨e1, _, rfl⟩ | ⟨gb, cap, rfl, _⟩
      · exact ⟨none, 0, by rw [e1]⟩
      · exact ⟨_, _, rfl⟩
    by_cases hlt : k < zs.length
    · obtain ⟨_, b', off, rfl, hbl, hc0, hc1⟩ := rd_at H.out k hlt
      rw [atP_is zs k hlt] at hc0 hc1
      rw [← kept_cell hb b' _ hbl] at hc0 hc1
      have hat := (Hat.out k hlt).1
      have hrb : inB zs[k].1 0 1000 = true := by simp [inB]; omega
      have hg := HG.out zs[k].1 hrb wr (BaAt_kept HA.out hb)
      have hgb := HGB.out zs[k].1
      have hgo := fun h1 h2 => ScR_go hsc hlt h1 (by omega) h2
      have hst := safeL_stop (g := g) (p := p) (l := l) hlt
      obtain ⟨s1, s2, s3, s4, s5, s6⟩ := hsc
      have hT := fun (hG : 0 ≤ g zs[k].1) => HT.out (min (min zs[k].2 (g zs[k].1)) l) zs[k].1 (by simp [inB]; omega) hrb
      have hbl' := Nat.lt_of_lt_of_le hbl hb.size
      have Hgo := Lib.hid hgo; clear hgo
      have Hst := Lib.hid hst; clear hst
      have HTT := Lib.hid hT; clear hT
      have Hg := Lib.hid hg; clear hg
      have Hrow := Lib.hid hrow; clear hrow
      generalize zs[k].1 = x at *
      generalize zs[k].2 = y at *
      generalize hGx : g x = G at *
      have HGx := Lib.hid hGx; clear hGx
      subst s2
      by_cases hk0 : us.length = 0
      · obtain rfl : us = [] := List.eq_nil_of_length_eq_zero hk0
        have hl := s5 rfl
        subst hl
        simp only [List.nil_append, List.length_nil, Nat.zero_mul, Nat.add_zero] at *
        clear s6
        by_cases hneg : G < 0
        · have hR : R = [] := by rw [s3, Hst.out (Or.inl hneg)]
          have hKK := HK3.out hR
          subst hKK
          go_wp2_with fail
          refine Hg.out.mono ?_
          rintro e w4 ⟨rfl, hb4⟩
          refine kept_at hb4 b' (by go_size) fun c4 z4 t4 => ?_
          have b4 := kept_trans hb hb4
          go_wp2
          go_ret2
          subst hR
          exact ⟨_, rfl, RowF_nil _ _ _ _ _, kept_trans b0 b4⟩
        have hTT := HTT.out (by omega)
        generalize hL0 : min (min y G) 50000 = L at *
        have hL : min G y = L := by omega
        clear hL0
        have HL := Lib.hid hL; clear hL
        cases hp : p L x
        · have hR : R = [] := by rw [s3, Hst.out (Or.inr hp)]
          have hKK := HK3.out hR
          subst hKK
          go_wp2_with fail
          refine Hg.out.mono ?_
          rintro e w4 ⟨rfl, hb4⟩
          refine kept_at hb4 b' (by go_size) fun c4 z4 t4 => ?_
          have b4 := kept_trans hb hb4
          go_wp2_with fail
          refine (min_any _ _ _).mono ?_
          rintro e w5 ⟨rfl, rfl⟩
          rw [HL.out]
          have hTU := hTT w4 (BaAt_kept HA.out b4)
          rw [hp] at hTU
          go_wp2_with fail
          refine hTU.mono ?_
          rintro e w7 ⟨rfl, n7, rfl⟩
          go_wp2
          go_ret2
          subst hR
          exact ⟨_, rfl, RowF_nil _ _ _ _ _, kept_trans b0 (kept_drewN b4 _)⟩
        · have hsc := Hgo.out (by omega) hp
          go_wp2_with fail
          refine Hg.out.mono ?_
          rintro e w4 ⟨rfl, hb4⟩
          refine kept_at hb4 b' (by go_size) fun c4 z4 t4 => ?_
          have b4 := kept_trans hb hb4
          go_wp2_with fail
          refine (min_any _ _ _).mono ?_
          rintro e w5 ⟨rfl, rfl⟩
          rw [HL.out]
          have hTU := hTT w4 (BaAt_kept HA.out b4)
          rw [hp] at hTU
          go_wp2_with fail
          refine hTU.mono ?_
          rintro e w7 ⟨rfl, n7, rfl⟩
          go_wp2_with (first | (at_builtin; refine wp_appendP rfl (.tmp 63) (.tmp 71) rfl w100.heap.size _ [] x L rfl (by exact RowF_kept (RowF_kept (RowF_lo Hrow.out (Nat.le_refl _) hb4.size) hb4) (kept_drewN (Below.refl _ _) n7)) rfl (kept_drewN b4 _) (Nat.le_refl _) (Nat.le_trans hsz hb4.size) (by simp) ?_; intro v' w' hrow' hb' _))
          go_roundw
          case rel => exact ⟨_, _, L, _, rfl, by go_num, hsc, hrow', hb'⟩
          case measure => simp [intOf]; omega
      · obtain ⟨m, hm⟩ : ∃ m, us.length = m + 1 := ⟨us.length - 1, by omega⟩
        have hkm : (us.length : Int) - 1 = (m : Int) := by omega
        have hkp : decide (0 < us.length) = true := by simp; omega
        obtain ⟨xp, hxp⟩ := s6 (by omega)
        rw [show us.length - 1 = m by omega] at hxp
        have hmk : m < us.length := by omega
        obtain ⟨gb, rfl, hcp, hgb1⟩ : ∃ gb, Ao = some ⟨gb, 0, none⟩ ∧ wr.cell? ⟨gb, m * 2 + 1, none⟩ = some (.int .i64 l) ∧ gb < wr.heap.size := by
          rcases RowF_form Hrow.out with ⟨e1, _, _⟩ | ⟨gb, cap, e, _, _, hlt, _⟩
          · omega
          · injection e with e1
            subst e1
            refine ⟨gb, rfl, ?_, hlt⟩
            rw [Hrow.out.1.cellAt (m * 2 + 1) (by omega), (flatP_at us m hmk).2]
            rw [List.getElem?_eq_getElem hmk] at hxp
            injection hxp with hxp
            rw [hxp]
        have hne : us ≠ [] := fun e => by rw [e] at hmk; simp at hmk
        have hlen0 : ((us.length : Int) == 0) = false := by simp; exact hne
        have hlen1 : ¬ us.length = 0 := by omega
        clear s5 s6 hxp hm
        by_cases hneg : G < 0
        · have hR : R = us := by rw [s3, Hst.out (Or.inl hneg), List.append_nil]
          have hKK := HK0.out (by rw [hR]; exact hne)
          subst hKK
          go_wp2_with fail
          refine Hg.out.mono ?_
          rintro e w4 ⟨rfl, hb4⟩
          refine kept_at hb4 b' (by go_size) fun c4 z4 t4 => ?_
          have b4 := kept_trans hb hb4
          go_wp2
          go_ret2
          subst hR
          exact ⟨_, rfl, RowF_lo (RowF_kept Hrow.out hb4) (Nat.le_of_lt hz0) (hb4.size), kept_trans b0 b4⟩
        have hTT := HTT.out (by omega)
        generalize hL0 : min (min y G) l = L at *
        have hL : min (min G y) l = L := by omega
        clear hL0
        have HL := Lib.hid hL; clear hL
        cases hp : p L x
        · have hR : R = us := by rw [s3, Hst.out (Or.inr hp), List.append_nil]
          have hKK := HK0.out (by rw [hR]; exact hne)
          subst hKK
          go_wp2_with fail
          refine Hg.out.mono ?_
          rintro e w4 ⟨rfl, hb4⟩
          refine kept_at hb4 b' (by go_size) fun c4 z4 t4 => ?_
          have b4 := kept_trans hb hb4
          go_wp2_with fail
          refine (min_any _ _ _).mono ?_
          rintro e w5 ⟨rfl, rfl⟩
          refine kept_at hb4 gb (by go_size) fun d4 y4 v4 => ?_
          go_wp2_with fail
          refine (min_any _ _ _).mono ?_
          rintro e w6 ⟨rfl, rfl⟩
          rw [HL.out]
          have hTU := hTT w4 (BaAt_kept HA.out b4)
          rw [hp] at hTU
          go_wp2_with fail
          refine hTU.mono ?_
          rintro e w7 ⟨rfl, n7, rfl⟩
          go_wp2
          go_ret2
          subst hR
          exact ⟨_, rfl, RowF_lo (RowF_kept (RowF_kept Hrow.out hb4) (kept_drewN (Below.refl _ _) n7)) (Nat.le_of_lt hz0) (hb4.size), kept_trans b0 (kept_drewN b4 _)⟩
        · have hsc := Hgo.out (by omega) hp
          go_wp2_with fail
          refine Hg.out.mono ?_
          rintro e w4 ⟨rfl, hb4⟩
          refine kept_at hb4 b' (by go_size) fun c4 z4 t4 => ?_
          have b4 := kept_trans hb hb4
          go_wp2_with fail
          refine (min_any _ _ _).mono ?_
          rintro e w5 ⟨rfl, rfl⟩
          refine kept_at hb4 gb (by go_size) fun d4 y4 v4 => ?_
          go_wp2_with fail
          refine (min_any _ _ _).mono ?_
          rintro e w6 ⟨rfl, rfl⟩
          rw [HL.out]
          have hTU := hTT w4 (BaAt_kept HA.out b4)
          rw [hp] at hTU
          go_wp2_with fail
          refine hTU.mono ?_
          rintro e w7 ⟨rfl, n7, rfl⟩
          go_wp2_with (first | (at_builtin; refine wp_appendP rfl (.tmp 63) (.tmp 71) rfl w100.heap.size _ us x L rfl (by exact RowF_kept (RowF_kept (RowF_lo Hrow.out (Nat.le_refl _) hb4.size) hb4) (kept_drewN (Below.refl _ _) n7)) rfl (kept_drewN b4 _) (Nat.le_refl _) (Nat.le_trans hsz hb4.size) (by have := s1; omega) ?_; intro v' w' hrow' hb' _))
          go_roundw
          case rel => exact ⟨_, _, L, _, rfl, by go_num, hsc, hrow', hb'⟩
          case measure => simp [intOf]; omega
    · obtain ⟨s1, s2, s3, s4, s5, s6⟩ := hsc
      have hk : k = zs.length := by omega
      subst hk
      rw [safeL_end, List.append_nil] at s3
      have hne : us ≠ [] := fun e => by rw [e] at s2; simp at s2; omega
      have hlen0 : ((us.length : Int) == 0) = false := by simp; exact hne
      have hlen1 : ¬ us.length = 0 := by omega
      have hKK := HK0.out (by rw [s3]; exact hne)
      subst hKK
      have Hrow := Lib.hid hrow; clear hrow s5 s6 hlt s2
      go_wp2
      go_ret2
      subst s3
      exact ⟨_, rfl, RowF_lo (Hrow.out) (Nat.le_of_lt hz0) (Nat.le_refl _), kept_trans b0 hb⟩

set_option maxHeartbeats 1000000 in
theorem specSC_any (s m b j a c d : Int) (v : Value) (zs : List (Int × Int)) (q : Int) (w : World) (h : RdP w v zs) :
    Calls Try.prog 34 #[.agg #[.int .i64 s, .int .i64 m, .int .i64 b, .int .i64 j, .int .i64 a, .int .i64 c, .int .i64 d], v, .int .i64 q] w fun e w' => ∃ v', e = .returned (.tuple #[v', .int .i64 (scAll s m b j a c d zs q).2]) ∧ RowF 76 2 w' w.heap.size w'.heap.size v' (scAll s m b j a c d zs q).1.length (flatP (scAll s m b j a c d zs q).1) ∧ Below w.heap.size w w' := by
  have HB := fun u (x : BaAt u w.heap.size s m b j a c d) => specBase_any w.heap.size s m b j a c d u x
  have HC := fun u (x : RdP u v zs) => specChart_any v zs u x
  have HQ := fun u => specPercent_any q u
  have b0 : Below w.heap.size w (w.alloc (.cells #[.int .i64 s, .int .i64 m, .int .i64 b, .int .i64 j, .int .i64 a, .int .i64 c, .int .i64 d] 25)) := by go_grown
  have HA := Lib.hid (BaAt_new s m b j a c d w)
  cases hv : baseB s m b j a c d
  · rw [show scAll s m b j a c d zs q = ([], 1) by simp [scAll, hv]]
    rw [hv] at HB
    have HB := Lib.hid HB; clear HC HQ hv
    obtain ⟨A, cp, rfl, _, _⟩ := RdP_slice h
    clear h
    go_enter Try.func34, Try.ntmps34
    go_wp2_with fail
    refine (HB.out _ HA.out).mono ?_
    rintro e w1 ⟨rfl, rfl⟩
    go_wp2
    go_ret2
    exact ⟨_, rfl, RowF_nil _ _ _ _ _, b0⟩
  · by_cases hch : ChartP zs
    · cases hq : inB q 100 1000
      · rw [show scAll s m b j a c d zs q = ([], 2) by simp [scAll, hv, hq, chartB_true hch]]
        rw [hv] at HB
        rw [chartB_true hch] at HC
        rw [hq] at HQ
        have HB := Lib.hid HB
        have HC := Lib.hid HC
        have HQ := Lib.hid HQ
        obtain ⟨A, cp, rfl, _, _⟩ := RdP_slice h
        have H := Lib.hid h; clear h hv hq hch
        go_enter Try.func34, Try.ntmps34
        go_wp2_with fail
        refine (HB.out _ HA.out).mono ?_
        rintro e w1 ⟨rfl, rfl⟩
        go_wp2_with fail
        refine (HC.out _ (RdP_kept H.out b0)).mono ?_
        rintro e w2 ⟨rfl, hb2⟩
        go_wp2_with fail
        refine (HQ.out _).mono ?_
        rintro e w3 ⟨rfl, rfl⟩
        go_wp2
        go_ret2
        exact ⟨_, rfl, RowF_nil _ _ _ _ _, kept_trans b0 hb2⟩
      · have hR := specSC_loop s m b j a c d v zs q (fun r => glL s m b j a c d r q) (fun l r => stabB s m b j a c d l r q) _ w h hv hch hq (fun _ => rfl) (fun _ _ => rfl) rfl
        unfold scAll
        rw [if_pos (by rw [hv, chartB_true hch]; rfl), if_pos hq]
        generalize safeL (fun r => glL s m b j a c d r q) (fun l r => stabB s m b j a c d l r q) 50000 zs = R at *
        by_cases hE : R = []
        · subst hE
          simpa using hR
        · rw [if_neg hE] at hR ⊢
          exact hR
    · rw [show scAll s m b j a c d zs q = ([], 1) by simp [scAll, chartB_false hch]]
      rw [hv] at HB
      rw [chartB_false hch] at HC
      have HB := Lib.hid HB
      have HC := Lib.hid HC
      obtain ⟨A, cp, rfl, _, _⟩ := RdP_slice h
      have H := Lib.hid h; clear h hv hch HQ
      go_enter Try.func34, Try.ntmps34
      go_wp2_with fail
      refine (HB.out _ HA.out).mono ?_
      rintro e w1 ⟨rfl, rfl⟩
      go_wp2_with fail
      refine (HC.out _ (RdP_kept H.out b0)).mono ?_
      rintro e w2 ⟨rfl, hb2⟩
      go_wp2
      go_ret2
      exact ⟨_, rfl, RowF_nil _ _ _ _ _, kept_trans b0 hb2⟩

theorem min3_any {P : Program} (w : World) (ts : Array TypeId) (t : TypeId) (x y z : Int) : (Builtin.min_ ts t #[.int .i64 x, .int .i64 y, .int .i64 z]).run P w = .ok (.int .i64 (min (min x y) z)) w := by
  have e1 : (if y < x then y else x) = min x y := by rw [Int.min_def]; split <;> split <;> omega
  have e2 : (if z < min x y then z else min x y) = min (min x y) z := by rw [Int.min_def (min x y) z]; split <;> split <;> omega
  simp [Builtin.min_, Builtin.min2, e1, e2]

set_option maxHeartbeats 8000000 in
theorem implSC_loop (s m b j a c d : Int) (v : Value) (zs : List (Int × Int)) (q : Int) (g : Int → Int) (p : Int → Int → Bool) (R : List (Int × Int)) (w : World) (h : RdP w v zs) (hv : baseB s m b j a c d = true) (hch : ChartP zs) (hq : inB q 100 1000 = true) (hg : ∀ r, g r = glL s m b j a c d r q) (hp : ∀ l r, p l r = stabB s m b j a c d l r q) (hR : R = safeL g p 50000 zs) :
    Calls Try.prog 36 #[.agg #[.int .i64 s, .int .i64 m, .int .i64 b, .int .i64 j, .int .i64 a, .int .i64 c, .int .i64 d], v, .int .i64 q] w fun e w' => ∃ v', e = .returned (.tuple #[v', .int .i64 (if R = [] then 3 else 0)]) ∧ RowF 76 2 w' w.heap.size w'.heap.size v' R.length (flatP R) ∧ Below w.heap.size w w' := by
  have hqw := in_wide hq
  have HC := fun u (x : RdP u v zs) => implChart_any v zs u x
  have HBC := fun u vv (x : RdT u vv [inB q 100 1000]) => baseCode_any s m b j a c d vv [inB q 100 1000] u x
  rw [chartB_true hch] at HC
  rw [show codeL3 (baseB s m b j a c d) [inB q 100 1000] = 0 by rw [hv, hq]; rfl] at HBC
  have HG1 : ∀ r, g r = -1 → inB r 0 1000 = true → ∀ u, Calls Try.prog 63 #[.agg #[.int .i64 s, .int .i64 m, .int .i64 b, .int .i64 j, .int .i64 a, .int .i64 c, .int .i64 d], .int .i64 r, .int .i64 q] u fun e w' => e = .returned (.tuple #[.int .i64 0, .bool false]) ∧ Below u.heap.size u w' := fun r h1 hr u => by
    have := implGl_any s m b j a c d r q u hv hr hqw
    rw [← hg, h1] at this
    simpa using this
  have HG2 : ∀ r, 0 ≤ g r → inB r 0 1000 = true → ∀ u, Calls Try.prog 63 #[.agg #[.int .i64 s, .int .i64 m, .int .i64 b, .int .i64 j, .int .i64 a, .int .i64 c, .int .i64 d], .int .i64 r, .int .i64 q] u fun e w' => e = .returned (.tuple #[.int .i64 (g r), .bool true]) ∧ Below u.heap.size u w' := fun r h1 hr u => by
    have := implGl_any s m b j a c d r q u hv hr hqw
    rw [← hg, if_neg (by omega), show decide (g r ≠ -1) = true by simp; omega] at this
    exact this
  have HT : ∀ l r, inB l 0 50000 = true → inB r 0 1000 = true → ∃ T A : Int, (∀ u, Calls Try.prog 53 #[.agg #[.int .i64 s, .int .i64 m, .int .i64 b, .int .i64 j, .int .i64 a, .int .i64 c, .int .i64 d], .int .i64 l, .int .i64 r] u fun e w' => e = .returned (.agg #[.int .i64 s, .int .i64 T, .int .i64 A]) ∧ Below u.heap.size u w') ∧
      ∀ u, Calls Try.prog 57 #[.agg #[.int .i64 s, .int .i64 T, .int .i64 A], .int .i64 q] u fun e w' => e = .returned (.bool (p l r)) ∧ Below u.heap.size u w' := fun l r hl hr => by
    have hS := stab_parts hv hl hr hqw
    refine ⟨_, _, fun u => stance_any s m b j a c d l r u hv hl hr, fun u => ?_⟩
    rw [hp l r]
    exact safe_any s _ _ q u hS.2.2.2.1 hS.2.2.2.2.1 hS.1 (inB_true hqw)
  have hgb : ∀ r, -1 ≤ g r ∧ g r ≤ 50000 := fun r => by rw [hg]; rcases glL_bd s m b j a c d r q with h | h <;> omega
  have HC := Lib.hid HC
  have HBC := Lib.hid HBC
  have HG1 := Lib.hid HG1
  have HG2 := Lib.hid HG2
  have HT := Lib.hid HT
  have HGB := Lib.hid hgb
  obtain ⟨A, cp, rfl, hln, _⟩ := RdP_slice h
  have hn := hch.2
  have Hat := Lib.hid (fun (k : Nat) (hk : k < zs.length) => hch.1 k hk hk)
  have b0 : Below w.heap.size w (w.alloc (.cells #[.int .i64 s, .int .i64 m, .int .i64 b, .int .i64 j, .int .i64 a, .int .i64 c, .int .i64 d] 25)) := by go_grown
  have H := Lib.hid (RdP_kept h b0)
  have ha := BaAt_new s m b j a c d w
  have hz0 : w.heap.size < (w.alloc (.cells #[.int .i64 s, .int .i64 m, .int .i64 b, .int .i64 j, .int .i64 a, .int .i64 c, .int .i64 d] 25)).heap.size := by simp
  have h0 : ScR g p zs R 0 [] 50000 := ⟨by omega, rfl, by rw [hR]; simp, by omega, fun _ => rfl, fun h => by omega⟩
  have H0 := Lib.hid h0
  clear h hv hch hq hqw hg hp hgb hR h0
  have hk3 : R = [] → (if R = [] then (3 : Int) else 0) = 3 := fun h => if_pos h
  have hk0 : R ≠ [] → (if R = [] then (3 : Int) else 0) = 0 := fun h => if_neg h
  generalize (if R = [] then (3 : Int) else 0) = KK at *
  have HK3 := Lib.hid hk3; clear hk3
  have HK0 := Lib.hid hk0; clear hk0
  go_enter Try.func36, Try.ntmps36
  go_wp2_with fail
  generalize w.alloc (.cells #[.int .i64 s, .int .i64 m, .int .i64 b, .int .i64 j, .int .i64 a, .int .i64 c, .int .i64 d] 25) = w100 at *
  have HA := Lib.hid ha; clear ha
  refine (HC.out _ H.out).mono ?_
  rintro e w2 ⟨rfl, hb2⟩
  have hz2 := hb2.size
  obtain ⟨a0, a1, a2, a3, a4, a5, a6⟩ := BaAt_kept HA.out hb2
  have hl2 : w.heap.size < w2.heap.size := by omega
  go_wp2_with fail
  first
    | go_region_held3 (fun w' => w'.cell? ⟨w.heap.size, 0, none⟩ = some (.int .i64 s) ∧ w'.cell? ⟨w.heap.size, 1, none⟩ = some (.int .i64 m) ∧ w'.cell? ⟨w.heap.size, 2, none⟩ = some (.int .i64 b) ∧ w'.cell? ⟨w.heap.size, 3, none⟩ = some (.int .i64 j) ∧ w'.cell? ⟨w.heap.size, 4, none⟩ = some (.int .i64 a) ∧ w'.cell? ⟨w.heap.size, 5, none⟩ = some (.int .i64 c) ∧ w'.cell? ⟨w.heap.size, 6, none⟩ = some (.int .i64 d)) (go_keep) (first
        | (go_at_call 56; refine (validPercent_any _ _).mono ?_; rintro e w3 ⟨rfl, hb3⟩; refine kept_at hb3 w.heap.size (by go_size) fun c3_0 z3_0 s3_0 => ?_; have b3 := kept_trans (a := w2) (by go_grown) hb3)
        | (go_at_call 45; refine (HBC.out _ _ (rdT1 (by go_size) (by go_simp))).mono ?_; rintro e w4 ⟨rfl, hb4⟩; refine kept_at hb4 w.heap.size (by go_size) fun c4_0 z4_0 s4_0 => ?_; have b4 := kept_trans (a := w2) (by first | (go_grown; done) | (go_grown; exact b3.size)) hb4))
    | fail
  have b40 := kept_trans hb2 b4
  have hz4 : w100.heap.size ≤ w4.heap.size := b40.size
  clear a0 a1 a2 a3 a4 a5 a6
  go_wp2_with fail
  go_loopw [9, 10, 30] (fun o t i wr => ∃ (k : Nat) (us : List (Int × Int)) (l : Int) (ov : Value), ov = o ∧ i = .int .i64 k ∧ t = .int .i64 l ∧ ScR g p zs R k us l ∧ RowF 76 2 wr w100.heap.size wr.heap.size ov us.length (flatP us) ∧ Below w100.heap.size w100 wr) (fun _ _ i _ => zs.length - (intOf i).toNat)
  case atStart => exact ⟨0, [], 50000, _, rfl, rfl, rfl, H0.out, ⟨World.ownsRow_lit _ #[] 0 hz4 (by decide) (by rfl), fun g hg => by simp [Value.ownBlock] at hg; subst hg; simp; omega⟩, by first | (go_grown; done) | exact b40.alloc b40.size _⟩
  case round =>
    obtain ⟨k, us, l, ov, ho, rfl, rfl, hsc, hrow, hb⟩ := hrel
    subst ho
    have hsz := hb.size
    obtain ⟨Ao, co, rfl⟩ : ∃ Ao co, ov = .slice Ao us.length co := by
      rcases RowF_form hrow with ⟨e1, _, rfl⟩ | ⟨gb, cap, rfl, _⟩
      · exact ⟨none, 0, by rw [e1]⟩
      · exact ⟨_, _, rfl⟩
    by_cases hlt : k < zs.length
    · obtain ⟨_, b', off, rfl, hbl, hc0, hc1⟩ := rd_at H.out k hlt
      rw [atP_is zs k hlt] at hc0 hc1
      rw [← kept_cell hb b' _ hbl] at hc0 hc1
      have hat := (Hat.out k hlt).1
      have hrb : inB zs[k].1 0 1000 = true := by simp [inB]; omega
      have hgb := HGB.out zs[k].1
      have hg1 := fun (h : g zs[k].1 = -1) => HG1.out _ h hrb
      have hg2 := fun (h : 0 ≤ g zs[k].1) => HG2.out _ h hrb
      have hgo := fun h1 h2 => ScR_go hsc hlt h1 (by omega) h2
      have hst := safeL_stop (g := g) (p := p) (l := l) hlt
      obtain ⟨s1, s2, s3, s4, s5, s6⟩ := hsc
      have hT := fun (hG : 0 ≤ g zs[k].1) => HT.out (min (min zs[k].2 (g zs[k].1)) l) zs[k].1 (by simp [inB]; omega) hrb
      have hbl' := Nat.lt_of_lt_of_le hbl hb.size
      have hA := BaAt_kept HA.out hb
      obtain ⟨a0, a1, a2, a3, a4, a5, a6⟩ := hA
      have hla : w.heap.size < wr.heap.size := by omega
      have Hgo := Lib.hid hgo; clear hgo
      have Hst := Lib.hid hst; clear hst
      have HTT := Lib.hid hT; clear hT
      have Hg1 := Lib.hid hg1; clear hg1
      have Hg2 := Lib.hid hg2; clear hg2
      have Hrow := Lib.hid hrow; clear hrow
      generalize zs[k].1 = x at *
      generalize zs[k].2 = y at *
      generalize hGx : g x = G at *
      have HGx := Lib.hid hGx; clear hGx
      subst s2
      clear s5 s6
      by_cases hneg : G < 0
      · have hR : R = us := by rw [s3, Hst.out (Or.inl hneg), List.append_nil]
        have hg := Hg1.out (by omega)
        have Hg := Lib.hid hg; clear hg
        have hmin3 : ∀ (ts : Array TypeId) (t : TypeId) (W : World), (Builtin.min_ ts t #[.int .i64 y, .int .i64 0, .int .i64 l]).run Try.prog W = .ok (.int .i64 (min (min y 0) l)) W := fun ts t W => by rw [min3_any]
        go_wp2_with fail
        refine (Hg.out _).mono ?_
        rintro e w5 ⟨rfl, hb5⟩
        refine kept_at hb5 (w.heap.size) (by go_size) fun c5_0 z5_0 s5_0 => ?_
        refine kept_at hb5 (wr.heap.size) (by go_size) fun c5_1 z5_1 s5_1 => ?_
        have b5 := kept_trans (a := wr) (by go_grown) hb5
        by_cases hk0 : us.length = 0
        · obtain rfl : us = [] := List.eq_nil_of_length_eq_zero hk0
          have hKK := HK3.out hR
          subst hKK
          simp only [List.length_nil] at *
          go_wp2
          go_ret2
          subst hR
          exact ⟨_, rfl, RowF_nil _ _ _ _ _, kept_trans b0 (kept_trans hb b5)⟩
        · have hne : us ≠ [] := fun e => by rw [e] at hk0; simp at hk0
          have hlen0 : ((us.length : Int) == 0) = false := by simp; exact hne
          have hKK := HK0.out (by rw [hR]; exact hne)
          subst hKK
          go_wp2
          go_ret2
          subst hR
          exact ⟨_, rfl, RowF_lo (RowF_kept (RowF_lo Hrow.out (Nat.le_refl _) b5.size) b5) (Nat.le_of_lt hz0) (Nat.le_refl _), kept_trans b0 (kept_trans hb b5)⟩
      have hg := Hg2.out (by omega)
      have Hg := Lib.hid hg; clear hg
      obtain ⟨T, AA, hst1, hst2⟩ := HTT.out (by omega)
      generalize hL : min (min y G) l = L at *
      have hmin3 : ∀ (ts : Array TypeId) (t : TypeId) (W : World), (Builtin.min_ ts t #[.int .i64 y, .int .i64 G, .int .i64 l]).run Try.prog W = .ok (.int .i64 L) W := fun ts t W => by rw [min3_any]; rw [hL]
      clear hL
      have HS1 := Lib.hid hst1; clear hst1
      cases hp : p L x
      · rw [hp] at hst2
        have HS2 := Lib.hid hst2; clear hst2
        have hR : R = us := by rw [s3, Hst.out (Or.inr hp), List.append_nil]
        go_wp2_with fail
        refine (Hg.out _).mono ?_
        rintro e w5 ⟨rfl, hb5⟩
        refine kept_at hb5 (w.heap.size) (by go_size) fun c5_0 z5_0 s5_0 => ?_
        refine kept_at hb5 (wr.heap.size) (by go_size) fun c5_1 z5_1 s5_1 => ?_
        have b5 := kept_trans (a := wr) (by go_grown) hb5
        go_wp2_with fail
        refine (HS1.out _).mono ?_
        rintro e w6 ⟨rfl, hb6⟩
        refine kept_at hb6 (w.heap.size) (by go_size) fun c6_0 z6_0 s6_0 => ?_
        refine kept_at hb6 (wr.heap.size) (by go_size) fun c6_1 z6_1 s6_1 => ?_
        have b6 := kept_trans b5 hb6
        go_wp2_with fail
        refine (HS2.out _).mono ?_
        rintro e w7 ⟨rfl, hb7⟩
        refine kept_at hb7 (w.heap.size) (by go_size) fun c7_0 z7_0 s7_0 => ?_
        refine kept_at hb7 (wr.heap.size) (by go_size) fun c7_1 z7_1 s7_1 => ?_
        have b7 := kept_trans b6 hb7
        by_cases hk0 : us.length = 0
        · obtain rfl : us = [] := List.eq_nil_of_length_eq_zero hk0
          have hKK := HK3.out hR
          subst hKK
          simp only [List.length_nil] at *
          go_wp2
          go_ret2
          subst hR
          exact ⟨_, rfl, RowF_nil _ _ _ _ _, kept_trans b0 (kept_trans hb b7)⟩
        · have hne : us ≠ [] := fun e => by rw [e] at hk0; simp at hk0
          have hlen0 : ((us.length : Int) == 0) = false := by simp; exact hne
          have hKK := HK0.out (by rw [hR]; exact hne)
          subst hKK
          go_wp2
          go_ret2
          subst hR
          exact ⟨_, rfl, RowF_lo (RowF_kept (RowF_lo Hrow.out (Nat.le_refl _) b7.size) b7) (Nat.le_of_lt hz0) (Nat.le_refl _), kept_trans b0 (kept_trans hb b7)⟩
      · rw [hp] at hst2
        have HS2 := Lib.hid hst2; clear hst2
        have hsc := Hgo.out (by omega) hp
        go_wp2_with fail
        refine (Hg.out _).mono ?_
        rintro e w5 ⟨rfl, hb5⟩
        refine kept_at hb5 (w.heap.size) (by go_size) fun c5_0 z5_0 s5_0 => ?_
        refine kept_at hb5 (wr.heap.size) (by go_size) fun c5_1 z5_1 s5_1 => ?_
        have b5 := kept_trans (a := wr) (by go_grown) hb5
        go_wp2_with fail
        refine (HS1.out _).mono ?_
        rintro e w6 ⟨rfl, hb6⟩
        refine kept_at hb6 (w.heap.size) (by go_size) fun c6_0 z6_0 s6_0 => ?_
        refine kept_at hb6 (wr.heap.size) (by go_size) fun c6_1 z6_1 s6_1 => ?_
        have b6 := kept_trans b5 hb6
        go_wp2_with fail
        refine (HS2.out _).mono ?_
        rintro e w7 ⟨rfl, hb7⟩
        refine kept_at hb7 (w.heap.size) (by go_size) fun c7_0 z7_0 s7_0 => ?_
        refine kept_at hb7 (wr.heap.size) (by go_size) fun c7_1 z7_1 s7_1 => ?_
        have b7 := kept_trans b6 hb7
        go_wp2_with (first | (at_builtin; refine wp_appendP rfl (.tmp 59) (.tmp 64) rfl w100.heap.size _ us x L rfl (by exact RowF_kept (RowF_lo Hrow.out (Nat.le_refl _) b7.size) b7) rfl (kept_trans hb b7) (Nat.le_refl _) (Nat.le_trans hsz b7.size) (by have := s1; omega) ?_; intro v' w' hrow' hb' _))
        go_roundw
        case rel => exact ⟨_, _, L, _, rfl, by go_num, rfl, hsc, hrow', hb'⟩
        case measure => simp [intOf]; omega
    · obtain ⟨s1, s2, s3, s4, s5, s6⟩ := hsc
      have hk : k = zs.length := by omega
      subst hk
      rw [safeL_end, List.append_nil] at s3
      have hne : us ≠ [] := fun e => by rw [e] at s2; simp at s2; omega
      have hlen0 : ((us.length : Int) == 0) = false := by simp; exact hne
      have hKK := HK0.out (by rw [s3]; exact hne)
      subst hKK
      have Hrow := Lib.hid hrow; clear hrow s5 s6 hlt s2
      go_wp2
      go_ret2
      subst s3
      exact ⟨_, rfl, RowF_lo Hrow.out (Nat.le_of_lt hz0) (Nat.le_refl _), kept_trans b0 hb⟩

set_option maxHeartbeats 2000000 in
theorem implSC_any (s m b j a c d : Int) (v : Value) (zs : List (Int × Int)) (q : Int) (w : World) (h : RdP w v zs) :
    Calls Try.prog 36 #[.agg #[.int .i64 s, .int .i64 m, .int .i64 b, .int .i64 j, .int .i64 a, .int .i64 c, .int .i64 d], v, .int .i64 q] w fun e w' => ∃ v', e = .returned (.tuple #[v', .int .i64 (scAll s m b j a c d zs q).2]) ∧ RowF 76 2 w' w.heap.size w'.heap.size v' (scAll s m b j a c d zs q).1.length (flatP (scAll s m b j a c d zs q).1) ∧ Below w.heap.size w w' := by
  have HC := fun u (x : RdP u v zs) => implChart_any v zs u x
  have HBC := fun u vv (x : RdT u vv [inB q 100 1000]) => baseCode_any s m b j a c d vv [inB q 100 1000] u x
  have b0 : Below w.heap.size w (w.alloc (.cells #[.int .i64 s, .int .i64 m, .int .i64 b, .int .i64 j, .int .i64 a, .int .i64 c, .int .i64 d] 25)) := by go_grown
  by_cases hch : ChartP zs
  · by_cases hK : codeL3 (baseB s m b j a c d) [inB q 100 1000] = 0
    · obtain ⟨hv, hbs⟩ := codeL3_ok hK
      have hq : inB q 100 1000 = true := hbs _ (by simp)
      have hR := implSC_loop s m b j a c d v zs q (fun r => glL s m b j a c d r q) (fun l r => stabB s m b j a c d l r q) _ w h hv hch hq (fun _ => rfl) (fun _ _ => rfl) rfl
      unfold scAll
      rw [if_pos (by rw [hv, chartB_true hch]; rfl), if_pos hq]
      generalize safeL (fun r => glL s m b j a c d r q) (fun l r => stabB s m b j a c d l r q) 50000 zs = R at *
      by_cases hE : R = []
      · subst hE
        simpa using hR
      · rw [if_neg hE] at hR ⊢
        exact hR
    · have hE : scAll s m b j a c d zs q = ([], codeL3 (baseB s m b j a c d) [inB q 100 1000]) := by
        unfold scAll codeL3
        unfold codeL3 at hK
        cases hv : baseB s m b j a c d <;> cases hq : inB q 100 1000 <;> simp [hv, hq, chartB_true hch] at hK ⊢
      rw [hE]
      have hK1 : (codeL3 (baseB s m b j a c d) [inB q 100 1000] == 0) = false := by simpa using hK
      have hK2 : (codeL3 (baseB s m b j a c d) [inB q 100 1000] != 0) = true := by simpa using hK
      generalize codeL3 (baseB s m b j a c d) [inB q 100 1000] = K at *
      rw [chartB_true hch] at HC
      have HC := Lib.hid HC
      have HBC := Lib.hid HBC
      obtain ⟨A, cp, rfl, _, _⟩ := RdP_slice h
      have H := Lib.hid h; clear h hch hE
      have ha := BaAt_new s m b j a c d w
      have hz0 : w.heap.size < (w.alloc (.cells #[.int .i64 s, .int .i64 m, .int .i64 b, .int .i64 j, .int .i64 a, .int .i64 c, .int .i64 d] 25)).heap.size := by simp
      go_enter Try.func36, Try.ntmps36
      go_wp2_with fail
      generalize w.alloc (.cells #[.int .i64 s, .int .i64 m, .int .i64 b, .int .i64 j, .int .i64 a, .int .i64 c, .int .i64 d] 25) = w100 at *
      refine (HC.out _ (RdP_kept H.out b0)).mono ?_
      rintro e w2 ⟨rfl, hb2⟩
      have hz2 := hb2.size
      obtain ⟨a0, a1, a2, a3, a4, a5, a6⟩ := BaAt_kept ha hb2
      clear ha
      have hl2 : w.heap.size < w2.heap.size := by omega
      go_wp2_with fail
      first
        | go_region_held3 (fun w' => w'.cell? ⟨w.heap.size, 0, none⟩ = some (.int .i64 s) ∧ w'.cell? ⟨w.heap.size, 1, none⟩ = some (.int .i64 m) ∧ w'.cell? ⟨w.heap.size, 2, none⟩ = some (.int .i64 b) ∧ w'.cell? ⟨w.heap.size, 3, none⟩ = some (.int .i64 j) ∧ w'.cell? ⟨w.heap.size, 4, none⟩ = some (.int .i64 a) ∧ w'.cell? ⟨w.heap.size, 5, none⟩ = some (.int .i64 c) ∧ w'.cell? ⟨w.heap.size, 6, none⟩ = some (.int .i64 d)) (go_keep) (first
            | (go_at_call 56; refine (validPercent_any _ _).mono ?_; rintro e w3 ⟨rfl, hb3⟩; refine kept_at hb3 w.heap.size (by go_size) fun c3_0 z3_0 s3_0 => ?_; have b3 := kept_trans (a := w2) (by go_grown) hb3)
            | (go_at_call 45; refine (HBC.out _ _ (rdT1 (by go_size) (by go_simp))).mono ?_; rintro e w4 ⟨rfl, hb4⟩; refine kept_at hb4 w.heap.size (by go_size) fun c4_0 z4_0 s4_0 => ?_; have b4 := kept_trans (a := w2) (by first | (go_grown; done) | (go_grown; exact b3.size)) hb4))
        | fail
      go_wp2
      go_ret2
      exact ⟨_, rfl, RowF_nil _ _ _ _ _, kept_trans b0 (kept_trans hb2 b4)⟩
  · rw [show scAll s m b j a c d zs q = ([], 1) by simp [scAll, chartB_false hch]]
    rw [chartB_false hch] at HC
    have HC := Lib.hid HC
    obtain ⟨A, cp, rfl, _, _⟩ := RdP_slice h
    have H := Lib.hid h; clear h hch HBC
    go_enter Try.func36, Try.ntmps36
    go_wp2_with fail
    refine (HC.out _ (RdP_kept H.out b0)).mono ?_
    rintro e w2 ⟨rfl, hb2⟩
    go_wp2
    go_ret2
    exact ⟨_, rfl, RowF_nil _ _ _ _ _, kept_trans b0 hb2⟩

theorem scAll_len (s m b j a c d : Int) (zs : List (Int × Int)) (q : Int) : (scAll s m b j a c d zs q).1.length ≤ 4000000 := by
  unfold scAll
  split
  · next hc =>
    have hch := chartB_iff.1 (Bool.and_eq_true_iff.mp hc).2
    have h20 := hch.2
    split
    · split
      · simp
      · have := safeL_len (fun r => glL s m b j a c d r q) (fun l r => stabB s m b j a c d l r q) 50000 zs
        dsimp only
        omega
    · simp
  · simp

theorem walk_FnExactSafeChart (w : World) (s m b j a c d : Int) (v1 : Value) (zs1 : List (Int × Int)) (h1 : RdP w v1 zs1) (wf1 : ∀ z ∈ zs1, (Lit.int .i64 z.1).wf = true ∧ (Lit.int .i64 z.2).wf = true) (a2 : Int) (w2 : (Lit.int .i64 a2).wf = true) :
    Calls Try.prog 12 #[.agg #[.int .i64 s, .int .i64 m, .int .i64 b, .int .i64 j, .int .i64 a, .int .i64 c, .int .i64 d], v1, .int .i64 a2] w fun e w' => e = .returned (.bool true) ∧ Below w.heap.size w w' := by
  obtain ⟨A1, c1, rfl, l1, _⟩ := RdP_slice h1
  have H1 := Lib.hid h1; clear h1 wf1
  have hS := fun (x1 : Value) (u : World) (q1 : RdP u x1 zs1) => specSC_any s m b j a c d x1 zs1 a2 u q1
  have hI := fun (x1 : Value) (u : World) (q1 : RdP u x1 zs1) => implSC_any s m b j a c d x1 zs1 a2 u q1
  have hlen : (scAll s m b j a c d zs1 a2).1.length ≤ 4000000 := scAll_len s m b j a c d zs1 a2
  generalize scAll s m b j a c d zs1 a2 = F at hS hI hlen
  have HS := Lib.hid hS; clear hS
  have HI := Lib.hid hI; clear hI
  by_cases n1 : zs1.length ≤ 1000000
  case neg =>
    go_enter Try.func12, Try.ntmps12
    go_wp2_with fail
    refine (szC_over _ _ _ _ (by omega) l1 (by omega) _).mono ?_
    rintro e w' ⟨rfl, rfl⟩
    go_wp2
    go_ret
    exact ⟨rfl, by go_grown⟩
  go_enter Try.func12, Try.ntmps12
  go_wp2_with fail
  refine (szC_fit _ _ _ _ (by omega) _).mono ?_
  rintro e w' ⟨rfl, rfl⟩
  go_wp2_with fail
  have ka := BaAt_newT 23 s m b j a c d w
  have b0 : Below w.heap.size w (w.alloc (.cells #[.int .i64 s, .int .i64 m, .int .i64 b, .int .i64 j, .int .i64 a, .int .i64 c, .int .i64 d] 23)) := by go_grown
  have hz0 : w.heap.size < (w.alloc (.cells #[.int .i64 s, .int .i64 m, .int .i64 b, .int .i64 j, .int .i64 a, .int .i64 c, .int .i64 d] 23)).heap.size := by simp
  generalize (w.alloc (.cells #[.int .i64 s, .int .i64 m, .int .i64 b, .int .i64 j, .int .i64 a, .int .i64 c, .int .i64 d] 23)) = w100 at *
  have kaH := Lib.hid ka
  obtain ⟨p0, p1, p2, p3, p4, p5, p6⟩ := ka
  go_wp2_with fail
  refine (toBase_any s m b j a c d _).mono ?_
  rintro e w101 ⟨rfl, b1⟩
  have z1 := b1.size
  have ka := BaAt_kept kaH.out b1
  clear kaH p0 p1 p2 p3 p4 p5 p6
  have kaH := Lib.hid ka
  obtain ⟨p0, p1, p2, p3, p4, p5, p6⟩ := ka
  replace b1 := kept_trans b0 b1
  go_wp2_with fail
  refine (toC_false _ zs1 _ (RdP_kept H1.out b1) (by omega)).mono ?_
  rintro e w102 ⟨s1, rfl, ks1, b2⟩
  have z2 := b2.size
  have ka := BaAt_kept kaH.out b2
  clear kaH p0 p1 p2 p3 p4 p5 p6
  have kaH := Lib.hid ka
  obtain ⟨p0, p1, p2, p3, p4, p5, p6⟩ := ka
  replace b2 := kept_trans b1 b2
  go_wp2_with fail
  refine (HS.out s1 _ (CopyC_rd ks1)).mono ?_
  rintro e w103 ⟨vW, rfl, rW, b3⟩
  have z3 := b3.size
  have ka := BaAt_kept kaH.out b3
  clear kaH p0 p1 p2 p3 p4 p5 p6
  have kaH := Lib.hid ka
  obtain ⟨p0, p1, p2, p3, p4, p5, p6⟩ := ka
  replace ks1 := CopyC_kept ks1 b3
  replace b3 := kept_trans b2 b3
  go_wp2_with fail
  refine (toC_false _ zs1 _ (RdP_kept H1.out b3) (by omega)).mono ?_
  rintro e w104 ⟨x1, rfl, kx1, b4⟩
  have z4 := b4.size
  have ka := BaAt_kept kaH.out b4
  clear kaH p0 p1 p2 p3 p4 p5 p6
  have kaH := Lib.hid ka
  obtain ⟨p0, p1, p2, p3, p4, p5, p6⟩ := ka
  replace rW := RowF_kept rW b4
  replace b4 := kept_trans b3 b4
  go_wp2_with fail
  refine (toBase_any s m b j a c d _).mono ?_
  rintro e w105 ⟨rfl, b5⟩
  have z5 := b5.size
  have ka := BaAt_kept kaH.out b5
  clear kaH p0 p1 p2 p3 p4 p5 p6
  have kaH := Lib.hid ka
  obtain ⟨p0, p1, p2, p3, p4, p5, p6⟩ := ka
  replace rW := RowF_kept rW b5
  replace kx1 := CopyC_kept kx1 b5
  replace b5 := kept_trans b4 b5
  go_wp2_with fail
  refine (HI.out x1 _ (CopyC_rd kx1)).mono ?_
  rintro e w106 ⟨vG, rfl, rG, b6⟩
  have z6 := b6.size
  have ka := BaAt_kept kaH.out b6
  clear kaH p0 p1 p2 p3 p4 p5 p6
  have kaH := Lib.hid ka
  obtain ⟨p0, p1, p2, p3, p4, p5, p6⟩ := ka
  replace rW := RowF_kept rW b6
  replace kx1 := CopyC_kept kx1 b6
  replace b6 := kept_trans b5 b6
  go_wp2_with fail
  refine (eqC_same _ _ _ _ (RowF_rd rG) (RowF_rd rW)).mono ?_
  rintro e w107 ⟨rfl, b7⟩
  have z7 := b7.size
  have ka := BaAt_kept kaH.out b7
  clear kaH p0 p1 p2 p3 p4 p5 p6
  have kaH := Lib.hid ka
  obtain ⟨p0, p1, p2, p3, p4, p5, p6⟩ := ka
  replace rW := RowF_kept rW b7
  replace kx1 := CopyC_kept kx1 b7
  replace rG := RowF_kept rG b7
  replace b7 := kept_trans b6 b7
  go_wp2_with fail
  refine (toC_false _ zs1 _ (RdP_kept H1.out b7) (by omega)).mono ?_
  rintro e w108 ⟨y1, rfl, ky1, b8⟩
  have z8 := b8.size
  have ka := BaAt_kept kaH.out b8
  clear kaH p0 p1 p2 p3 p4 p5 p6
  have kaH := Lib.hid ka
  obtain ⟨p0, p1, p2, p3, p4, p5, p6⟩ := ka
  replace rW := RowF_kept rW b8
  replace kx1 := CopyC_kept kx1 b8
  replace rG := RowF_kept rG b8
  replace b8 := kept_trans b7 b8
  go_wp2_with fail
  refine (intactC_same _ _ zs1 _ _ _ _ _ kx1 ky1).mono ?_
  rintro e w109 ⟨rfl, b9⟩
  have z9 := b9.size
  have ka := BaAt_kept kaH.out b9
  clear kaH p0 p1 p2 p3 p4 p5 p6
  have kaH := Lib.hid ka
  obtain ⟨p0, p1, p2, p3, p4, p5, p6⟩ := ka
  replace rW := RowF_kept rW b9
  replace kx1 := CopyC_kept kx1 b9
  replace rG := RowF_kept rG b9
  replace ky1 := CopyC_kept ky1 b9
  replace b9 := kept_trans b8 b9
  have hbase : w.heap.size ≤ w101.heap.size := by omega
  have rx1 := CopyC_row kx1
  clear kx1
  go_wp2_with fail
  refine (markC_any _ _ _ _ 101 _ rx1 (by omega) (by omega)).mono ?_
  rintro e w110 ⟨rfl, mrx1, g10⟩
  have z10 := g10.size
  have ka := BaAt_grown kaH.out g10 (fun g hg => by have := (rx1).2 g hg; omega)
  clear kaH p0 p1 p2 p3 p4 p5 p6
  have kaH := Lib.hid ka
  obtain ⟨p0, p1, p2, p3, p4, p5, p6⟩ := ka
  replace rW := RowF_far rW g10 (fun g hg => by have := (rx1).2 g hg; omega)
  replace rG := RowF_far rG g10 (fun g hg => by have := (rx1).2 g hg; omega)
  have b10 := grown_below b9 g10 (fun g hg => by have := (rx1).2 g hg; omega)
  clear rx1
  go_wp2_with fail
  refine (eqC_same _ _ _ _ (RowF_rd rG) (RowF_rd rW)).mono ?_
  rintro e w111 ⟨rfl, b11⟩
  have z11 := b11.size
  have ka := BaAt_kept kaH.out b11
  clear kaH p0 p1 p2 p3 p4 p5 p6
  have kaH := Lib.hid ka
  obtain ⟨p0, p1, p2, p3, p4, p5, p6⟩ := ka
  replace rW := RowF_kept rW b11
  replace rG := RowF_kept rG b11
  replace b11 := kept_trans b10 b11
  go_wp2_with fail
  refine (markC_any _ _ _ _ 101 _ rG (by omega) (by omega)).mono ?_
  rintro e w112 ⟨rfl, mrG, g12⟩
  have z12 := g12.size
  have ka := BaAt_grown kaH.out g12 (fun g hg => by have := (rG).2 g hg; omega)
  clear kaH p0 p1 p2 p3 p4 p5 p6
  have kaH := Lib.hid ka
  obtain ⟨p0, p1, p2, p3, p4, p5, p6⟩ := ka
  replace rW := RowF_far rW g12 (fun g hg => by have := (rG).2 g hg; omega)
  have b12 := grown_below b11 g12 (fun g hg => by have := (rG).2 g hg; omega)
  clear rG
  go_wp2_with fail
  refine (heldC_same _ _ 101 _ (RowF_rd mrG) (by omega) (by omega)).mono ?_
  rintro e w' ⟨rfl, rfl⟩
  go_wp2_with fail
  refine (toBase_any s m b j a c d _).mono ?_
  rintro e w113 ⟨rfl, b13⟩
  have z13 := b13.size
  have ka := BaAt_kept kaH.out b13
  clear kaH p0 p1 p2 p3 p4 p5 p6
  have kaH := Lib.hid ka
  obtain ⟨p0, p1, p2, p3, p4, p5, p6⟩ := ka
  replace rW := RowF_kept rW b13
  replace mrG := RowF_kept mrG b13
  replace b13 := kept_trans b12 b13
  go_wp2_with fail
  refine (toC_true _ zs1 _ (RdP_kept H1.out b13) (by omega)).mono ?_
  rintro e w114 ⟨t1, rfl, kt1, b14⟩
  have z14 := b14.size
  have ka := BaAt_kept kaH.out b14
  clear kaH p0 p1 p2 p3 p4 p5 p6
  have kaH := Lib.hid ka
  obtain ⟨p0, p1, p2, p3, p4, p5, p6⟩ := ka
  replace rW := RowF_kept rW b14
  replace mrG := RowF_kept mrG b14
  replace b14 := kept_trans b13 b14
  go_wp2_with fail
  refine (HI.out t1 _ kt1).mono ?_
  rintro e w115 ⟨vH, rfl, rH, b15⟩
  have z15 := b15.size
  have ka := BaAt_kept kaH.out b15
  clear kaH p0 p1 p2 p3 p4 p5 p6
  have kaH := Lib.hid ka
  obtain ⟨p0, p1, p2, p3, p4, p5, p6⟩ := ka
  replace rW := RowF_kept rW b15
  replace mrG := RowF_kept mrG b15
  replace kt1 := RdP_kept kt1 b15
  replace b15 := kept_trans b14 b15
  go_wp2_with fail
  refine (eqC_same _ _ _ _ (RowF_rd rH) (RowF_rd rW)).mono ?_
  rintro e w116 ⟨rfl, b16⟩
  have z16 := b16.size
  have ka := BaAt_kept kaH.out b16
  clear kaH p0 p1 p2 p3 p4 p5 p6
  have kaH := Lib.hid ka
  obtain ⟨p0, p1, p2, p3, p4, p5, p6⟩ := ka
  replace rW := RowF_kept rW b16
  replace mrG := RowF_kept mrG b16
  replace rH := RowF_kept rH b16
  replace b16 := kept_trans b15 b16
  go_wp2_with fail
  refine (heldC_same _ _ 101 _ (RowF_rd mrG) (by omega) (by omega)).mono ?_
  rintro e w' ⟨rfl, rfl⟩
  go_wp2
  go_ret
  exact ⟨rfl, b16⟩

end Go.Proofs.Ytjdppjcmelflbab
namespace Go.Proofs.Ytjdppjcmelflbab.fnExactSafeChart
open Go.ChangeShapes Go.WideShapes Go.ChangeAt Go.RowKit
set_option linter.unusedVariables false
set_option linter.unusedSimpArgs false
open Go.Joins Go.ChangeMaps
set_option maxRecDepth 100000 in
theorem lifted (os : Os) (started : os.Started) (H : Type) (enc : TypeId × Value → H) :
    ReturnsInHanded {} Try.checked os 12 .any (Rows.fnExactSafeChartSpec.pre6 enc Try.prog Try.f12 Rows.fnExactSafeChartRow.domain false) (Rows.fnExactSafeChartSpec.post enc Try.prog Try.f12 false true false false) := by
  refine returnsInHanded_of_change (C := Try.checked) (show ownKnob Try.prog.godebug = none by kernel_rfl) started (by kernel_rfl) Try.func12
    (ChangeSpec.witness6 (enc := enc) (C := Try.checked) false ⟨#[], #[.agg #[.int .i64 0, .int .i64 0, .int .i64 0, .int .i64 0, .int .i64 0, .int .i64 0, .int .i64 0], .slice none 0 0, .int .i64 0], []⟩ 8 (by kernel_rfl) (by kernel_rfl) (by kernel_rfl) (by kernel_rfl)) ?_
  intro W base args ds gs before hval0 hW hcnd _
  have hval : ∀ (j : Nat) t v, Try.f12.params[j]? = some t → args[j]? = some v → Value.okWide Try.prog W .any base t v := hval0
  have hW' := hW
  obtain ⟨p, q, hA0, hV, rfl, hfz, hnd⟩ := hW
  have hA : DataW.TrodAll enc Try.prog W 0 (fun _ => true) true Try.f12.params.toList args.toList ds p := hA0
  rw [Try.params12] at hA hval
  obtain ⟨v0, vs0, d0, ds0, p0, q0, hargs, rfl, rfl, h0, r0⟩ := trodAll_cons hA
  obtain ⟨v1, vs1, d1, ds1, p1, q1, rfl, rfl, rfl, h1, r1⟩ := trodAll_cons r0
  obtain ⟨v2, vs2, d2, ds2, p2, q2, rfl, rfl, rfl, h2, r2⟩ := trodAll_cons r1
  obtain ⟨rfl, rfl, rfl⟩ := trodAll_nil r2
  obtain rfl : args = #[v0, v1, v2] := by cases args; simp_all
  obtain ⟨rfl, rfl⟩ := trodVars_none hV
  obtain ⟨b0_0, b0_1, b0_2, b0_3, b0_4, b0_5, b0_6, rfl⟩ := open_base (hval 0 23 v0 rfl rfl) h0
  obtain ⟨zs1, hr1, wf1⟩ := open_pairs Try.underlying42 Try.underlying79 Try.underlying2 Try.underlying2 (by kernel_rfl) rfl rfl (by kernel_rfl) (by kernel_rfl) (hval 1 42 v1 rfl rfl) h1
  obtain ⟨a2, rfl, rfl, rfl, w2⟩ := open_int Try.underlying2 (hval 2 2 v2 rfl rfl) h2
  clear hA0 hval0
  refine (walk_FnExactSafeChart (w := W) b0_0 b0_1 b0_2 b0_3 b0_4 b0_5 b0_6 _ zs1 hr1 wf1 a2 w2).mono fun e W' ⟨he, hb⟩ => ?_
  subst he
  exact ⟨_, rfl, law_post (B := 4) (by kernel_rfl) (by kernel_rfl) rfl Try.underlying4 rfl hW' rfl hb⟩

/-- The statement: for every input the law returns true, and the arguments read afterwards as before. -/
theorem proved : Rows.FnExactSafeChartSaid :=
  OpenClaim.holds_of_wide 12 Try.f12 rfl rfl rfl rfl rfl rfl rfl ⟨rfl, rfl, rfl, rfl, rfl⟩ rfl rfl rfl rfl rfl (by kernel_rfl) Try.func12 (by kernel_rfl)
    (of_decide_eq_true (by kernel_rfl)) (by unfold Func.isWrapper; first | (rw [if_pos (by decide +kernel)]; kernel_rfl) | (rw [if_neg (by decide +kernel)]; exact ⟨rfl, rfl⟩))
    (fun os started H enc _ => lifted os started H enc)
end Go.Proofs.Ytjdppjcmelflbab.fnExactSafeChart
