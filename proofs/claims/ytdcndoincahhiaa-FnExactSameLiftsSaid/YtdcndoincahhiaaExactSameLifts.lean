/- Proved: for every input the law FnExactSameLifts returns true, and each argument reads afterwards as it read before; no condition beside those of the given row. -/
import Derived.Test.YtdcndoincahhiaaRows
import Derived.WalkKit
import Derived.ProofKit
import Derived.OpenShut
import Derived.Lib.Hide
import Derived.Handy
import Derived.BigQuiet
import Derived.Carry
import Derived.Deep.DeepCutAuto
import Derived.Deep.QuietTactic
import Derived.Deep.RegionHeld3
import Derived.Deep.SlicePairs
import Derived.Lib.ItoaLen
import Derived.Lib.ItoaNum
import Derived.Lib.SmallJoins
import Derived.Shelf.Abstract
import Derived.Lib.SmallJoins
import Derived.ChangeMaps5
namespace Go.Proofs.Ytdcndoincahhiaa
open Go.ChangeShapes Go.WideShapes Go.ChangeAt Go.RowKit
set_option linter.unusedVariables false
set_option linter.unusedSimpArgs false

theorem tmod_pos (n k : Int) (h : 0 ≤ n) : n.tmod k = n % k := Int.tmod_eq_emod_of_nonneg h

theorem trodAll_stay {H : Type} {enc : TypeId × Value → H} {P : Program} (hl : laidOutB P = true) {W W' : World} (hb : Below W.heap.size W W') :
    ∀ (ts : List TypeId) (vs : List Value) (ds : List (DataW H)) (ps : List MemPlace), ts.all (fun t => P.readableRec t && decide (t < P.types.size)) = true →
      DataW.TrodAll enc P W 0 (fun _ => true) true ts vs ds ps → (∀ x ∈ ps, x.block < W.heap.size) →
      DataW.TrodAll enc P W' 0 (fun b => decide (b < W.heap.size)) true ts vs ds ps := by
  intro ts
  induction ts with
  | nil => intro vs ds ps _ h _; obtain ⟨rfl, rfl, rfl⟩ := trodAll_nil h; exact rfl
  | cons t ts ih =>
    intro vs ds ps hr h hlt
    simp only [List.all_cons, Bool.and_eq_true, decide_eq_true_eq] at hr
    obtain ⟨v, vs', d, ds', p, q, rfl, rfl, rfl, h0, h1⟩ := trodAll_cons h
    exact ⟨p, q, Below.trod hl hr.1.1 hr.1.2 h0 hb (fun x hx => hlt x (by simp [hx])), ih _ _ _ hr.2 h1 (fun x hx => hlt x (by simp [hx])), rfl⟩

/-- A law's row at its end: it returned true, and of what was there nothing has turned. -/
theorem law_post {H : Type} {enc : TypeId × Value → H} {P : Program} {f : Func} {s : ChangeSpec} {W W' : World} {args : Array Value} {ds gs : List (DataW H)} {before : List MemPlace} {B : TypeId}
    (hl : laidOutB P = true) (hr : f.params.toList.all (fun t => P.readableRec t && decide (t < P.types.size)) = true)
    (hres : f.resultTypes = #[B]) (hB : P.underlying B = some .bool) (hv : s.vars = [])
    (hW : DataW.Whole enc P f.params.toList s.vars false W args.toList ds gs before)
    (hfn : s.fn H (ds ++ gs) = { results := [.lit (.bool true)], args := ds }) (hb : Below W.heap.size W W') :
    s.post enc P f false true false false W args (.bool true) W' := by
  have hlt : ∀ p ∈ before, p.block < W.heap.size := fun p hp => hW.lt p hp
  have hW' := hW
  obtain ⟨p, q, hA, hV, rfl, _, _⟩ := hW'
  rw [hv] at hV
  obtain ⟨rfl, rfl⟩ := trodVars_none hV
  refine ⟨ds, [], p ++ [], [], p, [], hW, ?_, ?_, ?_, hb.frame _, fun h => by cases h⟩
  · rw [hfn, hres]
    exact trodAll_cons_mk (shut_bool hB _) trodAll_mk0
  · rw [hfn]
    exact trodAll_stay hl hb _ _ _ _ hr hA (fun x hx => hlt x (by simp [hx]))
  · rw [hfn, hv]
    exact rfl

theorem kept_cell {W w1 : World} (hb : Below W.heap.size W w1) (b o : Nat) (h : b < W.heap.size) : w1.cell? ⟨b, o, none⟩ = W.cell? ⟨b, o, none⟩ := hb.cell (p := ⟨b, o, none⟩) h

theorem kept_frozen {W w1 : World} (hb : Below W.heap.size W w1) (b o : Nat) (h : b < W.heap.size) : w1.frozen? ⟨b, o, none⟩ = W.frozen? ⟨b, o, none⟩ := hb.frozen (p := ⟨b, o, none⟩) h

theorem kept {W w1 : World} (hb : Below W.heap.size W w1) :
    (∀ b o, b < W.heap.size → w1.cell? ⟨b, o, none⟩ = W.cell? ⟨b, o, none⟩) ∧ (∀ b o, b < W.heap.size → w1.frozen? ⟨b, o, none⟩ = W.frozen? ⟨b, o, none⟩) ∧ W.heap.size ≤ w1.heap.size :=
  ⟨kept_cell hb, kept_frozen hb, hb.size⟩

theorem kept_trans {a b c : World} (h : Below a.heap.size a b) (k : Below b.heap.size b c) : Below a.heap.size a c := h.trans (k.mono h.size)

theorem kept_at {W w1 : World} (hb : Below W.heap.size W w1) (b : Nat) {G : Prop} (h : b < W.heap.size)
    (k : (∀ o, w1.cell? ⟨b, o, none⟩ = W.cell? ⟨b, o, none⟩) → (∀ o, w1.frozen? ⟨b, o, none⟩ = W.frozen? ⟨b, o, none⟩) → b < w1.heap.size → G) : G :=
  k (fun o => kept_cell hb b o h) (fun o => kept_frozen hb b o h) (Nat.lt_of_lt_of_le h hb.size)

theorem kept_drewN {B : Nat} {a w : World} (h : Below B a w) (n : Nat) : Below B a (w.drewN n) := { os := h.os, tape := h.tape, output := h.output, size := h.size, block := h.block }

theorem grown_step {a b c : World} {row : Option Nat} (h : a.grownBy b row) (k : b.grownBy c row) : a.grownBy c row :=
  ⟨k.os.trans h.os, k.tape.trans h.tape, k.output.trans h.output, Nat.le_trans h.size k.size, fun i hi hne => (k.block i (Nat.lt_of_lt_of_le hi h.size) hne).trans (h.block i hi hne)⟩

theorem grown_below {a b c : World} {row : Option Nat} (h : Below a.heap.size a b) (k : b.grownBy c row) (hr : ∀ g, row = some g → a.heap.size ≤ g) : Below a.heap.size a c := h.grown k h.size hr

theorem results_cell1 {fn : Func} {p : Tmp} {ty : TypeId} (h : fn.results = #[.cell p ty]) (tmps : Array Value) (P : Program) (w : World) :
    (results fn tmps).run P w = ((asAddr (tmps.getD p undef)).run P w).andThen fun a w₁ => (loadVar ty a).run P w₁ := by
  simp only [results, h]
  simp [Sem.run_bind, Result.andThen]

theorem grown_set (w : World) (a : Addr) (u : Value) : w.grownBy (w.setCell a u) (some a.block) :=
  ⟨rfl, rfl, rfl, by simp, fun k _ hk => heap_setCell_other w a k u (fun e => hk (by rw [e]))⟩

theorem toPoint_any (x y : Int) (w : World) :
    Calls Try.prog 59 #[.agg #[.int .i64 x, .int .i64 y]] w fun e w' => e = .returned (.agg #[.int .i64 x, .int .i64 y]) ∧ Below w.heap.size w w' := by
  go_enter Try.func59, Try.ntmps59
  go_wp2
  go_returns
  exact ⟨rfl, by go_grown⟩

theorem info_int64 : (Try.prog.info? 2).map (fun i => (i.zero, i.size, i.bytes)) = some (some (.int .i64 0), 1, 8) := by kernel_rfl

theorem own_kept {W w1 : World} {base : Nat} {e : TypeId} {size : Nat} {v : Value} {n : Nat} {xs : List Value} (h : W.ownsRow base e size v n xs) (hb : Below W.heap.size W w1) : w1.ownsRow base e size v n xs := by
  refine ⟨h.1, ?_⟩
  rcases h.2 with h2 | ⟨g, cap, cur, hv, hg, hh, r⟩
  · exact Or.inl h2
  · refine Or.inr ⟨g, cap, cur, hv, hg, ?_, r⟩
    rw [hb.block g (h.lt g (by rw [hv]; rfl)).2]
    exact hh

/-- The slice value reads as a list of numbers. -/
def RdI (w : World) (v : Value) (zs : List Int) : Prop :=
  zs.length ≤ 9223372036854775807 ∧ ∃ A c, v = .slice A zs.length c ∧ ∀ k, (hk : k < zs.length) → ∃ b off, A = some ⟨b, off, none⟩ ∧ b < w.heap.size ∧ w.cell? ⟨b, off + k, none⟩ = some (.int .i64 zs[k])

theorem RdI_kept {W w1 : World} {v : Value} {zs : List Int} (h : RdI W v zs) (hb : Below W.heap.size W w1) : RdI w1 v zs := by
  obtain ⟨hl, A, c, rfl, hr⟩ := h
  refine ⟨hl, A, c, rfl, fun k hk => ?_⟩
  obtain ⟨b, off, e, hlt, hc⟩ := hr k hk
  exact ⟨b, off, e, Nat.lt_of_lt_of_le hlt hb.size, by rw [kept_cell hb b _ hlt]; exact hc⟩

/-- A row of numbers of the call's own, in a block from lo on and below hi. -/
def RowI (w : World) (lo hi : Nat) (v : Value) (zs : List Int) : Prop :=
  w.ownsRow lo 2 1 v zs.length (zs.map (Value.int .i64)) ∧ ∀ g, v.ownBlock = some g → lo ≤ g ∧ g < hi

theorem RowI_nil (w : World) (lo hi : Nat) : RowI w lo hi (.slice none 0 0) [] := ⟨World.ownsRow_nil _ _ _ _, fun g h => by simp [Value.ownBlock] at h⟩

theorem RowI_form {w : World} {lo hi : Nat} {v : Value} {zs : List Int} (h : RowI w lo hi v zs) :
    (zs = [] ∧ v = .slice none 0 0) ∨ ∃ g cap, v = .slice (some ⟨g, 0, none⟩) zs.length cap ∧ lo ≤ g ∧ g < hi ∧ g < w.heap.size ∧ zs.length ≤ cap ∧ cap ≤ maxLen := by
  rcases h.1.2 with ⟨h1, h2⟩ | ⟨g, cap, cur, rfl, hg, hh, h3, h4, _⟩
  · exact Or.inl ⟨List.eq_nil_of_length_eq_zero h2, h1⟩
  · exact Or.inr ⟨g, cap, rfl, hg, (h.2 g rfl).2, (h.1.lt g rfl).2, h3, h4⟩

theorem RowI_rd {w : World} {lo hi : Nat} {v : Value} {zs : List Int} (h : RowI w lo hi v zs) : RdI w v zs := by
  rcases RowI_form h with ⟨rfl, rfl⟩ | ⟨g, cap, rfl, _, _, hlt, h3, h4⟩
  · exact ⟨by simp, none, 0, rfl, fun k hk => by simp at hk⟩
  · unfold maxLen at h4
    refine ⟨by omega, some ⟨g, 0, none⟩, cap, rfl, fun k hk => ⟨g, 0, rfl, hlt, ?_⟩⟩
    rw [Nat.zero_add, h.1.cellAt k (by simpa using hk)]
    simp [hk]

theorem RowI_kept {W w1 : World} {lo hi : Nat} {v : Value} {zs : List Int} (h : RowI W lo hi v zs) (hb : Below W.heap.size W w1) : RowI w1 lo hi v zs := ⟨own_kept h.1 hb, h.2⟩

theorem RowI_far {W w1 : World} {lo hi : Nat} {v : Value} {zs : List Int} {row : Option Nat} (h : RowI W lo hi v zs) (hg : W.grownBy w1 row) (hr : ∀ g, row = some g → g < lo ∨ hi ≤ g) : RowI w1 lo hi v zs := by
  refine ⟨h.1.kept hg ?_, h.2⟩
  rcases hv : v.ownBlock with _ | g
  · exact Or.inl rfl
  · refine Or.inr (fun e => ?_)
    have h1 := h.2 g hv
    have h2 := hr g e.symm
    omega

theorem eqInts_same (v1 v2 : Value) (zs : List Int) (w : World) (h1 : RdI w v1 zs) (h2 : RdI w v2 zs) :
    Calls Try.prog 35 #[v1, v2] w fun e w' => e = .returned (.bool true) ∧ Below w.heap.size w w' := by
  obtain ⟨hl, A, c, rfl, r1⟩ := h1
  obtain ⟨_, A2, c2, rfl, r2⟩ := h2
  have R1 := Lib.hid r1; clear r1
  have R2 := Lib.hid r2; clear r2
  go_enter Try.func35, Try.ntmps35
  go_wp2_with fail
  go_loopw [5] (fun i wr => ∃ k : Nat, k ≤ zs.length ∧ i = .int .i64 k ∧ Below w.heap.size w wr) (fun i _ => zs.length - (intOf i).toNat)
  case atStart => exact ⟨0, by omega, rfl, Below.refl _ _⟩
  case round =>
    obtain ⟨k, hk, rfl, hb⟩ := hrel
    by_cases hlt : k < zs.length
    · obtain ⟨b, off, rfl, hbl, hc⟩ := R1.out k hlt
      obtain ⟨b2, off2, rfl, hbl2, hc2⟩ := R2.out k hlt
      rw [← kept_cell hb b _ hbl] at hc
      rw [← kept_cell hb b2 _ hbl2] at hc2
      go_wp2_with fail
      go_quiet (fail)
      go_wp2
      go_roundw
      case rel => exact ⟨k + 1, by omega, by go_num, kept_drewN hb _⟩
      case measure => simp [intOf]; omega
    · have : k = zs.length := by omega
      subst this
      go_wp2
      go_ret
      exact ⟨rfl, hb⟩

/-- What a marked list holds: k, k + 1, .. -/
def marks (k : Nat) : Nat → List Int
  | 0 => []
  | n + 1 => (k : Int) :: marks (k + 1) n

theorem marks_len (k n : Nat) : (marks k n).length = n := by
  induction n generalizing k with
  | zero => rfl
  | succ n ih => simp [marks, ih]

theorem marks_at (k n j : Nat) (h : j < n) : (marks k n)[j]? = some ((k + j : Nat) : Int) := by
  induction n generalizing k j with
  | zero => omega
  | succ n ih =>
    cases j with
    | zero => simp [marks]
    | succ j => simp only [marks, List.getElem?_cons_succ]; rw [ih (k + 1) j (by omega)]; congr 2; omega

theorem marks_set (k j : Nat) (l : List Int) (h : j < l.length) : (marks k j ++ l.drop j).set j ((k + j : Nat) : Int) = marks k (j + 1) ++ l.drop (j + 1) := by
  apply List.ext_getElem?
  intro i
  rw [List.getElem?_set]
  by_cases h1 : j = i
  · subst h1
    rw [if_pos rfl, if_pos (by simp [marks_len]; omega), List.getElem?_append_left (by rw [marks_len]; omega), marks_at _ _ _ (by omega)]
  · rw [if_neg h1]
    by_cases h2 : i < j
    · rw [List.getElem?_append_left (by rw [marks_len]; omega), List.getElem?_append_left (by rw [marks_len]; omega), marks_at _ _ _ h2, marks_at _ _ _ (by omega)]
    · rw [List.getElem?_append_right (by rw [marks_len]; omega), List.getElem?_append_right (by rw [marks_len]; omega), marks_len, marks_len, List.getElem?_drop, List.getElem?_drop]
      congr 1
      omega

theorem markIntsX_any (v : Value) (zs : List Int) (lo hi k0 : Nat) (w : World) (h : RowI w lo hi v zs) (hk0 : k0 ≤ 20000000) (hn : zs.length ≤ 4611686018427387904) :
    Calls Try.prog 36 #[v, .int .i64 k0] w fun e w' => e = .returned (.int .i64 ((k0 + zs.length : Nat) : Int)) ∧ RowI w' lo hi v (marks k0 zs.length) ∧ w.grownBy w' v.ownBlock := by
  rcases RowI_form h with ⟨rfl, rfl⟩ | ⟨g, cap, rfl, _, _, hlt, _, _⟩
  · go_enter Try.func36, Try.ntmps36
    go_wp2_with fail
    refine wp_loop_rounds 1 ?_
    rw [rounds_succ]
    go_wp2
    go_ret
    exact ⟨rfl, RowI_nil _ _ _, World.grownBy.refl _ _⟩
  · have hll := zs.length
    generalize hN : zs.length = N at *
    have HN := Lib.hid hN; clear hN
    have H := Lib.hid h; clear h
    go_enter Try.func36, Try.ntmps36
    go_wp2_with fail
    go_loopw [1, 5] (fun q i wr => ∃ j : Nat, j ≤ N ∧ i = .int .i64 j ∧ q = .int .i64 ((k0 + j : Nat) : Int) ∧ wr.ownsRow lo 2 1 (.slice (some ⟨g, 0, none⟩) N cap) N ((marks k0 j ++ zs.drop j).map (Value.int .i64)) ∧ w.grownBy wr (some g)) (fun _ i _ => N - (intOf i).toNat)
    case atStart => exact ⟨0, by omega, rfl, by simp, by have := H.out.1; simpa [marks, HN.out] using this, World.grownBy.refl _ _⟩
    case round =>
      obtain ⟨j, hj, rfl, rfl, hown, hg⟩ := hrel
      by_cases hlt : j < N
      · have hcell : ∃ u, wr.cell? ⟨g, j, none⟩ = some u := by
          rw [hown.cellAt j (by omega)]
          have : j < ((marks k0 j ++ zs.drop j).map (Value.int .i64)).length := by simp [marks_len, HN.out]; omega
          exact ⟨_, List.getElem?_eq_getElem this⟩
        obtain ⟨u, hcell⟩ := hcell
        have hfz := hown.frozenAt j
        have hst := hown.stored j (.int .i64 ((k0 + j : Nat) : Int))
        have Hst := Lib.hid hst; clear hst
        have Hown := Lib.hid hown; clear hown
        go_wp2
        go_roundw
        case rel =>
          refine ⟨j + 1, by omega, by go_num, by go_num, ?_, ?_⟩
          · have := Hst.out.1
            rw [← List.map_set, marks_set _ _ _ (by rw [HN.out]; exact hlt)] at this
            exact this
          · exact grown_step hg Hst.out.2
        case measure => simp [intOf]; omega
      · have : j = N := by omega
        subst this
        go_wp2
        go_ret
        refine ⟨rfl, ⟨?_, fun x hx => H.out.2 x hx⟩, hg⟩
        rw [marks_len]
        have hd : zs.drop j = [] := List.drop_eq_nil_of_le (by rw [HN.out]; omega)
        rw [hd, List.append_nil] at hown
        exact hown

theorem eqPoint_same (x y : Int) (w : World) :
    Calls Try.prog 64 #[.agg #[.int .i64 x, .int .i64 y], .agg #[.int .i64 x, .int .i64 y]] w fun e w' => e = .returned (.bool true) ∧ Below w.heap.size w w' := by
  go_enter Try.func64, Try.ntmps64
  go_wp2
  go_ret
  exact ⟨rfl, by go_grown⟩

theorem flat_len {α : Type} {enc : α → List Value} {sz : Nat} (h : ∀ z, (enc z).length = sz) (zs : List α) : (zs.flatMap enc).length = zs.length * sz := by
  induction zs with
  | nil => simp
  | cons z zs ih => rw [List.flatMap_cons, List.length_append, ih, h, List.length_cons, Nat.add_mul]; omega

theorem flat_at {α : Type} {enc : α → List Value} {sz : Nat} (h : ∀ z, (enc z).length = sz) (zs : List α) (k j : Nat) (hk : k < zs.length) (hj : j < sz) : (zs.flatMap enc)[k * sz + j]? = (enc zs[k])[j]? := by
  induction zs generalizing k with
  | nil => simp at hk
  | cons z zs ih =>
    cases k with
    | zero => rw [List.flatMap_cons, List.getElem?_append_left (by rw [h]; omega)]; simp
    | succ k =>
      have e : (k + 1) * sz + j - (enc z).length = k * sz + j := by rw [h, Nat.add_mul]; omega
      rw [List.flatMap_cons, List.getElem?_append_right (by rw [h, Nat.add_mul]; omega), e, ih k (by simpa using hk)]
      simp

/-- The slice value reads as n elements of sz cells each, cell for cell. -/
def RdF (w : World) (v : Value) (n sz : Nat) (xs : List Value) : Prop :=
  n ≤ 9223372036854775807 ∧ xs.length = n * sz ∧ ∃ A c, v = .slice A n c ∧ ∀ i, i < n * sz → ∃ b off, A = some ⟨b, off, none⟩ ∧ b < w.heap.size ∧ w.cell? ⟨b, off + i, none⟩ = xs[i]?

theorem RdF_kept {W w1 : World} {v : Value} {n sz : Nat} {xs : List Value} (h : RdF W v n sz xs) (hb : Below W.heap.size W w1) : RdF w1 v n sz xs := by
  obtain ⟨hl, hx, A, c, rfl, hr⟩ := h
  refine ⟨hl, hx, A, c, rfl, fun k hk => ?_⟩
  obtain ⟨b, off, e, hlt, hc⟩ := hr k hk
  exact ⟨b, off, e, Nat.lt_of_lt_of_le hlt hb.size, by rw [kept_cell hb b _ hlt]; exact hc⟩

/-- A row of elements of the call's own (type e, sz cells each), in a block from lo on and below hi. -/
def RowF (e sz : Nat) (w : World) (lo hi : Nat) (v : Value) (n : Nat) (xs : List Value) : Prop :=
  w.ownsRow lo e sz v n xs ∧ ∀ g, v.ownBlock = some g → lo ≤ g ∧ g < hi

theorem RowF_form {e sz : Nat} {w : World} {lo hi : Nat} {v : Value} {n : Nat} {xs : List Value} (h : RowF e sz w lo hi v n xs) :
    (n = 0 ∧ xs = [] ∧ v = .slice none 0 0) ∨ ∃ g cap, v = .slice (some ⟨g, 0, none⟩) n cap ∧ lo ≤ g ∧ g < hi ∧ g < w.heap.size ∧ n ≤ cap ∧ cap ≤ maxLen := by
  rcases h.1.2 with ⟨h1, h2⟩ | ⟨g, cap, cur, rfl, hg, hh, h3, h4, _⟩
  · exact Or.inl ⟨h2, List.eq_nil_of_length_eq_zero (by rw [h.1.1, h2, Nat.zero_mul]), h1⟩
  · exact Or.inr ⟨g, cap, rfl, hg, (h.2 g rfl).2, (h.1.lt g rfl).2, h3, h4⟩

theorem RowF_rd {e sz : Nat} {w : World} {lo hi : Nat} {v : Value} {n : Nat} {xs : List Value} (h : RowF e sz w lo hi v n xs) : RdF w v n sz xs := by
  rcases RowF_form h with ⟨rfl, rfl, rfl⟩ | ⟨g, cap, rfl, _, _, hlt, h3, h4⟩
  · exact ⟨by simp, by simp, none, 0, rfl, fun k hk => by simp at hk⟩
  · unfold maxLen at h4
    refine ⟨by omega, h.1.1, some ⟨g, 0, none⟩, cap, rfl, fun k hk => ⟨g, 0, rfl, hlt, ?_⟩⟩
    rw [Nat.zero_add, h.1.cellAt k hk]

theorem RowF_kept {e sz : Nat} {W w1 : World} {lo hi : Nat} {v : Value} {n : Nat} {xs : List Value} (h : RowF e sz W lo hi v n xs) (hb : Below W.heap.size W w1) : RowF e sz w1 lo hi v n xs := ⟨own_kept h.1 hb, h.2⟩

/-- The first elements of a row. -/
theorem RowF_short {e sz : Nat} {w : World} {lo hi g cap m n : Nat} {xs : List Value} (h : RowF e sz w lo hi (.slice (some ⟨g, 0, none⟩) m cap) m xs) (hn : n ≤ m) :
    RowF e sz w lo hi (.slice (some ⟨g, 0, none⟩) n cap) n (xs.take (n * sz)) := by
  refine ⟨⟨?_, ?_⟩, fun g' hg' => h.2 g' hg'⟩
  · rw [List.length_take, h.1.1]
    have := Nat.mul_le_mul_right sz hn
    omega
  · rcases h.1.2 with ⟨h1, h2⟩ | ⟨g', cap', cur, h1, hg, hh, h3, h4, h5, h6⟩
    · simp at h1
    · simp only [Value.slice.injEq, Option.some.injEq, Addr.mk.injEq, and_true, true_and] at h1
      obtain ⟨rfl, rfl⟩ := h1
      refine Or.inr ⟨g, cap, cur, rfl, hg, hh, by omega, h4, h5, ?_⟩
      rw [← h6, List.take_take]
      congr 1
      have := Nat.mul_le_mul_right sz hn
      omega

def roomL (n : Nat) : Nat := if n % 6 = 5 then 0 else if n % 3 = 0 then 1 else n

theorem roomL_le (n : Nat) : roomL n ≤ n + 1 := by
  unfold roomL
  split
  · omega
  · split <;> omega

theorem room_any (n : Nat) (hn : n ≤ 9223372036854775807) (w : World) :
    Calls Try.prog 52 #[.int .i64 n] w fun e w' => e = .returned (.int .i64 (roomL n : Nat)) ∧ w = w' := by
  unfold roomL
  have e6 : (n : Int).tmod 6 = ((n % 6 : Nat) : Int) := by rw [tmod_pos _ _ (by omega)]; omega
  have e3 : (n : Int).tmod 3 = ((n % 3 : Nat) : Int) := by rw [tmod_pos _ _ (by omega)]; omega
  by_cases h6 : n % 6 = 5
  · rw [h6] at e6
    go_enter Try.func52, Try.ntmps52
    go_wp2
    go_ret
    exact ⟨by simp [h6], rfl⟩
  · have d6 : ((n : Int).tmod 6 == 5) = false := by rw [e6]; simp; omega
    by_cases h3 : n % 3 = 0
    · rw [h3] at e3
      go_enter Try.func52, Try.ntmps52
      go_wp2
      go_ret
      exact ⟨by simp [h6, h3], rfl⟩
    · have d3 : ((n : Int).tmod 3 == 0) = false := by rw [e3]; simp; omega
      go_enter Try.func52, Try.ntmps52
      go_wp2
      go_ret
      exact ⟨by simp [h6, h3], rfl⟩

theorem fill_step {α : Type} (T : List α) (z : α) (j : Nat) (h : j < T.length) : (T.take j ++ List.replicate (T.length - j) z).set j T[j] = T.take (j + 1) ++ List.replicate (T.length - (j + 1)) z := by
  obtain ⟨m, hm⟩ : ∃ m, T.length - j = m + 1 := ⟨T.length - j - 1, by omega⟩
  rw [hm, show T.length - (j + 1) = m by omega, List.replicate_succ, List.set_append, if_neg (by simp; omega), List.length_take, Nat.min_eq_left (by omega), Nat.sub_self, List.set_cons_zero, ← List.take_append_getElem h, List.append_assoc]
  rfl

/-- The digits of a number, none of 0. -/
def dd (u : Nat) : List UInt8 := if u = 0 then [] else Lib.decDigits u

theorem dd_step (u : Nat) (h : u ≠ 0) : dd u = dd (u / 10) ++ [UInt8.ofNat (48 + u % 10)] := by
  unfold dd
  rw [if_neg h, Lib.decDigits]
  by_cases h1 : u < 10
  · rw [dif_pos h1, if_pos (by omega), Nat.mod_eq_of_lt h1]
    rfl
  · rw [dif_neg h1, if_neg (by omega)]

theorem dd_len (m : Nat) (h : m ≤ 9223372036854775808) : (dd m).length ≤ 20 := by
  unfold dd
  split
  · simp
  · rw [Lib.decDigits_length]
    exact Lib.nDigits_le20 m (by omega)

theorem str_ne {a b : ByteArray} (h : ¬ a = b) : (a.toList == b.toList) = false := by
  rw [ByteArray.toList_eq, ByteArray.toList_eq, beq_eq_false_iff_ne]
  intro he
  apply h
  cases a
  cases b
  simpa [Array.toList_inj] using he

/-- The text of a mark. -/
def markT (k : Nat) : ByteArray := ⟨(109 :: dd k).toArray⟩

theorem cons_str (c : UInt8) (bs : List UInt8) : ByteArray.mk #[c] ++ ByteArray.mk bs.toArray = ByteArray.mk (c :: bs).toArray := by
  rw [show ByteArray.mk #[c] = ByteArray.mk [c].toArray from rfl, ByteArray.mk_append_mk]
  rfl

set_option maxRecDepth 100000 in
theorem markText_any (m : Nat) (h1 : 1 ≤ m) (h2 : m ≤ 1000000000) (w : World) :
    Calls Try.prog 65 #[.int .i64 (m : Int)] w fun e w' => e = .returned (.string (markT m)) ∧ Below w.heap.size w w' := by
  have hdl := dd_len m (by omega)
  unfold markT
  go_enter Try.func65, Try.ntmps65
  go_wp2_with fail
  go_loopw [0, 3] (fun k o wr => ∃ (u : Nat) (bs : List UInt8), u ≤ m ∧ k = .int .i64 (u : Int) ∧ o = .string ⟨bs.toArray⟩ ∧ dd m = dd u ++ bs ∧ Below w.heap.size w wr) (fun k _ _ => (intOf k).toNat)
  case atStart => exact ⟨m, [], Nat.le_refl _, rfl, rfl, by simp, Below.refl _ _⟩
  case round =>
    obtain ⟨u, bs, hu, rfl, rfl, hdd, hb⟩ := hrel
    by_cases h0 : u = 0
    · subst h0
      have hbs : dd m = bs := by simpa [dd] using hdd
      have hbl : bs.length ≤ 20 := by rw [← hbs]; exact hdl
      have HB := Lib.hid hbs; clear hbs hdd
      go_wp2
      go_ret
      exact ⟨by rw [HB.out]; rfl, hb⟩
    · have hst := dd_step u h0
      rw [hst, List.append_assoc] at hdd
      have hlen : bs.length ≤ 20 := by
        have := congrArg List.length hdd
        simp at this
        omega
      have hmod : (u : Int).tmod 10 = ((u % 10 : Nat) : Int) := by rw [Int.tmod_eq_emod_of_nonneg (by omega)]; omega
      have hdiv : (u : Int).tdiv 10 = ((u / 10 : Nat) : Int) := by rw [Int.tdiv_eq_ediv_of_nonneg (by omega)]; omega
      have hd10 : u % 10 < 10 := Nat.mod_lt _ (by omega)
      have hbyte : ((UInt8.ofNat (48 + u % 10)).toNat : Int) = (48 : Int) + ((u % 10 : Nat) : Int) := by
        rw [UInt8.toNat_ofNat_of_lt' (by have : UInt8.size = 256 := rfl; omega)]
        push_cast
        rfl
      have hsz := hb.size
      have hlt10 : u / 10 < u := Nat.div_lt_self (by omega) (by omega)
      have HD := Lib.hid hdd; clear hdd hst
      generalize UInt8.ofNat (48 + u % 10) = c at *
      generalize u / 10 = q at *
      generalize u % 10 = d at *
      have hw8 : IntKind.u8.wrap ((48 : Int) + (d : Int)) = 48 + (d : Int) := IntWalk.u8_in _ (by omega)
      have hcv := run_convert_bytes_back (P := Try.prog) (wr.alloc (.cells #[.int .u8 ((48 : Int) + (d : Int))] 5)) 22 9 5 ⟨wr.heap.size, 0, none⟩ 1 [c] Try.underlying22 Try.underlying5 Try.underlying9 (fun j hj => by
        have : j = 0 := by simp at hj; omega
        subst this
        simp [Addr.add, hbyte])
      simp only [List.length_cons, List.length_nil] at hcv
      go_wp2
      go_roundw
      case rel => exact ⟨q, c :: bs, by omega, by go_num, by rw [cons_str], by simpa using HD.out, by go_grown⟩
      case measure => simp [intOf]; omega

/-- A datum that is a list of n elements. -/
def DataLen {H : Type} (d : DataW H) (n : Nat) : Prop := (d = .nil ∧ n = 0) ∨ ∃ es rs, d = .slice es rs ∧ es.length = n

theorem fillPoint_any (w : World) :
    Calls Try.prog 84 #[] w fun e w' => e = .returned (.agg #[.int .i64 (-7000000000000000101), .int .i64 (-7000000000000000101)]) ∧ Below w.heap.size w w' := by
  go_enter Try.func84, Try.ntmps84
  go_wp2
  go_returns
  exact ⟨rfl, by go_grown⟩

/-- The block of a slice. -/
def blkOf : Value → Nat
  | .slice (some a) _ _ => a.block
  | _ => 0

theorem set_mid {α : Type} (T : List α) (z p : α) (m : Nat) : (T ++ List.replicate (m + 1) z).set T.length p = (T ++ [p]) ++ List.replicate m z := by
  rw [List.set_append_right _ _ (Nat.le_refl _), Nat.sub_self, List.replicate_succ, List.set_cons_zero, List.append_assoc]
  rfl

def blkLt (c c' : Value) : Prop := blkOf c < blkOf c'

/-- Nothing that lay before is otherwise, but in the blocks from lo up to hi. -/
structure Within (lo hi : Nat) (w w' : World) : Prop where
  os : w'.os = w.os
  tape : w'.tape = w.tape
  output : w'.output = w.output
  size : w.heap.size ≤ w'.heap.size
  block : ∀ k, k < w.heap.size → (k < lo ∨ hi ≤ k) → w'.heap[k]? = w.heap[k]?

theorem Within_refl (lo hi : Nat) (w : World) : Within lo hi w w := ⟨rfl, rfl, rfl, Nat.le_refl _, fun _ _ _ => rfl⟩

theorem Within_trans {lo hi : Nat} {a b c : World} (h : Within lo hi a b) (k : Within lo hi b c) : Within lo hi a c :=
  ⟨k.os.trans h.os, k.tape.trans h.tape, k.output.trans h.output, Nat.le_trans h.size k.size, fun i hi hn => (k.block i (Nat.lt_of_lt_of_le hi h.size) hn).trans (h.block i hi hn)⟩

theorem Within_below {lo hi : Nat} {a b : World} (h : Below a.heap.size a b) : Within lo hi a b := ⟨h.os, h.tape, h.output, h.size, fun i hi _ => h.block i hi⟩

theorem Within_grown {lo hi : Nat} {a b : World} {row : Option Nat} (h : a.grownBy b row) (hr : ∀ g, row = some g → lo ≤ g ∧ g < hi) : Within lo hi a b :=
  ⟨h.os, h.tape, h.output, h.size, fun i hi' hn => h.block i hi' (fun e => by have := hr i e.symm; omega)⟩

theorem RowI_lo {w : World} {lo lo' hi hi' : Nat} {v : Value} {zs : List Int} (h : RowI w lo hi v zs) (hl : lo' ≤ lo) (hh : hi ≤ hi') : RowI w lo' hi' v zs :=
  ⟨Joins.ownsRow_le h.1 hl, fun g hg => ⟨by have := (h.2 g hg).1; omega, by have := (h.2 g hg).2; omega⟩⟩

/-- The parts of a base's text. -/
def b14 (x0 x1 x2 x3 x4 x5 x6 : List UInt8) : List ByteArray := [⟨#[115, 105, 100, 101]⟩, ⟨x0.toArray⟩, ⟨#[109, 97, 115, 115]⟩, ⟨x1.toArray⟩, ⟨#[98, 97, 108, 108, 97, 115, 116]⟩, ⟨x2.toArray⟩, ⟨#[106, 105, 98]⟩, ⟨x3.toArray⟩, ⟨#[97, 116]⟩, ⟨x4.toArray⟩, ⟨#[99, 111, 117, 110, 116, 101, 114]⟩, ⟨x5.toArray⟩, ⟨#[97, 116]⟩, ⟨x6.toArray⟩]

/-- A world in which all that was there in W stands as it was. -/
structure BelowBy (W : World) where
  w : World
  h : Below W.heap.size W w
instance belowBy_some (W : World) : Inhabited (BelowBy W) := ⟨⟨W, Below.refl _ _⟩⟩

/-- A region that draws its order, whose operations only read and whose callees only make memory: walked once. -/
theorem wp_region_below {P : Program} {id : Nat} {Q : Exit → Act → World → Prop} {a : Act} {w : World} {l : List Oper} (hm : P.follows .mixedOrders = true) (hB : Region.lexB .any l.toArray = true)
    (h : wpQuiet P l.toArray (fun w' => ∃ p : BelowBy w, w' = p.w) (fun a' => ∀ w', (∃ p : BelowBy w, w' = p.w) → Q .normal a' w') l a) : (Code.region id l.toArray true).wp P Q a w :=
  wp_region_quiet (C := fun w' => ∃ p : BelowBy w, w' = p.w) hm hB ⟨⟨{ w with drawn := w.drawn + 1 }, ⟨rfl, rfl, rfl, Nat.le_refl _, fun _ _ => rfl⟩⟩, rfl⟩ (by simpa using h)

theorem below_call {P : Program} {f : FuncId} {args : Array Value} {W : World} {x : BelowBy W} {v : Value}
    (h : Below W.heap.size W x.w → Calls P f args x.w fun e w' => e = .returned v ∧ Below x.w.heap.size x.w w') : Calls P f args x.w fun e w'' => e = .returned v ∧ ∃ p : BelowBy W, w'' = p.w :=
  (h x.h).mono fun _ w' ⟨he, hb⟩ => ⟨he, ⟨w', kept_trans x.h hb⟩, rfl⟩

theorem rdI0' (w : World) : RdI w (.slice none 0 0) [] := ⟨by simp, none, 0, rfl, fun k hk => by simp at hk⟩

def fillI : Int := -7000000000000000101

def copyI (zs : List Int) : List Int := zs ++ List.replicate (roomL zs.length) fillI

theorem copyI_len (zs : List Int) : (copyI zs).length = zs.length + roomL zs.length := by simp [copyI]

theorem copyI_at (zs : List Int) (j : Nat) : (h : j < zs.length) → (copyI zs)[j]'(by rw [copyI_len]; omega) = zs[j] := by
  intro h
  simp [copyI, h]

theorem copyI_fill (zs : List Int) (j : Nat) (h : zs.length ≤ j) : (h2 : j < (copyI zs).length) → (copyI zs)[j] = fillI := by
  intro h2
  simp [copyI, h]

/-- A copy of a list of numbers that the law made. -/
def CopyI (w : World) (lo hi : Nat) (v : Value) (zs : List Int) : Prop :=
  zs.length ≤ 1000000 ∧ ∃ g, v = .slice (some ⟨g, 0, none⟩) zs.length (copyI zs).length ∧ RowI w lo hi (.slice (some ⟨g, 0, none⟩) (copyI zs).length (copyI zs).length) (copyI zs)

theorem CopyI_kept {W w1 : World} {lo hi : Nat} {v : Value} {zs : List Int} (h : CopyI W lo hi v zs) (hb : Below W.heap.size W w1) : CopyI w1 lo hi v zs := by
  obtain ⟨hl, g, e, hr⟩ := h
  exact ⟨hl, g, e, RowI_kept hr hb⟩

theorem CopyI_rd {w : World} {lo hi : Nat} {v : Value} {zs : List Int} (h : CopyI w lo hi v zs) : RdI w v zs := by
  obtain ⟨hl, g, rfl, hr⟩ := h
  obtain ⟨h1, A, c, e, h2⟩ := RowI_rd hr
  injection e with e1 e2 e3
  subst e1
  refine ⟨by omega, _, _, rfl, fun k hk => ?_⟩
  obtain ⟨b, off, e4, h3, h4⟩ := h2 k (by rw [copyI_len]; omega)
  refine ⟨b, off, e4, h3, ?_⟩
  rw [h4]
  simp [copyI, hk]

theorem make_i64s (n : Nat) (h : n ≤ 4000000) (w : World) :
    (Instr.makeSlice 30 (.int .i64 (n : Int)) (.int .i64 (n : Int))).run Try.prog w = .ok (.slice (some ⟨w.heap.size, 0, none⟩) n n) (w.alloc (.cells (madeCells #[.int .i64 0] (n * 1)) 2)) := by
  obtain ⟨i, hi, hz, hs, hb⟩ := info_parts info_int64
  have hb' : (i.bytes : Int) * (n : Int) ≤ 281474976710656 := by rw [hb]; omega
  have hr := run_make (P := Try.prog) w 30 2 i (.int .i64 0) Try.underlying30 hi hz .i64 .i64 n n (by omega) (Int.le_refl _) hb' (by omega)
  simp only [Int.toNat_natCast, hs] at hr
  exact hr

theorem madeI_flat (n : Nat) : (madeCells #[.int .i64 0] (n * 1)).toList = (List.replicate n (0 : Int)).map (Value.int .i64) := by
  apply List.ext_getElem?
  intro j
  by_cases hj : j < n
  · simp [madeCells, hj, Nat.mod_one]
  · rw [List.getElem?_eq_none (by rw [Array.length_toList, size_madeCells]; omega), List.getElem?_eq_none (by simp; omega)]

set_option maxHeartbeats 1000000 in
theorem toI_row (v : Value) (zs : List Int) (bare : Bool) (w : World) (h : RdI w v zs) (hn : zs.length ≤ 1000000) (hbare : bare = false ∨ zs ≠ []) :
    Calls Try.prog 41 #[v, .bool bare] w fun e w' => ∃ v', e = .returned v' ∧ CopyI w' w.heap.size w'.heap.size v' zs ∧ Below w.heap.size w w' := by
  obtain ⟨hl, A, c, rfl, r1⟩ := h
  have R := Lib.hid r1; clear r1
  have hN := copyI_len zs
  have hr := roomL_le zs.length
  have hmk : ∀ w : World, (Instr.makeSlice 30 (.int .i64 ((zs.length : Int) + (roomL zs.length : Int))) (.int .i64 ((zs.length : Int) + (roomL zs.length : Int)))).run Try.prog w = .ok (.slice (some ⟨w.heap.size, 0, none⟩) (copyI zs).length (copyI zs).length) (w.alloc (.cells (madeCells #[.int .i64 0] ((copyI zs).length * 1)) 2)) := by
    intro w
    have := make_i64s (copyI zs).length (by omega) w
    rwa [show (((copyI zs).length : Nat) : Int) = (zs.length : Int) + (roomL zs.length : Int) by omega] at this
  have hcap : (copyI zs).length ≤ maxLen := by unfold maxLen; omega
  have hrow0 : ∀ wa : World, w.heap.size ≤ wa.heap.size → (wa.alloc (.cells (madeCells #[.int .i64 0] ((copyI zs).length * 1)) 2)).ownsRow w.heap.size 2 1 (.slice (some ⟨wa.heap.size, 0, none⟩) (copyI zs).length (copyI zs).length) (copyI zs).length (((copyI zs).take 0 ++ List.replicate ((copyI zs).length - 0) 0).map (Value.int .i64)) := by
    intro wa hwa
    have := World.ownsRow_lit wa (e := 2) (size := 1) (madeCells #[.int .i64 0] ((copyI zs).length * 1)) (copyI zs).length hwa hcap (size_madeCells _ _)
    rw [madeI_flat] at this
    simpa using this
  have Hrow := Lib.hid hrow0; clear hrow0
  have hb0 : bare = true → ((zs.length : Int) == 0) = false := by
    intro hb
    have : zs.length ≠ 0 := fun h => by
      rcases hbare with h1 | h1
      · rw [hb] at h1; cases h1
      · exact h1 (List.eq_nil_of_length_eq_zero h)
    simpa using this
  clear hbare
  generalize hNN : (copyI zs).length = N at *
  have HNN := Lib.hid hNN; clear hNN
  have hNb : N ≤ 2000002 ∧ zs.length ≤ N := by omega
  have HN := Lib.hid hN; clear hN
  cases bare
  all_goals
    have hbn := hb0
    simp only [forall_const, reduceCtorEq, false_implies, Bool.false_eq_true] at hbn
    clear hb0
    go_enter Try.func41, Try.ntmps41
    go_wp2_with (go_at_call 52; refine (room_any _ (by omega) _).mono ?_; rintro e w1 ⟨rfl, rfl⟩)
    go_loopw [6] (fun i wr => ∃ j : Nat, j ≤ zs.length ∧ i = .int .i64 j ∧ wr.ownsRow w.heap.size 2 1 (.slice (some ⟨w.heap.size, 0, none⟩) N N) N (((copyI zs).take j ++ List.replicate (N - j) 0).map (Value.int .i64)) ∧ Below w.heap.size w wr) (fun i _ => zs.length - (intOf i).toNat)
    case atStart => exact ⟨0, by omega, rfl, by have := Hrow.out w (Nat.le_refl _); rw [Nat.mul_one] at this; exact this, by go_grown⟩
    case round =>
      obtain ⟨j, hj, rfl, hown, hb⟩ := hrel
      have hsz := hb.size
      by_cases hlt : j < zs.length
      · obtain ⟨b, off, rfl, hbl, hc0⟩ := R.out j hlt
        rw [← kept_cell hb b _ hbl] at hc0
        have hstep := fill_step (copyI zs) (0 : Int) j (by rw [HNN.out]; omega)
        rw [copyI_at zs j hlt, HNN.out] at hstep
        generalize zs[j] = z at *
        have hlen : (((copyI zs).take j ++ List.replicate (N - j) 0).map (Value.int .i64)).length = N * 1 := hown.1
        obtain ⟨u0, hu0⟩ : ∃ u, wr.cell? ⟨w.heap.size, j, none⟩ = some u := by
          rw [hown.cellAt _ (by omega)]
          exact ⟨_, List.getElem?_eq_getElem (by omega)⟩
        have hz0 := hown.frozenAt j
        have hs0 := hown.stored j (.int .i64 z)
        rw [← List.map_set, hstep] at hs0
        have Hs := Lib.hid hs0.1
        have Hg := Lib.hid hs0.2
        clear hs0 hstep hown hlen
        go_wp2
        go_roundw
        case rel => exact ⟨j + 1, by omega, by go_num, Hs.out, grown_below hb Hg.out (fun g hg => by simp at hg; omega)⟩
        case measure => simp [intOf]; omega
      · have : j = zs.length := by omega
        subst this
        go_wp2_with fail
        go_loopw [7] (fun i wr => ∃ j : Nat, zs.length ≤ j ∧ j ≤ N ∧ i = .int .i64 j ∧ wr.ownsRow w.heap.size 2 1 (.slice (some ⟨w.heap.size, 0, none⟩) N N) N (((copyI zs).take j ++ List.replicate (N - j) 0).map (Value.int .i64)) ∧ Below w.heap.size w wr) (fun i _ => N - (intOf i).toNat)
        case atStart => exact ⟨zs.length, by omega, by omega, rfl, hown, hb⟩
        case round =>
          obtain ⟨j, hj0, hj, rfl, hown, hb⟩ := hrel
          have hsz := hb.size
          by_cases hlt : j < N
          · have hstep := fill_step (copyI zs) (0 : Int) j (by rw [HNN.out]; omega)
            rw [copyI_fill zs j hj0 (by rw [HNN.out]; omega), HNN.out] at hstep
            have hlen : (((copyI zs).take j ++ List.replicate (N - j) 0).map (Value.int .i64)).length = N * 1 := hown.1
            obtain ⟨u0, hu0⟩ : ∃ u, wr.cell? ⟨w.heap.size, j, none⟩ = some u := by
              rw [hown.cellAt _ (by omega)]
              exact ⟨_, List.getElem?_eq_getElem (by omega)⟩
            have hz0 := hown.frozenAt j
            have hs0 := hown.stored j (.int .i64 fillI)
            rw [← List.map_set, hstep] at hs0
            have Hs := Lib.hid hs0.1
            have Hg := Lib.hid hs0.2
            clear hs0 hstep hown hlen
            go_wp2
            go_roundw
            case rel => exact ⟨j + 1, by omega, by omega, by go_num, Hs.out, grown_below hb Hg.out (fun g hg => by simp at hg; omega)⟩
            case measure => simp [intOf]; omega
          · have : j = N := by omega
            subst this
            have Hown := Lib.hid hown; clear hown
            go_wp2
            go_ret
            have hT : (copyI zs).take j ++ List.replicate (j - j) 0 = copyI zs := by rw [List.take_of_length_le (by rw [HNN.out]; exact Nat.le_refl _)]; simp
            refine ⟨_, rfl, ⟨hn, w.heap.size, by rw [HNN.out]; rfl, ?_⟩, hb⟩
            have hO := Hown.out
            rw [hT] at hO
            unfold RowI
            rw [HNN.out]
            exact ⟨hO, fun g hg => by simp [Value.ownBlock] at hg; subst hg; exact ⟨Nat.le_refl _, (hO.lt _ rfl).2⟩⟩

theorem toI_false (v : Value) (zs : List Int) (w : World) (h : RdI w v zs) (hn : zs.length ≤ 1000000) :
    Calls Try.prog 41 #[v, .bool false] w fun e w' => ∃ v', e = .returned v' ∧ CopyI w' w.heap.size w'.heap.size v' zs ∧ Below w.heap.size w w' := toI_row v zs false w h hn (Or.inl rfl)

theorem intactI_same (v1 v2 : Value) (zs : List Int) (lo1 hi1 lo2 hi2 : Nat) (w : World) (h1 : CopyI w lo1 hi1 v1 zs) (h2 : CopyI w lo2 hi2 v2 zs) :
    Calls Try.prog 43 #[v1, v2] w fun e w' => e = .returned (.bool true) ∧ Below w.heap.size w w' := by
  obtain ⟨hn, g1, rfl, r1⟩ := h1
  obtain ⟨_, g2, rfl, r2⟩ := h2
  have q1 : RdI w _ (copyI zs) := RowI_rd r1
  have q2 : RdI w _ (copyI zs) := RowI_rd r2
  clear r1 r2
  have hN := copyI_len zs
  have hr := roomL_le zs.length
  generalize hT : copyI zs = T at *
  clear hT
  have Q1 := Lib.hid q1; clear q1
  have Q2 := Lib.hid q2; clear q2
  generalize hTl : T.length = N at *
  have hN' : (zs.length : Int) + (roomL zs.length : Int) = (N : Int) := by omega
  have hcap : zs.length ≤ N := by omega
  clear hN
  go_enter Try.func43, Try.ntmps43
  go_wp2_with (go_at_call 52; refine (room_any _ (by omega) _).mono ?_; rintro e w1 ⟨rfl, rfl⟩)
  go_region_held3 (fun _ => True) (trivial)
    ((go_at_call 35; refine (eqInts_same _ _ T _ (by exact Q1.out) (by exact Q2.out)).mono ?_; rintro e w1 ⟨rfl, hb1⟩; replace hb1 := kept_trans (a := w) (by go_grown) hb1))
  go_wp2
  go_ret
  exact ⟨rfl, by assumption⟩

theorem RdI_slice {w : World} {v : Value} {zs : List Int} (h : RdI w v zs) : ∃ A c, v = .slice A zs.length c ∧ zs.length ≤ 9223372036854775807 ∧
    ∀ k, (hk : k < zs.length) → ∃ b off, A = some ⟨b, off, none⟩ ∧ b < w.heap.size ∧ w.cell? ⟨b, off + k, none⟩ = some (.int .i64 zs[k]) := by
  obtain ⟨hl, A, c, rfl, hr⟩ := h
  exact ⟨A, c, rfl, hl, hr⟩

theorem RowI_set {w : World} {lo hi b o : Nat} {v u : Value} {zs : List Int} (h : RowI w lo hi v zs) (hb : b < lo) : RowI (w.setCell ⟨b, o, none⟩ u) lo hi v zs :=
  RowI_far h (grown_set _ _ _) (fun g hg => by simp at hg; omega)

theorem CopyI_row {w : World} {lo hi : Nat} {v : Value} {zs : List Int} (h : CopyI w lo hi v zs) : RowI w lo hi v zs := by
  obtain ⟨hl, g, rfl, hr⟩ := h
  have hF : RowF 2 1 w lo hi (.slice (some ⟨g, 0, none⟩) (copyI zs).length (copyI zs).length) (copyI zs).length ((copyI zs).map (Value.int .i64)) := hr
  have := RowF_short hF (n := zs.length) (by rw [copyI_len]; omega)
  have e : ((copyI zs).map (Value.int .i64)).take (zs.length * 1) = zs.map (Value.int .i64) := by
    rw [Nat.mul_one, ← List.map_take]
    simp [copyI]
  rw [e] at this
  exact this

theorem CopyI_set {w : World} {lo hi b o : Nat} {v u : Value} {zs : List Int} (h : CopyI w lo hi v zs) (hb : b < lo) : CopyI (w.setCell ⟨b, o, none⟩ u) lo hi v zs := by
  obtain ⟨hl, g, e, hr⟩ := h
  exact ⟨hl, g, e, RowI_set hr hb⟩

theorem CopyI_lo {w : World} {lo lo' hi hi' : Nat} {v : Value} {zs : List Int} (h : CopyI w lo hi v zs) (hl : lo' ≤ lo) (hh : hi ≤ hi') : CopyI w lo' hi' v zs := by
  obtain ⟨hn, g, e, hr⟩ := h
  exact ⟨hn, g, e, RowI_lo hr hl hh⟩

theorem CopyI_far {W w1 : World} {lo hi : Nat} {v : Value} {zs : List Int} {row : Option Nat} (h : CopyI W lo hi v zs) (hg : W.grownBy w1 row) (hr : row ≠ some (blkOf v)) : CopyI w1 lo hi v zs := by
  obtain ⟨hl, g, rfl, hr'⟩ := h
  refine ⟨hl, g, rfl, hr'.1.kept hg (Or.inr fun e => hr ?_), hr'.2⟩
  rw [← e]
  rfl

/-- A lift's fields. -/
structure Lf where
  nm : ByteArray
  wt : Int
  fx : Int
  fy : Int
  tx : Int
  ty : Int
  h : Int
  dl : Int
  af : List Int

/-- A lift, cell by cell; c: the slice of what it is after. -/
def encLf (p : Lf × Value) : List Value := [.string p.1.nm, .int .i64 p.1.wt, .int .i64 p.1.fx, .int .i64 p.1.fy, .int .i64 p.1.tx, .int .i64 p.1.ty, .int .i64 p.1.h, .int .i64 p.1.dl, p.2]

def wfLf (k : Lf) : Prop := k.nm.size ≤ maxLen ∧ (Lit.int .i64 k.wt).wf = true ∧ (Lit.int .i64 k.fx).wf = true ∧ (Lit.int .i64 k.fy).wf = true ∧ (Lit.int .i64 k.tx).wf = true ∧ (Lit.int .i64 k.ty).wf = true ∧ (Lit.int .i64 k.h).wf = true ∧ (Lit.int .i64 k.dl).wf = true

def flatLf (ks : List (Lf × Value)) : List Value := ks.flatMap encLf

theorem flatLf_len (ks : List (Lf × Value)) : (flatLf ks).length = ks.length * 9 := flat_len (enc := encLf) (fun _ => rfl) ks

theorem flatLf_at (ks : List (Lf × Value)) (k j : Nat) (h : k < ks.length) (hj : j < 9) : (flatLf ks)[k * 9 + j]? = (encLf ks[k])[j]? := flat_at (enc := encLf) (sz := 9) (fun _ => rfl) ks k j h hj

/-- The slice value reads as a list of cranes: their fields and their charts' slices. -/
def RdLf (w : World) (v : Value) (ks : List (Lf × Value)) : Prop := RdF w v ks.length 9 (flatLf ks) ∧ ∀ p ∈ ks, RdI w p.2 p.1.af

theorem RdLf_kept {W w1 : World} {v : Value} {ks : List (Lf × Value)} (h : RdLf W v ks) (hb : Below W.heap.size W w1) : RdLf w1 v ks := ⟨RdF_kept h.1 hb, fun p hp => RdI_kept (h.2 p hp) hb⟩

/-- A lift lies at a place. -/
def LfAt (w : World) (b o : Nat) (k : Lf) (c : Value) : Prop :=
  b < w.heap.size ∧ (w.cell? ⟨b, o, none⟩ = some (.string k.nm) ∧ w.cell? ⟨b, o + 1, none⟩ = some (.int .i64 k.wt) ∧ w.cell? ⟨b, o + 2, none⟩ = some (.int .i64 k.fx) ∧ w.cell? ⟨b, o + 3, none⟩ = some (.int .i64 k.fy) ∧ w.cell? ⟨b, o + 4, none⟩ = some (.int .i64 k.tx) ∧ w.cell? ⟨b, o + 5, none⟩ = some (.int .i64 k.ty) ∧ w.cell? ⟨b, o + 6, none⟩ = some (.int .i64 k.h) ∧ w.cell? ⟨b, o + 7, none⟩ = some (.int .i64 k.dl) ∧ w.cell? ⟨b, o + 8, none⟩ = some c) ∧ RdI w c k.af

theorem LfAt_kept {W w1 : World} {b o : Nat} {k : Lf} {c : Value} (h : LfAt W b o k c) (hb : Below W.heap.size W w1) : LfAt w1 b o k c := by
  obtain ⟨hlt, ⟨h0, h1, h2, h3, h4, h5, h6, h9, h8⟩, hr⟩ := h
  refine ⟨Nat.lt_of_lt_of_le hlt hb.size, ⟨?_, ?_, ?_, ?_, ?_, ?_, ?_, ?_, ?_⟩, RdI_kept hr hb⟩ <;> (rw [kept_cell hb b _ hlt]; assumption)

theorem RdLf_at {w : World} {v : Value} {ks : List (Lf × Value)} (h : RdLf w v ks) : ∃ A c, v = .slice A ks.length c ∧ ks.length ≤ 9223372036854775807 ∧
    ∀ i, (hi : i < ks.length) → ∃ b off, A = some ⟨b, off, none⟩ ∧ LfAt w b (off + i * 9) ks[i].1 ks[i].2 := by
  obtain ⟨⟨hl, hx, A, c, rfl, hr⟩, hcs⟩ := h
  refine ⟨A, c, rfl, hl, fun i hi => ?_⟩
  obtain ⟨b, off, rfl, hlt, h0⟩ := hr (i * 9) (by omega)
  have at_ : ∀ j, j < 9 → w.cell? ⟨b, off + (i * 9 + j), none⟩ = (encLf ks[i])[j]? := by
    intro j hj
    obtain ⟨b', off', e, _, h1⟩ := hr (i * 9 + j) (by omega)
    simp only [Option.some.injEq, Addr.mk.injEq, and_true] at e
    obtain ⟨rfl, rfl⟩ := e
    rw [h1, flatLf_at ks i j hi hj]
  refine ⟨b, off, rfl, hlt, ⟨?_, ?_, ?_, ?_, ?_, ?_, ?_, ?_, ?_⟩, hcs _ (List.getElem_mem hi)⟩
  · exact at_ 0 (by omega)
  · exact at_ 1 (by omega)
  · exact at_ 2 (by omega)
  · exact at_ 3 (by omega)
  · exact at_ 4 (by omega)
  · exact at_ 5 (by omega)
  · exact at_ 6 (by omega)
  · exact at_ 7 (by omega)
  · exact at_ 8 (by omega)

/-- What is left of a measure behind a lift; less than 0: too much. -/
def szLf (k : Lf) (left : Int) : Int := if (k.nm.size : Int) + (k.af.length : Int) ≤ left then left - k.nm.size - k.af.length else -1

theorem szI_any (A : Option Addr) (n c : Nat) (left : Int) (h : -9223372036854775808 ≤ left - n ∧ left ≤ 1000000) (hn : n ≤ 9223372036854775807) (w : World) :
    Calls Try.prog 58 #[.slice A n c, .int .i64 left] w fun e w' => e = .returned (.int .i64 (if (n : Int) ≤ left then left - n else -1)) ∧ w = w' := by
  by_cases h1 : (n : Int) ≤ left
  · rw [if_pos h1]
    go_enter Try.func58, Try.ntmps58
    go_wp2
    go_ret
    exact ⟨rfl, rfl⟩
  · rw [if_neg h1]
    go_enter Try.func58, Try.ntmps58
    go_wp2
    go_ret
    exact ⟨rfl, rfl⟩

theorem szLf_any (k : Lf) (c : Value) (left : Int) (h : 0 ≤ left ∧ left ≤ 1000000) (hs : k.nm.size ≤ maxLen) (w : World) (hr : RdI w c k.af) :
    Calls Try.prog 23 #[.agg #[.string k.nm, .int .i64 k.wt, .int .i64 k.fx, .int .i64 k.fy, .int .i64 k.tx, .int .i64 k.ty, .int .i64 k.h, .int .i64 k.dl, c], .int .i64 left] w fun e w' => e = .returned (.int .i64 (szLf k left)) ∧ Below w.heap.size w w' := by
  obtain ⟨A, cp, rfl, hl, _⟩ := RdI_slice hr
  clear hr
  unfold maxLen at hs
  unfold szLf
  obtain ⟨s, i1, i2, i3, i4, i5, i6, i7, zs⟩ := k
  dsimp only at *
  by_cases h1 : left < (s.size : Int)
  · rw [if_neg (by omega)]
    go_enter Try.func23, Try.ntmps23
    go_wp2
    go_ret
    exact ⟨rfl, by go_grown⟩
  · by_cases h2 : (s.size : Int) + (zs.length : Int) ≤ left
    · rw [if_pos h2]
      have e : (if (zs.length : Int) ≤ left - s.size then left - s.size - zs.length else -1) = left - s.size - zs.length := if_pos (by omega)
      go_enter Try.func23, Try.ntmps23
      go_wp2_with (go_at_call 58; refine ((szI_any _ _ _ _ (by omega) (by omega) _)).mono ?_; rintro e w1 ⟨rfl, rfl⟩)
      go_ret
      exact ⟨rfl, by go_grown⟩
    · rw [if_neg h2]
      go_enter Try.func23, Try.ntmps23
      go_wp2_with (go_at_call 58; refine ((szI_any _ _ _ _ (by omega) (by omega) _)).mono ?_; rintro e w1 ⟨rfl, rfl⟩)
      go_ret
      exact ⟨rfl, by go_grown⟩

/-- The measure of a list of cranes, beside its length. -/
def totLf : List (Lf × Value) → Nat
  | [] => 0
  | p :: ks => p.1.nm.size + p.1.af.length + totLf ks

theorem totLf_step (ks : List (Lf × Value)) (i : Nat) (h : i < ks.length) : totLf (ks.drop i) = ks[i].1.nm.size + ks[i].1.af.length + totLf (ks.drop (i + 1)) := by
  rw [List.drop_eq_getElem_cons h]
  rfl

theorem szLfs_any (v : Value) (ks : List (Lf × Value)) (left : Int) (w : World) (h : RdLf w v ks) (hl : 0 ≤ left ∧ left ≤ 1000000) (hw : ∀ p ∈ ks, wfLf p.1) :
    Calls Try.prog 16 #[v, .int .i64 left] w fun e w' => e = .returned (.int .i64 (if (ks.length : Int) + totLf ks ≤ left then left - ks.length - totLf ks else -1)) ∧ Below w.heap.size w w' := by
  obtain ⟨A, c, rfl, hln, r⟩ := RdLf_at h
  clear h
  by_cases h1 : left < (ks.length : Int)
  · rw [if_neg (by omega)]
    go_enter Try.func16, Try.ntmps16
    go_wp2
    go_ret
    exact ⟨rfl, Below.refl _ _⟩
  have R := Lib.hid r; clear r
  have HW := Lib.hid hw; clear hw
  have HS := Lib.hid (fun i (hi : i < ks.length) => totLf_step ks i hi)
  have hd0 : totLf (ks.drop 0) = totLf ks := by simp
  have hdn : totLf (ks.drop ks.length) = 0 := by simp [totLf]
  have HD0 := Lib.hid hd0; clear hd0
  have HDN := Lib.hid hdn; clear hdn
  go_enter Try.func16, Try.ntmps16
  go_wp2_with fail
  go_loopw [1, 5] (fun q i wr => ∃ (j : Nat) (l : Int), j ≤ ks.length ∧ i = .int .i64 j ∧ q = .int .i64 l ∧ 0 ≤ l ∧ l ≤ 1000000 ∧ l - totLf (ks.drop j) = left - ks.length - totLf ks ∧ Below w.heap.size w wr) (fun _ i _ => ks.length - (intOf i).toNat)
  case atStart => exact ⟨0, left - ks.length, by omega, rfl, by simp [IntWalk.i64_in, IntWalk.wrap64_in, *] <;> omega, by omega, by omega, by rw [HD0.out], Below.refl _ _⟩
  case round =>
    obtain ⟨j, l, hj, rfl, rfl, h0, h1, heq, hb⟩ := hrel
    by_cases hlt : j < ks.length
    · obtain ⟨b, off, rfl, hk⟩ := R.out j hlt
      have hs := HS.out j hlt
      have hwk := (HW.out ks[j] (List.getElem_mem hlt)).1
      have hk := LfAt_kept hk hb
      generalize ks[j].1 = k at *
      generalize ks[j].2 = cv at *
      obtain ⟨hlb, ⟨c0, c1, c2, c3, c4, c5, c6, c7, c8⟩, hr⟩ := hk
      obtain ⟨A2, cp2, rfl, _, _⟩ := RdI_slice hr
      have HZ := Lib.hid (szLf_any k (.slice A2 k.af.length cp2) l ⟨h0, h1⟩ hwk wr hr)
      clear hr
      have hszk : szLf k l = if (k.nm.size : Int) + (k.af.length : Int) ≤ l then l - k.nm.size - k.af.length else -1 := rfl
      generalize szLf k l = z at *
      by_cases hz : (k.nm.size : Int) + (k.af.length : Int) ≤ l
      · rw [if_pos hz] at hszk
        have hz0 : ¬ z < 0 := by omega
        go_wp2_with fail
        refine HZ.out.mono ?_
        rintro e w1 ⟨rfl, hb1⟩
        go_wp2
        go_roundw
        case rel => exact ⟨j + 1, _, by omega, by go_num, rfl, by omega, by omega, by omega, kept_trans hb hb1⟩
        case measure => simp [intOf]; omega
      · rw [if_neg hz] at hszk
        subst hszk
        go_wp2_with fail
        refine HZ.out.mono ?_
        rintro e w1 ⟨rfl, hb1⟩
        go_wp2
        go_ret
        exact ⟨by first | rfl | rw [if_neg (by omega)], kept_trans hb hb1⟩
    · have : j = ks.length := by omega
      subst this
      rw [HDN.out] at heq
      go_wp2
      go_ret
      have hE : (if (ks.length : Int) + (totLf ks : Nat) ≤ left then left - (ks.length : Int) - (totLf ks : Nat) else -1) = l := by rw [if_pos (by omega)]; omega
      exact ⟨by first | (rw [hE]; rfl) | (rw [show left - (ks.length : Int) - (totLf ks : Nat) = l by omega]; rfl), hb⟩

def fillLf : Lf := ⟨⟨#[126, 115, 112, 97, 114, 101, 126]⟩, -7000000000000000101, -7000000000000000101, -7000000000000000101, -7000000000000000101, -7000000000000000101, -7000000000000000101, -7000000000000000101, [fillI]⟩

def zeroLf : Lf × Value := (⟨⟨#[]⟩, 0, 0, 0, 0, 0, 0, 0, []⟩, .slice none 0 0)

theorem info_lift : (Try.prog.info? 32).map (fun i => (i.zero, i.size, i.bytes)) = some (some (.agg #[.string ⟨#[]⟩, .int .i64 0, .int .i64 0, .int .i64 0, .int .i64 0, .int .i64 0, .int .i64 0, .int .i64 0, .slice none 0 0]), 9, 96) := by kernel_rfl

theorem make_lifts (n : Nat) (h : n ≤ 4000000) (w : World) :
    (Instr.makeSlice 24 (.int .i64 (n : Int)) (.int .i64 (n : Int))).run Try.prog w = .ok (.slice (some ⟨w.heap.size, 0, none⟩) n n) (w.alloc (.cells (madeCells #[.string ⟨#[]⟩, .int .i64 0, .int .i64 0, .int .i64 0, .int .i64 0, .int .i64 0, .int .i64 0, .int .i64 0, .slice none 0 0] (n * 9)) 32)) := by
  obtain ⟨i, hi, hz, hs, hb⟩ := info_parts info_lift
  have hb' : (i.bytes : Int) * (n : Int) ≤ 281474976710656 := by rw [hb]; omega
  have hr := run_make (P := Try.prog) w 24 32 i (.agg #[.string ⟨#[]⟩, .int .i64 0, .int .i64 0, .int .i64 0, .int .i64 0, .int .i64 0, .int .i64 0, .int .i64 0, .slice none 0 0]) Try.underlying24 hi hz .i64 .i64 n n (by omega) (Int.le_refl _) hb' (by omega)
  simp only [Int.toNat_natCast, hs] at hr
  exact hr

theorem madeLf_flat (n : Nat) : (madeCells #[.string ⟨#[]⟩, .int .i64 0, .int .i64 0, .int .i64 0, .int .i64 0, .int .i64 0, .int .i64 0, .int .i64 0, .slice none 0 0] (n * 9)).toList = flatLf (List.replicate n zeroLf) := by
  apply List.ext_getElem?
  intro j
  by_cases hj : j < n * 9
  · have h := flatLf_at (List.replicate n zeroLf) (j / 9) (j % 9) (by simp; omega) (by omega)
    rw [show j / 9 * 9 + j % 9 = j by omega, List.getElem_replicate] at h
    rw [h]
    have hm := Nat.mod_lt j (show 0 < 9 by omega)
    rcases (show j % 9 = 0 ∨ j % 9 = 1 ∨ j % 9 = 2 ∨ j % 9 = 3 ∨ j % 9 = 4 ∨ j % 9 = 5 ∨ j % 9 = 6 ∨ j % 9 = 7 ∨ j % 9 = 8 by omega) with hp | hp | hp | hp | hp | hp | hp | hp | hp <;> simp [madeCells, hj, hp, encLf, zeroLf]
  · rw [List.getElem?_eq_none (by rw [Array.length_toList, size_madeCells]; omega), List.getElem?_eq_none (by rw [flatLf_len]; simp; omega)]

theorem flatLf_set (L : List (Lf × Value)) (j : Nat) (p : Lf × Value) :
    ((((((((((flatLf L).set (j * 9) (.string p.1.nm)).set (j * 9 + 1) (.int .i64 p.1.wt)).set (j * 9 + 2) (.int .i64 p.1.fx)).set (j * 9 + 3) (.int .i64 p.1.fy)).set (j * 9 + 4) (.int .i64 p.1.tx)).set (j * 9 + 5) (.int .i64 p.1.ty)).set (j * 9 + 6) (.int .i64 p.1.h)).set (j * 9 + 7) (.int .i64 p.1.dl)).set (j * 9 + 8) p.2) = flatLf (L.set j p) := by
  induction L generalizing j with
  | nil => simp [flatLf]
  | cons z L ih =>
    cases j with
    | zero => simp [flatLf, encLf]
    | succ j =>
      have := ih j
      simp only [flatLf, encLf, List.flatMap_cons, List.cons_append, List.nil_append, Nat.succ_mul, List.set_cons_succ] at this ⊢
      rw [← this]

/-- A lift is stored in a row, cell by cell. -/
def setLf9 (w : World) (g o : Nat) (p : Lf × Value) : World :=
  ((((((((w.setCell ⟨g, o, none⟩ (.string p.1.nm)).setCell ⟨g, o + 1, none⟩ (.int .i64 p.1.wt)).setCell ⟨g, o + 2, none⟩ (.int .i64 p.1.fx)).setCell ⟨g, o + 3, none⟩ (.int .i64 p.1.fy)).setCell ⟨g, o + 4, none⟩ (.int .i64 p.1.tx)).setCell ⟨g, o + 5, none⟩ (.int .i64 p.1.ty)).setCell ⟨g, o + 6, none⟩ (.int .i64 p.1.h)).setCell ⟨g, o + 7, none⟩ (.int .i64 p.1.dl)).setCell ⟨g, o + 8, none⟩ p.2

theorem row_setLf9 {w : World} {base g n cap : Nat} {L : List (Lf × Value)} (h : w.ownsRow base 32 9 (.slice (some ⟨g, 0, none⟩) n cap) n (flatLf L)) (j : Nat) (p : Lf × Value) :
    (setLf9 w g (j * 9) p).ownsRow base 32 9 (.slice (some ⟨g, 0, none⟩) n cap) n (flatLf (L.set j p)) ∧ w.grownBy (setLf9 w g (j * 9) p) (some g) := by
  have h0 := h.stored (j * 9) (.string p.1.nm)
  have h1 := h0.1.stored (j * 9 + 1) (.int .i64 p.1.wt)
  have h2 := h1.1.stored (j * 9 + 2) (.int .i64 p.1.fx)
  have h3 := h2.1.stored (j * 9 + 3) (.int .i64 p.1.fy)
  have h4 := h3.1.stored (j * 9 + 4) (.int .i64 p.1.tx)
  have h5 := h4.1.stored (j * 9 + 5) (.int .i64 p.1.ty)
  have h6 := h5.1.stored (j * 9 + 6) (.int .i64 p.1.h)
  have h7 := h6.1.stored (j * 9 + 7) (.int .i64 p.1.dl)
  have h8 := h7.1.stored (j * 9 + 8) p.2
  rw [flatLf_set] at h8
  exact ⟨h8.1, grown_step h0.2 (grown_step h1.2 (grown_step h2.2 (grown_step h3.2 (grown_step h4.2 (grown_step h5.2 (grown_step h6.2 (grown_step h7.2 h8.2)))))))⟩

theorem row_cellsLf {w : World} {base g n cap : Nat} {L : List (Lf × Value)} (h : w.ownsRow base 32 9 (.slice (some ⟨g, 0, none⟩) n cap) n (flatLf L)) (j : Nat) (hj : j < n) :
    ∃ u0 u1 u2 u3 u4 u5 u6 u7 u8, w.cell? ⟨g, j * 9, none⟩ = some u0 ∧ w.cell? ⟨g, j * 9 + 1, none⟩ = some u1 ∧ w.cell? ⟨g, j * 9 + 2, none⟩ = some u2 ∧ w.cell? ⟨g, j * 9 + 3, none⟩ = some u3 ∧ w.cell? ⟨g, j * 9 + 4, none⟩ = some u4 ∧ w.cell? ⟨g, j * 9 + 5, none⟩ = some u5 ∧ w.cell? ⟨g, j * 9 + 6, none⟩ = some u6 ∧ w.cell? ⟨g, j * 9 + 7, none⟩ = some u7 ∧ w.cell? ⟨g, j * 9 + 8, none⟩ = some u8 := by
  have hl : (flatLf L).length = n * 9 := h.1
  have at_ : ∀ o, o < n * 9 → ∃ u, w.cell? ⟨g, o, none⟩ = some u := fun o ho => ⟨_, by rw [h.cellAt o ho]; exact List.getElem?_eq_getElem (by omega)⟩
  obtain ⟨u0, h0⟩ := at_ (j * 9) (by omega)
  obtain ⟨u1, h1⟩ := at_ (j * 9 + 1) (by omega)
  obtain ⟨u2, h2⟩ := at_ (j * 9 + 2) (by omega)
  obtain ⟨u3, h3⟩ := at_ (j * 9 + 3) (by omega)
  obtain ⟨u4, h4⟩ := at_ (j * 9 + 4) (by omega)
  obtain ⟨u5, h5⟩ := at_ (j * 9 + 5) (by omega)
  obtain ⟨u6, h6⟩ := at_ (j * 9 + 6) (by omega)
  obtain ⟨u7, h7⟩ := at_ (j * 9 + 7) (by omega)
  obtain ⟨u8, h8⟩ := at_ (j * 9 + 8) (by omega)
  exact ⟨u0, u1, u2, u3, u4, u5, u6, u7, u8, h0, h1, h2, h3, h4, h5, h6, h7, h8⟩

/-- A copy of a list of cranes that the law made; Q: what is known of each chart, ρ: of two of them. -/
def LfsQ (Q : World → Nat → Nat → Lf → Value → Prop) (ρ : Value → Value → Prop) (w : World) (lo hi : Nat) (v : Value) (ks : List Lf) : Prop :=
  ks.length ≤ 1000000 ∧ ∃ (g : Nat) (T S : List (Lf × Value)), v = .slice (some ⟨g, 0, none⟩) ks.length (T ++ S).length ∧ lo ≤ g ∧ T.map (·.1) = ks ∧ S.map (·.1) = List.replicate (roomL ks.length) fillLf ∧
    RowF 32 9 w lo hi (.slice (some ⟨g, 0, none⟩) (T ++ S).length (T ++ S).length) (T ++ S).length (flatLf (T ++ S)) ∧ (∀ p ∈ T, Q w (g + 1) hi p.1 p.2) ∧ (∀ p ∈ S, RowI w (g + 1) hi p.2 [fillI]) ∧ T.Pairwise (fun p q => ρ p.2 q.2)

/-- What a chart's predicate must bear. -/
structure AftQ (Q : World → Nat → Nat → Lf → Value → Prop) : Prop where
  set : ∀ {w : World} {lo hi : Nat} {k : Lf} {c : Value} (b o : Nat) (u : Value), Q w lo hi k c → b < lo → Q (w.setCell ⟨b, o, none⟩ u) lo hi k c
  kept : ∀ {W w1 : World} {lo hi : Nat} {k : Lf} {c : Value}, Q W lo hi k c → Below W.heap.size W w1 → Q w1 lo hi k c
  wide : ∀ {w : World} {lo lo' hi hi' : Nat} {k : Lf} {c : Value}, Q w lo hi k c → lo' ≤ lo → hi ≤ hi' → Q w lo' hi' k c
  form : ∀ {w : World} {lo hi : Nat} {k : Lf} {c : Value}, Q w lo hi k c → ∃ A n cp, c = .slice A n cp

theorem AftQ_setLf9 {Q : World → Nat → Nat → Lf → Value → Prop} (q : AftQ Q) {w : World} {lo hi g o : Nat} {k : Lf} {c : Value} {p : Lf × Value} (h : Q w lo hi k c) (hb : g < lo) : Q (setLf9 w g o p) lo hi k c :=
  q.set _ _ _ (q.set _ _ _ (q.set _ _ _ (q.set _ _ _ (q.set _ _ _ (q.set _ _ _ (q.set _ _ _ (q.set _ _ _ (q.set _ _ _ h hb) hb) hb) hb) hb) hb) hb) hb) hb

/-- The chart of a filler. -/
def fillAQ (w : World) (lo hi : Nat) (_ : Lf) (c : Value) : Prop := RowI w lo hi c [fillI]

theorem fillAQ_ok : AftQ fillAQ where
  set := fun b o u h hb => RowI_set h hb
  kept := fun h hb => RowI_kept h hb
  wide := fun h hl hh => RowI_lo h hl hh
  form := fun h => by
    rcases RowI_form h with ⟨h1, _⟩ | ⟨g, cap, e, _⟩
    · cases h1
    · exact ⟨_, _, _, e⟩

set_option maxHeartbeats 4000000 in
theorem fillLf_any (w : World) :
    Calls Try.prog 53 #[] w fun e w' => ∃ c', e = .returned (.agg #[.string ⟨#[126, 115, 112, 97, 114, 101, 126]⟩, .int .i64 (-7000000000000000101), .int .i64 (-7000000000000000101), .int .i64 (-7000000000000000101), .int .i64 (-7000000000000000101), .int .i64 (-7000000000000000101), .int .i64 (-7000000000000000101), .int .i64 (-7000000000000000101), c']) ∧ RowI w' w.heap.size w'.heap.size c' [fillI] ∧ Below w.heap.size w w' := by
  have HR := Lib.hid (fun (u : World) => World.ownsRow_lit (base := w.heap.size) u (e := 2) (size := 1) #[.int .i64 (-7000000000000000101)] 1)
  go_enter Try.func53, Try.ntmps53
  go_wp2_with fail
  refine (fillPoint_any _).mono ?_
  rintro e w1 ⟨rfl, b1⟩
  refine kept_at b1 (w.heap.size) (by go_size) fun c1_0 z1_0 s1_0 => ?_
  replace b1 := kept_trans (a := w) (by go_grown) b1
  have l1 := kept_cell b1
  have zz1 := b1.size
  go_wp2_with fail
  refine (fillPoint_any _).mono ?_
  rintro e w2 ⟨rfl, b2⟩
  refine kept_at b2 (w.heap.size) (by go_size) fun c2_0 z2_0 s2_0 => ?_
  replace b2 := kept_trans (a := w) (by go_grown) b2
  have l2 := kept_cell b2
  have zz2 := b2.size
  go_simp
  go_step
  go_step
  go_simp
  go_step
  go_step
  go_simp
  repeat go_step
  (try simp only [Exit.inBlock, Exit.then])
  refine bodyPost_ret (v := .agg #[.string ⟨#[126, 115, 112, 97, 114, 101, 126]⟩, .int .i64 (-7000000000000000101), .int .i64 (-7000000000000000101), .int .i64 (-7000000000000000101), .int .i64 (-7000000000000000101), .int .i64 (-7000000000000000101), .int .i64 (-7000000000000000101), .int .i64 (-7000000000000000101), .slice (some ⟨w2.heap.size, 0, none⟩) 1 1]) ?_ rfl ⟨_, rfl, ?_, ?_⟩
  · rw [results_cell1 rfl]
    go_simp
  · suffices h : ∀ X : World, X.heap.size = w2.heap.size → RowI (X.alloc (.cells #[.int .i64 (-7000000000000000101)] 2)) w.heap.size (X.alloc (.cells #[.int .i64 (-7000000000000000101)] 2)).heap.size (.slice (some ⟨w2.heap.size, 0, none⟩) 1 1) [fillI] from h _ (by simp)
    intro X hX
    have h := HR.out X (by omega) (by unfold maxLen; omega) (by simp)
    rw [hX] at h
    refine ⟨by simpa [fillI] using h, fun g hg => ?_⟩
    simp [Value.ownBlock] at hg
    subst hg
    simp
    omega
  · go_grown

set_option maxHeartbeats 1000000 in
set_option maxRecDepth 100000 in
theorem toLfs_gen (bare : Bool) (Q : World → Nat → Nat → Lf → Value → Prop) (ρ : Value → Value → Prop) (q : AftQ Q)
    (qρ : ∀ (w w' : World) (lo hi lo' hi' : Nat) (k k' : Lf) (c c' : Value), Q w lo hi k c → Q w' lo' hi' k' c' → hi ≤ lo' → ρ c c')
    (qto : ∀ (k : Lf) (c : Value) (u : World), RdI u c k.af → k.af.length ≤ 1000000 → Calls Try.prog 24 #[.agg #[.string k.nm, .int .i64 k.wt, .int .i64 k.fx, .int .i64 k.fy, .int .i64 k.tx, .int .i64 k.ty, .int .i64 k.h, .int .i64 k.dl, c], .bool bare] u fun e w' => ∃ c', e = .returned (.agg #[.string k.nm, .int .i64 k.wt, .int .i64 k.fx, .int .i64 k.fy, .int .i64 k.tx, .int .i64 k.ty, .int .i64 k.h, .int .i64 k.dl, c']) ∧ Q w' u.heap.size w'.heap.size k c' ∧ Below u.heap.size u w')
    (v : Value) (ks : List (Lf × Value)) (w : World) (h : RdLf w v ks) (hn : ks.length ≤ 1000000) (hbare : bare = false ∨ ks ≠ []) (hch : ∀ p ∈ ks, p.1.af.length ≤ 1000000) :
    Calls Try.prog 18 #[v, .bool bare] w fun e w' => ∃ v', e = .returned v' ∧ LfsQ Q ρ w' w.heap.size w'.heap.size v' (ks.map (·.1)) ∧ Below w.heap.size w w' := by
  obtain ⟨A, c, rfl, hl, r1⟩ := RdLf_at h
  clear h
  have R := Lib.hid r1; clear r1
  have hr := roomL_le ks.length
  obtain ⟨N, hN⟩ : ∃ N, N = ks.length + roomL ks.length := ⟨_, rfl⟩
  have hmk : ∀ w : World, (Instr.makeSlice 24 (.int .i64 ((ks.length : Int) + (roomL ks.length : Int))) (.int .i64 ((ks.length : Int) + (roomL ks.length : Int)))).run Try.prog w = .ok (.slice (some ⟨w.heap.size, 0, none⟩) N N) (w.alloc (.cells (madeCells #[.string ⟨#[]⟩, .int .i64 0, .int .i64 0, .int .i64 0, .int .i64 0, .int .i64 0, .int .i64 0, .int .i64 0, .slice none 0 0] (N * 9)) 32)) := by
    intro w
    have := make_lifts N (by omega) w
    rwa [show ((N : Nat) : Int) = (ks.length : Int) + (roomL ks.length : Int) by omega] at this
  have hcap : N ≤ maxLen := by unfold maxLen; omega
  have hrow0 : ∀ wa : World, w.heap.size ≤ wa.heap.size → (wa.alloc (.cells (madeCells #[.string ⟨#[]⟩, .int .i64 0, .int .i64 0, .int .i64 0, .int .i64 0, .int .i64 0, .int .i64 0, .int .i64 0, .slice none 0 0] (N * 9)) 32)).ownsRow w.heap.size 32 9 (.slice (some ⟨wa.heap.size, 0, none⟩) N N) N (flatLf ([] ++ List.replicate N zeroLf)) := by
    intro wa hwa
    have := World.ownsRow_lit wa (e := 32) (size := 9) (madeCells #[.string ⟨#[]⟩, .int .i64 0, .int .i64 0, .int .i64 0, .int .i64 0, .int .i64 0, .int .i64 0, .int .i64 0, .slice none 0 0] (N * 9)) N hwa hcap (size_madeCells _ _)
    rw [madeLf_flat] at this
    simpa using this
  have Hrow := Lib.hid hrow0; clear hrow0
  have hb0 : bare = true → ((ks.length : Int) == 0) = false := by
    intro hb
    have : ks.length ≠ 0 := fun h => by
      rcases hbare with h1 | h1
      · rw [hb] at h1; cases h1
      · exact h1 (List.eq_nil_of_length_eq_zero h)
    simpa using this
  clear hbare
  have HN := Lib.hid hN
  have hNb : N ≤ 2000002 ∧ ks.length ≤ N ∧ 0 < N := by
    refine ⟨by omega, by omega, ?_⟩
    rcases Nat.eq_zero_or_pos ks.length with h0 | h0
    · rw [h0] at hN; simp [roomL] at hN; omega
    · omega
  clear hN
  have HQ := Lib.hid q; clear q
  have HQT := Lib.hid qto; clear qto
  have HQR := Lib.hid qρ; clear qρ
  have HCH := Lib.hid hch; clear hch
  cases bare
  all_goals
    have hbn := hb0
    simp only [forall_const, reduceCtorEq, false_implies, Bool.false_eq_true] at hbn
    clear hb0
    go_enter Try.func18, Try.ntmps18
    go_wp2_with (go_at_call 52; refine (room_any _ (by omega) _).mono ?_; rintro e w1 ⟨rfl, rfl⟩)
    go_loopw [6] (fun i wr => ∃ (j : Nat) (T : List (Lf × Value)), j ≤ ks.length ∧ i = .int .i64 j ∧ T.length = j ∧ T.map (·.1) = (ks.take j).map (·.1) ∧ wr.ownsRow w.heap.size 32 9 (.slice (some ⟨w.heap.size, 0, none⟩) N N) N (flatLf (T ++ List.replicate (N - j) zeroLf)) ∧ (∀ p ∈ T, Q wr (w.heap.size + 1) wr.heap.size p.1 p.2) ∧ T.Pairwise (fun p q => ρ p.2 q.2) ∧ w.heap.size < wr.heap.size ∧ Below w.heap.size w wr) (fun i _ => ks.length - (intOf i).toNat)
    case atStart => exact ⟨0, [], by omega, rfl, rfl, by simp, Hrow.out w (Nat.le_refl _), (fun p hp => by cases hp), List.Pairwise.nil, by simp, by go_grown⟩
    case round =>
      obtain ⟨j, T, hj, rfl, hTl, hTm, hown, hT, hTp, hlw, hb⟩ := hrel
      have hsz := hb.size
      by_cases hlt : j < ks.length
      · obtain ⟨b, off, rfl, hk⟩ := R.out j hlt
        have hkch := HCH.out ks[j] (List.getElem_mem hlt)
        have hk := LfAt_kept hk hb
        have htk : (ks.take (j + 1)).map (·.1) = (ks.take j).map (·.1) ++ [ks[j].1] := by rw [← List.take_append_getElem hlt, List.map_append]; rfl
        generalize ks[j].1 = k at *
        generalize ks[j].2 = cv at *
        obtain ⟨hlb, ⟨c0, c1, c2, c3, c4, c5, c6, c7, c8⟩, hrc⟩ := hk
        obtain ⟨A2, cp2, rfl, _, _⟩ := RdI_slice hrc
        have HRC := Lib.hid hrc; clear hrc
        have HT := Lib.hid hT; clear hT
        have HTP := Lib.hid hTp; clear hTp
        have HTM := Lib.hid hTm; clear hTm
        have HTK := Lib.hid htk; clear htk
        have HOWN := Lib.hid hown; clear hown
        go_wp2_with fail
        refine (HQT.out k _ wr HRC.out hkch).mono ?_
        rintro e w1 ⟨c', rfl, hq, hb1⟩
        obtain ⟨A3, n3, cp3, rfl⟩ := HQ.out.form hq
        have hown1 := own_kept HOWN.out hb1
        obtain ⟨x0, x1, x2, x3, x4, x5, x6, x7, x8, g0, g1, g2, g3, g4, g5, g6, g7, g8⟩ := row_cellsLf hown1 j (by omega)
        have z0 := hown1.frozenAt (j * 9)
        have z1 := hown1.frozenAt (j * 9 + 1)
        have z2 := hown1.frozenAt (j * 9 + 2)
        have z3 := hown1.frozenAt (j * 9 + 3)
        have z4 := hown1.frozenAt (j * 9 + 4)
        have z5 := hown1.frozenAt (j * 9 + 5)
        have z6 := hown1.frozenAt (j * 9 + 6)
        have z7 := hown1.frozenAt (j * 9 + 7)
        have z8 := hown1.frozenAt (j * 9 + 8)
        have hst := row_setLf9 hown1 j (k, Value.slice A3 n3 cp3)
        rw [show N - j = (N - (j + 1)) + 1 by omega, ← hTl, set_mid, hTl] at hst
        have hcq := fun lo hi k' c' (h : Q w1 lo hi k' c') (hb : w.heap.size < lo) => AftQ_setLf9 HQ.out (o := j * 9) (p := (k, Value.slice A3 n3 cp3)) h hb
        unfold setLf9 at hst hcq
        dsimp only at hst hcq
        have HST := Lib.hid hst; clear hst hown1
        have HCQ := Lib.hid hcq; clear hcq
        have HQN := Lib.hid hq; clear hq
        have hsz1 := hb1.size
        have HB := Lib.hid (kept_trans hb hb1)
        have HB1 := Lib.hid hb1
        go_wp2
        go_roundw
        case rel =>
          refine ⟨j + 1, T ++ [(k, Value.slice A3 n3 cp3)], by omega, by go_num, by simp [hTl], by rw [HTK.out, List.map_append, HTM.out]; rfl, HST.out.1, ?_, ?_, by simp; omega, grown_below HB.out HST.out.2 (fun g hg => by simp at hg; omega)⟩
          · intro p hp
            refine HQ.out.wide (HCQ.out (w.heap.size + 1) w1.heap.size _ _ ?_ (Nat.lt_succ_self _)) (Nat.le_refl _) (by simp)
            rcases List.mem_append.1 hp with hp | hp
            · exact HQ.out.wide (HQ.out.kept (HT.out p hp) HB1.out) (Nat.le_refl _) hsz1
            · rw [List.mem_singleton.1 hp]
              exact HQ.out.wide HQN.out (by omega) (Nat.le_refl _)
          · refine List.pairwise_append.2 ⟨HTP.out, List.pairwise_singleton _ _, fun p hp p' hp' => ?_⟩
            rw [List.mem_singleton.1 hp']
            exact HQR.out _ _ _ _ _ _ _ _ _ _ (HT.out p hp) HQN.out (Nat.le_refl _)
        case measure => simp [intOf]; omega
      · have : j = ks.length := by omega
        subst this
        have hTm2 : T.map (·.1) = ks.map (·.1) := by rw [hTm, List.take_length]
        have hrep : N - ks.length = roomL ks.length := by have := HN.out; omega
        have HTM := Lib.hid hTm2; clear hTm hTm2
        have HT0 := Lib.hid hT; clear hT
        have HTP := Lib.hid hTp; clear hTp
        have HREP := Lib.hid hrep
        go_wp2_with fail
        go_loopw [7] (fun i wr => ∃ (M : Nat) (S : List (Lf × Value)), M ≤ N ∧ i = .int .i64 (M : Int) ∧ ks.length + S.length = M ∧ S.map (·.1) = List.replicate S.length fillLf ∧ wr.ownsRow w.heap.size 32 9 (.slice (some ⟨w.heap.size, 0, none⟩) N N) N (flatLf ((T ++ S) ++ List.replicate (N - M) zeroLf)) ∧ (∀ p ∈ T, Q wr (w.heap.size + 1) wr.heap.size p.1 p.2) ∧ (∀ p ∈ S, fillAQ wr (w.heap.size + 1) wr.heap.size p.1 p.2) ∧ w.heap.size < wr.heap.size ∧ Below w.heap.size w wr) (fun i _ => N - (intOf i).toNat)
        case atStart => exact ⟨ks.length, [], by omega, rfl, by simp, rfl, by simpa using hown, HT0.out, (fun p hp => by cases hp), hlw, hb⟩
        case round =>
          obtain ⟨M, S, hm, rfl, hSl, hSm, hown, hT, hS, hlw, hb⟩ := hrel
          have hsz := hb.size
          by_cases hlt : M < N
          · have HT := Lib.hid hT; clear hT
            have HSS := Lib.hid hS; clear hS
            have HSM := Lib.hid hSm; clear hSm
            have HOWN := Lib.hid hown; clear hown
            go_wp2_with fail
            refine (fillLf_any wr).mono ?_
            rintro e w1 ⟨c', rfl, hq, hb1⟩
            obtain ⟨A3, n3, cp3, rfl⟩ := fillAQ_ok.form (k := fillLf) hq
            have hown1 := own_kept HOWN.out hb1
            obtain ⟨x0, x1, x2, x3, x4, x5, x6, x7, x8, g0, g1, g2, g3, g4, g5, g6, g7, g8⟩ := row_cellsLf hown1 M (by omega)
            have z0 := hown1.frozenAt (M * 9)
            have z1 := hown1.frozenAt (M * 9 + 1)
            have z2 := hown1.frozenAt (M * 9 + 2)
            have z3 := hown1.frozenAt (M * 9 + 3)
            have z4 := hown1.frozenAt (M * 9 + 4)
            have z5 := hown1.frozenAt (M * 9 + 5)
            have z6 := hown1.frozenAt (M * 9 + 6)
            have z7 := hown1.frozenAt (M * 9 + 7)
            have z8 := hown1.frozenAt (M * 9 + 8)
            have hst := row_setLf9 hown1 M (fillLf, .slice A3 n3 cp3)
            have hTS : M = (T ++ S).length := by simp [hTl]; omega
            have hset := set_mid (T ++ S) zeroLf (fillLf, Value.slice A3 n3 cp3) (N - (M + 1))
            rw [← hTS] at hset
            rw [show N - M = (N - (M + 1)) + 1 by omega, hset] at hst
            have hcq := fun lo hi k' c' (h : Q w1 lo hi k' c') (hb : w.heap.size < lo) => AftQ_setLf9 HQ.out (o := M * 9) (p := (fillLf, Value.slice A3 n3 cp3)) h hb
            have hcf := fun lo hi k' c' (h : fillAQ w1 lo hi k' c') (hb : w.heap.size < lo) => AftQ_setLf9 fillAQ_ok (o := M * 9) (p := (fillLf, Value.slice A3 n3 cp3)) h hb
            clear hset
            unfold setLf9 at hst hcq hcf
            dsimp only at hst hcq hcf
            have hwf : (Value.agg #[.string ⟨#[126, 115, 112, 97, 114, 101, 126]⟩, .int .i64 (-7000000000000000101), .int .i64 (-7000000000000000101), .int .i64 (-7000000000000000101), .int .i64 (-7000000000000000101), .int .i64 (-7000000000000000101), .int .i64 (-7000000000000000101), .int .i64 (-7000000000000000101), .slice A3 n3 cp3]) = .agg #[.string fillLf.nm, .int .i64 fillLf.wt, .int .i64 fillLf.fx, .int .i64 fillLf.fy, .int .i64 fillLf.tx, .int .i64 fillLf.ty, .int .i64 fillLf.h, .int .i64 fillLf.dl, .slice A3 n3 cp3] := rfl
            rw [hwf]
            clear hwf
            have hfm : fillLf = (⟨fillLf.nm, fillLf.wt, fillLf.fx, fillLf.fy, fillLf.tx, fillLf.ty, fillLf.h, fillLf.dl, fillLf.af⟩ : Lf) := rfl
            have HFM := Lib.hid hfm; clear hfm
            have HST := Lib.hid hst; clear hst hown1
            have HCQ := Lib.hid hcq; clear hcq
            have HCF := Lib.hid hcf; clear hcf
            have HQN := Lib.hid hq; clear hq
            have hsz1 := hb1.size
            have HB := Lib.hid (kept_trans hb hb1)
            have HB1 := Lib.hid hb1
            have HSL := Lib.hid hSl
            have HOW2 := Lib.hid hTl
            clear hTS hSl hTl
            go_wp2
            go_roundw
            case rel =>
              have hSl := HSL.out
              refine ⟨M + 1, S ++ [(fillLf, Value.slice A3 n3 cp3)], by omega, by go_num, by simp; omega, ?_, ?_, ?_, ?_, by simp; omega, grown_below HB.out HST.out.2 (fun g hg => by simp at hg; omega)⟩
              · rw [List.map_append, HSM.out, List.length_append, List.length_singleton, List.replicate_succ']; rfl
              · rw [← List.append_assoc]; exact HST.out.1
              · intro p hp
                exact HQ.out.wide (HCQ.out (w.heap.size + 1) w1.heap.size _ _ (HQ.out.wide (HQ.out.kept (HT.out p hp) HB1.out) (Nat.le_refl _) hsz1) (Nat.lt_succ_self _)) (Nat.le_refl _) (by simp)
              · intro p hp
                refine fillAQ_ok.wide (k := p.1) (HCF.out (w.heap.size + 1) w1.heap.size p.1 _ ?_ (Nat.lt_succ_self _)) (Nat.le_refl _) (by simp)
                rcases List.mem_append.1 hp with hp | hp
                · exact fillAQ_ok.wide (k := p.1) (fillAQ_ok.kept (k := p.1) (HSS.out p hp) HB1.out) (Nat.le_refl _) hsz1
                · rw [List.mem_singleton.1 hp]
                  exact fillAQ_ok.wide (k := fillLf) HQN.out (by omega) (Nat.le_refl _)
            case measure => simp [intOf]; omega
          · have : M = N := by omega
            subst this
            have hSl2 : S.length = roomL ks.length := by have := HN.out; omega
            have hTS : (T ++ S).length = M := by simp [hTl, hSl2]; exact HN.out.symm
            have HT := Lib.hid hT; clear hT
            have HSS := Lib.hid hS; clear hS
            have HSM := Lib.hid hSm; clear hSm
            have HOWN := Lib.hid hown; clear hown
            have HTS := Lib.hid hTS; clear hTS
            have HSL := Lib.hid hSl2; clear hSl2 hSl hrep
            have HTL := Lib.hid hTl; clear hTl
            go_wp2
            go_ret
            have hTS := HTS.out
            have hSl2 := HSL.out
            refine ⟨_, rfl, ⟨by simpa using hn, w.heap.size, T, S, ?_, Nat.le_refl _, HTM.out, ?_, ?_, HT.out, fun p hp => HSS.out p hp, HTP.out⟩, hb⟩
            · rw [hTS, List.length_map]; rfl
            · rw [List.length_map, HSM.out, hSl2]
            · have h := HOWN.out
              rw [Nat.sub_self, List.replicate_zero, List.append_nil] at h
              rw [hTS]
              exact ⟨h, fun g hg => by simp [Value.ownBlock] at hg; subst hg; exact ⟨Nat.le_refl _, hlw⟩⟩

def copyAQ (w : World) (lo hi : Nat) (k : Lf) (c : Value) : Prop := CopyI w lo hi c k.af

theorem copyAQ_ok : AftQ copyAQ where
  set := fun b o u h hb => CopyI_set h hb
  kept := fun h hb => CopyI_kept h hb
  wide := fun h hl hh => CopyI_lo h hl hh
  form := fun h => by obtain ⟨_, g, e, _⟩ := h; exact ⟨_, _, _, e⟩

def rowAQ (w : World) (lo hi : Nat) (k : Lf) (c : Value) : Prop := RowI w lo hi c k.af

theorem rowAQ_ok : AftQ rowAQ where
  set := fun b o u h hb => RowI_set h hb
  kept := fun h hb => RowI_kept h hb
  wide := fun h hl hh => RowI_lo h hl hh
  form := fun h => by obtain ⟨A, c, e, _⟩ := RdI_slice (RowI_rd h); exact ⟨_, _, _, e⟩

theorem copyAQ_blk {w : World} {lo hi : Nat} {k : Lf} {c : Value} (h : copyAQ w lo hi k c) : lo ≤ blkOf c ∧ blkOf c < hi := by
  obtain ⟨_, g, rfl, hr⟩ := h
  exact hr.2 g rfl

theorem LfsQ_kept {Q : World → Nat → Nat → Lf → Value → Prop} {ρ : Value → Value → Prop} (q : AftQ Q) {W w1 : World} {lo hi : Nat} {v : Value} {ks : List Lf} (h : LfsQ Q ρ W lo hi v ks) (hb : Below W.heap.size W w1) : LfsQ Q ρ w1 lo hi v ks := by
  obtain ⟨hn, g, T, S, hv, hg, hT, hS, hr, hq, hf, hp⟩ := h
  exact ⟨hn, g, T, S, hv, hg, hT, hS, RowF_kept hr hb, fun p hp => q.kept (hq p hp) hb, fun p hp => RowI_kept (hf p hp) hb, hp⟩

theorem flatLf_take (T S : List (Lf × Value)) : (flatLf (T ++ S)).take (T.length * 9) = flatLf T := by
  rw [show flatLf (T ++ S) = flatLf T ++ flatLf S by simp [flatLf], ← flatLf_len, List.take_left]

theorem LfsQ_rd {Q : World → Nat → Nat → Lf → Value → Prop} {ρ : Value → Value → Prop} (qrd : ∀ (w : World) (lo hi : Nat) (k : Lf) (c : Value), Q w lo hi k c → RdI w c k.af) {w : World} {lo hi : Nat} {v : Value} {ks : List Lf} (h : LfsQ Q ρ w lo hi v ks) : ∃ T : List (Lf × Value), RdLf w v T ∧ T.map (·.1) = ks := by
  obtain ⟨hn, g, T, S, rfl, hg, hT, hS, hr, hq, hf, hp⟩ := h
  have hTl : T.length = ks.length := by rw [← hT]; simp
  refine ⟨T, ⟨?_, fun p hp => qrd _ _ _ _ _ (hq p hp)⟩, hT⟩
  have := RowF_short hr (n := T.length) (by simp)
  rw [flatLf_take, hTl] at this
  rw [hTl]
  exact RowF_rd this

/-- A site's cranes, copied by the law with room behind them. -/
def LfsC (w : World) (lo hi : Nat) (v : Value) (ks : List Lf) : Prop := LfsQ copyAQ blkLt w lo hi v ks

theorem LfsC_rd {w : World} {lo hi : Nat} {v : Value} {ks : List Lf} (h : LfsC w lo hi v ks) : ∃ T : List (Lf × Value), RdLf w v T ∧ T.map (·.1) = ks := LfsQ_rd (fun _ _ _ _ _ h => CopyI_rd h) h

theorem LfsC_kept {W w1 : World} {lo hi : Nat} {v : Value} {ks : List Lf} (h : LfsC W lo hi v ks) (hb : Below W.heap.size W w1) : LfsC w1 lo hi v ks := LfsQ_kept copyAQ_ok h hb

theorem toI_bareR (v : Value) (zs : List Int) (w : World) (h : RdI w v zs) (hn : zs.length ≤ 1000000) :
    Calls Try.prog 41 #[v, .bool true] w fun e w' => ∃ v', e = .returned v' ∧ RowI w' w.heap.size w'.heap.size v' zs ∧ Below w.heap.size w w' := by
  by_cases hz : zs = []
  · subst hz
    obtain ⟨A, c, rfl, hl, _⟩ := RdI_slice h
    clear h
    go_enter Try.func41, Try.ntmps41
    go_wp2
    go_ret
    exact ⟨_, rfl, RowI_nil _ _ _, Below.refl _ _⟩
  · exact (toI_row v zs true w h hn (Or.inr hz)).mono fun e w' ⟨v', he, hc, hb⟩ => ⟨v', he, CopyI_row hc, hb⟩

theorem toLf_false (k : Lf) (c : Value) (w : World) (hr : RdI w c k.af) (hn : k.af.length ≤ 1000000) :
    Calls Try.prog 24 #[.agg #[.string k.nm, .int .i64 k.wt, .int .i64 k.fx, .int .i64 k.fy, .int .i64 k.tx, .int .i64 k.ty, .int .i64 k.h, .int .i64 k.dl, c], .bool false] w fun e w' => ∃ c', e = .returned (.agg #[.string k.nm, .int .i64 k.wt, .int .i64 k.fx, .int .i64 k.fy, .int .i64 k.tx, .int .i64 k.ty, .int .i64 k.h, .int .i64 k.dl, c']) ∧ CopyI w' w.heap.size w'.heap.size c' k.af ∧ Below w.heap.size w w' := by
  obtain ⟨A0, cp0, rfl, _, _⟩ := RdI_slice hr
  have H := Lib.hid hr; clear hr
  obtain ⟨s, i1, i2, i3, i4, i5, i6, i7, zs⟩ := k
  dsimp only at *
  go_enter Try.func24, Try.ntmps24
  go_wp2_with fail
  refine (toPoint_any _ _ _).mono ?_
  rintro e w1 ⟨rfl, b1⟩
  refine kept_at b1 (w.heap.size) (by go_size) fun c1_0 z1_0 s1_0 => ?_
  refine kept_at b1 (w.heap.size + 1) (by go_size) fun c1_1 z1_1 s1_1 => ?_
  refine kept_at b1 (w.heap.size + 2) (by go_size) fun c1_2 z1_2 s1_2 => ?_
  replace b1 := kept_trans (a := w) (by go_grown) b1
  have l1 := kept_cell b1
  have zz1 := b1.size
  go_wp2_with fail
  refine (toPoint_any _ _ _).mono ?_
  rintro e w2 ⟨rfl, b2⟩
  refine kept_at b2 (w.heap.size) (by go_size) fun c2_0 z2_0 s2_0 => ?_
  refine kept_at b2 (w.heap.size + 1) (by go_size) fun c2_1 z2_1 s2_1 => ?_
  refine kept_at b2 (w.heap.size + 2) (by go_size) fun c2_2 z2_2 s2_2 => ?_
  replace b2 := kept_trans (a := w) (by go_grown) b2
  have l2 := kept_cell b2
  have zz2 := b2.size
  go_wp2_with fail
  refine (toI_false _ zs _ (RdI_kept H.out (by go_grown)) hn).mono ?_
  rintro e w3 ⟨c', rfl, hc, hb3⟩
  obtain ⟨A1, cp1, rfl, _, _⟩ := RdI_slice (CopyI_rd hc)
  have HC := Lib.hid hc; clear hc
  refine kept_at hb3 (w.heap.size + 1) (by go_size) fun c3_1 z3_1 s3_1 => ?_
  refine kept_at hb3 (w.heap.size + 2) (by go_size) fun c3_2 z3_2 s3_2 => ?_
  have b3 := kept_trans (a := w) (by go_grown) hb3
  go_wp2
  (try simp only [Exit.inBlock, Exit.then])
  refine bodyPost_ret (v := .agg #[.string s, .int .i64 i1, .int .i64 i2, .int .i64 i3, .int .i64 i4, .int .i64 i5, .int .i64 i6, .int .i64 i7, .slice A1 zs.length cp1]) ?_ rfl ⟨_, rfl, ?_, ?_⟩
  · rw [results_cell1 rfl]
    go_simp
  · refine CopyI_lo (lo := w2.heap.size) ?_ (by omega) (show w3.heap.size ≤ _ by simp)
    have := HC.out
    simp only [World.size_setCell] at this
    exact CopyI_set (CopyI_set (CopyI_set (CopyI_set (CopyI_set (CopyI_set (CopyI_set (CopyI_set (CopyI_set (CopyI_set this (by omega)) (by omega)) (by omega)) (by omega)) (by omega)) (by omega)) (by omega)) (by omega)) (by omega)) (by omega)
  · go_grown

theorem toLf_true (k : Lf) (c : Value) (w : World) (hr : RdI w c k.af) (hn : k.af.length ≤ 1000000) :
    Calls Try.prog 24 #[.agg #[.string k.nm, .int .i64 k.wt, .int .i64 k.fx, .int .i64 k.fy, .int .i64 k.tx, .int .i64 k.ty, .int .i64 k.h, .int .i64 k.dl, c], .bool true] w fun e w' => ∃ c', e = .returned (.agg #[.string k.nm, .int .i64 k.wt, .int .i64 k.fx, .int .i64 k.fy, .int .i64 k.tx, .int .i64 k.ty, .int .i64 k.h, .int .i64 k.dl, c']) ∧ RowI w' w.heap.size w'.heap.size c' k.af ∧ Below w.heap.size w w' := by
  obtain ⟨A0, cp0, rfl, _, _⟩ := RdI_slice hr
  have H := Lib.hid hr; clear hr
  obtain ⟨s, i1, i2, i3, i4, i5, i6, i7, zs⟩ := k
  dsimp only at *
  go_enter Try.func24, Try.ntmps24
  go_wp2_with fail
  refine (toPoint_any _ _ _).mono ?_
  rintro e w1 ⟨rfl, b1⟩
  refine kept_at b1 (w.heap.size) (by go_size) fun c1_0 z1_0 s1_0 => ?_
  refine kept_at b1 (w.heap.size + 1) (by go_size) fun c1_1 z1_1 s1_1 => ?_
  refine kept_at b1 (w.heap.size + 2) (by go_size) fun c1_2 z1_2 s1_2 => ?_
  replace b1 := kept_trans (a := w) (by go_grown) b1
  have l1 := kept_cell b1
  have zz1 := b1.size
  go_wp2_with fail
  refine (toPoint_any _ _ _).mono ?_
  rintro e w2 ⟨rfl, b2⟩
  refine kept_at b2 (w.heap.size) (by go_size) fun c2_0 z2_0 s2_0 => ?_
  refine kept_at b2 (w.heap.size + 1) (by go_size) fun c2_1 z2_1 s2_1 => ?_
  refine kept_at b2 (w.heap.size + 2) (by go_size) fun c2_2 z2_2 s2_2 => ?_
  replace b2 := kept_trans (a := w) (by go_grown) b2
  have l2 := kept_cell b2
  have zz2 := b2.size
  go_wp2_with fail
  refine (toI_bareR _ zs _ (RdI_kept H.out (by go_grown)) hn).mono ?_
  rintro e w3 ⟨c', rfl, hc, hb3⟩
  obtain ⟨A1, cp1, rfl, _, _⟩ := RdI_slice (RowI_rd hc)
  have HC := Lib.hid hc; clear hc
  refine kept_at hb3 (w.heap.size + 1) (by go_size) fun c3_1 z3_1 s3_1 => ?_
  refine kept_at hb3 (w.heap.size + 2) (by go_size) fun c3_2 z3_2 s3_2 => ?_
  have b3 := kept_trans (a := w) (by go_grown) hb3
  go_wp2
  (try simp only [Exit.inBlock, Exit.then])
  refine bodyPost_ret (v := .agg #[.string s, .int .i64 i1, .int .i64 i2, .int .i64 i3, .int .i64 i4, .int .i64 i5, .int .i64 i6, .int .i64 i7, .slice A1 zs.length cp1]) ?_ rfl ⟨_, rfl, ?_, ?_⟩
  · rw [results_cell1 rfl]
    go_simp
  · refine RowI_lo (lo := w2.heap.size) ?_ (by omega) (show w3.heap.size ≤ _ by simp)
    have := HC.out
    simp only [World.size_setCell] at this
    exact RowI_set (RowI_set (RowI_set (RowI_set (RowI_set (RowI_set (RowI_set (RowI_set (RowI_set (RowI_set this (by omega)) (by omega)) (by omega)) (by omega)) (by omega)) (by omega)) (by omega)) (by omega)) (by omega)) (by omega)
  · go_grown

theorem toLfs_false (v : Value) (ks : List (Lf × Value)) (w : World) (h : RdLf w v ks) (hn : ks.length ≤ 1000000) (hch : ∀ p ∈ ks, p.1.af.length ≤ 1000000) :
    Calls Try.prog 18 #[v, .bool false] w fun e w' => ∃ v', e = .returned v' ∧ LfsC w' w.heap.size w'.heap.size v' (ks.map (·.1)) ∧ Below w.heap.size w w' :=
  toLfs_gen false copyAQ blkLt copyAQ_ok (fun w w' lo hi lo' hi' k k' c c' h h' hl => by have := copyAQ_blk h; have := copyAQ_blk h'; unfold blkLt; omega)
    (fun k c u q l => toLf_false k c u q l) v ks w h hn (Or.inl rfl) hch

theorem toLfs_true (v : Value) (ks : List (Lf × Value)) (w : World) (h : RdLf w v ks) (hn : ks.length ≤ 1000000) (hch : ∀ p ∈ ks, p.1.af.length ≤ 1000000) :
    Calls Try.prog 18 #[v, .bool true] w fun e w' => ∃ v', e = .returned v' ∧ (v' = .slice none 0 0 ∧ ks = [] ∨ LfsQ rowAQ (fun _ _ => True) w' w.heap.size w'.heap.size v' (ks.map (·.1))) ∧ Below w.heap.size w w' := by
  by_cases hz : ks = []
  · subst hz
    obtain ⟨A, c, rfl, _, _⟩ := RdLf_at h
    clear h
    go_enter Try.func18, Try.ntmps18
    go_wp2
    go_ret
    exact ⟨_, rfl, Or.inl (by simp), Below.refl _ _⟩
  · exact (toLfs_gen true rowAQ (fun _ _ => True) rowAQ_ok (fun _ _ _ _ _ _ _ _ _ _ _ _ _ => trivial) (fun k c u q l => toLf_true k c u q l) v ks w h hn (Or.inr hz) hch).mono fun e w' ⟨v', he, hs, hb⟩ => ⟨v', he, Or.inr hs, hb⟩

theorem eqLf_same (k : Lf) (c1 c2 : Value) (w : World) (h1 : RdI w c1 k.af) (h2 : RdI w c2 k.af) :
    Calls Try.prog 63 #[.agg #[.string k.nm, .int .i64 k.wt, .int .i64 k.fx, .int .i64 k.fy, .int .i64 k.tx, .int .i64 k.ty, .int .i64 k.h, .int .i64 k.dl, c1], .agg #[.string k.nm, .int .i64 k.wt, .int .i64 k.fx, .int .i64 k.fy, .int .i64 k.tx, .int .i64 k.ty, .int .i64 k.h, .int .i64 k.dl, c2]] w fun e w' => e = .returned (.bool true) ∧ Below w.heap.size w w' := by
  obtain ⟨A1, cp1, rfl, _, _⟩ := RdI_slice h1
  obtain ⟨A2, cp2, rfl, _, _⟩ := RdI_slice h2
  have H1 := Lib.hid h1; clear h1
  have H2 := Lib.hid h2; clear h2
  obtain ⟨s, i1, i2, i3, i4, i5, i6, i7, zs⟩ := k
  dsimp only at *
  go_enter Try.func63, Try.ntmps63
  go_wp2_with fail
  refine (eqPoint_same _ _ _).mono ?_
  rintro e w1 ⟨rfl, b1⟩
  refine kept_at b1 (w.heap.size) (by go_size) fun c1_0 z1_0 s1_0 => ?_
  refine kept_at b1 (w.heap.size + 1) (by go_size) fun c1_1 z1_1 s1_1 => ?_
  replace b1 := kept_trans (a := w) (by go_grown) b1
  have l1 := kept_cell b1
  have zz1 := b1.size
  go_wp2_with fail
  refine (eqPoint_same _ _ _).mono ?_
  rintro e w2 ⟨rfl, b2⟩
  refine kept_at b2 (w.heap.size) (by go_size) fun c2_0 z2_0 s2_0 => ?_
  refine kept_at b2 (w.heap.size + 1) (by go_size) fun c2_1 z2_1 s2_1 => ?_
  replace b2 := kept_trans (a := w) (by go_grown) b2
  have l2 := kept_cell b2
  have zz2 := b2.size
  go_wp2_with fail
  refine (eqInts_same _ _ zs _ (RdI_kept H1.out (by go_grown)) (RdI_kept H2.out (by go_grown))).mono ?_
  rintro e w3 ⟨rfl, hb3⟩
  have b3 := kept_trans (a := w) (by go_grown) hb3
  go_wp2
  go_ret
  exact ⟨rfl, b3⟩

theorem intactLf_same (k : Lf) (c1 c2 : Value) (lo1 hi1 lo2 hi2 : Nat) (w : World) (h1 : CopyI w lo1 hi1 c1 k.af) (h2 : CopyI w lo2 hi2 c2 k.af) :
    Calls Try.prog 27 #[.agg #[.string k.nm, .int .i64 k.wt, .int .i64 k.fx, .int .i64 k.fy, .int .i64 k.tx, .int .i64 k.ty, .int .i64 k.h, .int .i64 k.dl, c1], .agg #[.string k.nm, .int .i64 k.wt, .int .i64 k.fx, .int .i64 k.fy, .int .i64 k.tx, .int .i64 k.ty, .int .i64 k.h, .int .i64 k.dl, c2]] w fun e w' => e = .returned (.bool true) ∧ Below w.heap.size w w' := by
  obtain ⟨A1, cp1, rfl, _, _⟩ := RdI_slice (CopyI_rd h1)
  obtain ⟨A2, cp2, rfl, _, _⟩ := RdI_slice (CopyI_rd h2)
  have H1 := Lib.hid h1; clear h1
  have H2 := Lib.hid h2; clear h2
  obtain ⟨s, i1, i2, i3, i4, i5, i6, i7, zs⟩ := k
  dsimp only at *
  go_enter Try.func27, Try.ntmps27
  go_wp2_with fail
  refine (eqPoint_same _ _ _).mono ?_
  rintro e w1 ⟨rfl, b1⟩
  refine kept_at b1 (w.heap.size) (by go_size) fun c1_0 z1_0 s1_0 => ?_
  refine kept_at b1 (w.heap.size + 1) (by go_size) fun c1_1 z1_1 s1_1 => ?_
  replace b1 := kept_trans (a := w) (by go_grown) b1
  have l1 := kept_cell b1
  have zz1 := b1.size
  go_wp2_with fail
  refine (eqPoint_same _ _ _).mono ?_
  rintro e w2 ⟨rfl, b2⟩
  refine kept_at b2 (w.heap.size) (by go_size) fun c2_0 z2_0 s2_0 => ?_
  refine kept_at b2 (w.heap.size + 1) (by go_size) fun c2_1 z2_1 s2_1 => ?_
  replace b2 := kept_trans (a := w) (by go_grown) b2
  have l2 := kept_cell b2
  have zz2 := b2.size
  go_wp2_with fail
  refine (intactI_same _ _ zs _ _ _ _ _ (CopyI_kept H1.out (by go_grown)) (CopyI_kept H2.out (by go_grown))).mono ?_
  rintro e w3 ⟨rfl, hb3⟩
  have b3 := kept_trans (a := w) (by go_grown) hb3
  go_wp2
  go_ret
  exact ⟨rfl, b3⟩

set_option maxHeartbeats 1000000 in
theorem eqLfs_same (v1 v2 : Value) (k1 k2 : List (Lf × Value)) (w : World) (h1 : RdLf w v1 k1) (h2 : RdLf w v2 k2) (hm : k1.map (·.1) = k2.map (·.1)) :
    Calls Try.prog 26 #[v1, v2] w fun e w' => e = .returned (.bool true) ∧ Below w.heap.size w w' := by
  obtain ⟨A1, cp1, rfl, hl1, r1⟩ := RdLf_at h1
  obtain ⟨A2, cp2, rfl, hl2, r2⟩ := RdLf_at h2
  clear h1 h2
  have hlen : k1.length = k2.length := by have := congrArg List.length hm; simpa using this
  have hel : ∀ i (h1 : i < k1.length) (h2 : i < k2.length), k1[i].1 = k2[i].1 := by
    intro i h1 h2
    have := congrArg (·[i]?) hm
    simpa [h1, h2] using this
  have R1 := Lib.hid r1; clear r1
  have R2 := Lib.hid r2; clear r2
  have HEL := Lib.hid hel; clear hel hm
  rw [← hlen]
  have HLEN := Lib.hid hlen
  clear hlen hl2
  go_enter Try.func26, Try.ntmps26
  go_wp2_with fail
  go_loopw [5] (fun i wr => ∃ j : Nat, j ≤ k1.length ∧ i = .int .i64 j ∧ Below w.heap.size w wr) (fun i _ => k1.length - (intOf i).toNat)
  case atStart => exact ⟨0, by omega, rfl, Below.refl _ _⟩
  case round =>
    obtain ⟨j, hj, rfl, hb⟩ := hrel
    by_cases hlt : j < k1.length
    · obtain ⟨b, off, rfl, hk⟩ := R1.out j hlt
      obtain ⟨b2, off2, rfl, hk2⟩ := R2.out j (by have := HLEN.out; omega)
      rw [← HEL.out j hlt (by have := HLEN.out; omega)] at hk2
      have hk := LfAt_kept hk hb
      have hk2 := LfAt_kept hk2 hb
      generalize k1[j].1 = k at *
      generalize k1[j].2 = cv at *
      generalize k2[j].2 = cv2 at *
      obtain ⟨hlb, ⟨c0, c1, c2, c3, c4, c5, c6, c7, c8⟩, hrc⟩ := hk
      obtain ⟨hlb2, ⟨d0, d1, d2, d3, d4, d5, d6, d7, d8⟩, hrd⟩ := hk2
      obtain ⟨A3, cp3, rfl, _, _⟩ := RdI_slice hrc
      obtain ⟨A4, cp4, rfl, _, _⟩ := RdI_slice hrd
      have HE := Lib.hid (fun (m : Nat) => eqLf_same k _ _ (wr.drewN m) (RdI_kept hrc (kept_drewN (Below.refl _ _) m)) (RdI_kept hrd (kept_drewN (Below.refl _ _) m)))
      clear hrc hrd
      go_wp2_with fail
      go_cut [26] (fun s26 w' => s26 = .bool false ∧ Below w.heap.size w w')
      case first =>
        go_region_with ((go_at_call 63; refine (HE.out 1).mono ?_; rintro e w1 ⟨rfl, hb1⟩; have b1 := kept_trans (a := w) (kept_drewN hb 1) hb1))
        all_goals
          go_wp2_with fail
          go_meet
          case rel => exact ⟨rfl, b1⟩
      case rest =>
      obtain ⟨rfl, hbc⟩ := hcut
      go_wp2
      go_roundw
      case rel => exact ⟨j + 1, by omega, by go_num, hbc⟩
      case measure => simp [intOf]; omega
    · have : j = k1.length := by omega
      subst this
      go_wp2
      go_ret
      exact ⟨rfl, hb⟩

theorem RdLf_tail {w : World} {lo hi g c N : Nat} {T S : List (Lf × Value)} (h : RowF 32 9 w lo hi (.slice (some ⟨g, 0, none⟩) N N) N (flatLf (T ++ S))) (hc : ∀ p ∈ S, RdI w p.2 p.1.af) (hl : S.length ≤ 9223372036854775807) :
    RdLf w (.slice (some ⟨g, T.length * 9, none⟩) S.length c) S := by
  have hN : (flatLf (T ++ S)).length = N * 9 := h.1.1
  rw [flatLf_len, List.length_append] at hN
  refine ⟨⟨hl, flatLf_len S, some ⟨g, T.length * 9, none⟩, c, rfl, fun i hi => ⟨g, T.length * 9, rfl, (h.1.lt g rfl).2, ?_⟩⟩, hc⟩
  rw [h.1.cellAt (T.length * 9 + i) (by omega), show flatLf (T ++ S) = flatLf T ++ flatLf S by simp [flatLf], List.getElem?_append_right (by rw [flatLf_len]; omega), flatLf_len]
  congr 1
  omega

theorem LfsC_open {w : World} {lo hi : Nat} {v : Value} {ks : List Lf} (h : LfsC w lo hi v ks) : ∃ (g : Nat) (T S : List (Lf × Value)), v = .slice (some ⟨g, 0, none⟩) ks.length (ks.length + roomL ks.length) ∧ ks.length ≤ 1000000 ∧ T.length = ks.length ∧ S.length = roomL ks.length ∧ g < w.heap.size ∧
    (∀ i (h1 : i < T.length) (h2 : i < ks.length), T[i].1 = ks[i] ∧ CopyI w (g + 1) hi T[i].2 ks[i].af ∧ LfAt w g (i * 9) ks[i] T[i].2) ∧ S.map (·.1) = List.replicate (roomL ks.length) fillLf ∧ (∀ c, RdLf w (.slice (some ⟨g, ks.length * 9, none⟩) S.length c) S) := by
  obtain ⟨T', hR, hT'⟩ := LfsC_rd h
  obtain ⟨hn, g, T, S, rfl, hg, hT, hS, hr, hq, hf, hp⟩ := h
  have hTl : T.length = ks.length := by rw [← hT]; simp
  have hSl : S.length = roomL ks.length := by have := congrArg List.length hS; simpa using this
  have hlt : g < w.heap.size := (hr.1.lt g rfl).2
  have hsl : (T ++ S).length = ks.length + roomL ks.length := by simp [hTl, hSl]
  have hrm := roomL_le ks.length
  refine ⟨g, T, S, by rw [hsl], hn, hTl, hSl, hlt, fun i h1 h2 => ?_, hS, fun c => ?_⟩
  · have e : T[i].1 = ks[i] := by
      have := congrArg (·[i]?) hT
      simpa [h1, h2] using this
    have hc := hq T[i] (List.getElem_mem h1)
    have hc' : CopyI w (g + 1) hi T[i].2 ks[i].af := by rw [← e]; exact hc
    refine ⟨e, hc', hlt, ?_, CopyI_rd hc'⟩
    have at_ : ∀ j, j < 9 → w.cell? ⟨g, i * 9 + j, none⟩ = (encLf T[i])[j]? := by
      intro j hj
      rw [hr.1.cellAt (i * 9 + j) (by rw [hsl]; omega), flatLf_at (T ++ S) i j (by rw [List.length_append]; omega) hj, List.getElem_append_left h1]
    rw [← e]
    exact ⟨at_ 0 (by omega), at_ 1 (by omega), at_ 2 (by omega), at_ 3 (by omega), at_ 4 (by omega), at_ 5 (by omega), at_ 6 (by omega), at_ 7 (by omega), at_ 8 (by omega)⟩
  · rw [← hTl]
    refine RdLf_tail hr (fun p hp => ?_) (by omega)
    have e : p.1 = fillLf := by
      have : p.1 ∈ S.map (·.1) := List.mem_map.2 ⟨p, hp, rfl⟩
      rw [hS] at this
      exact (List.mem_replicate.1 this).2
    rw [e]
    exact RowI_rd (hf p hp)

set_option maxHeartbeats 2000000 in
theorem intactLfs_same (v1 v2 : Value) (ks : List Lf) (lo1 hi1 lo2 hi2 : Nat) (w : World) (h1 : LfsC w lo1 hi1 v1 ks) (h2 : LfsC w lo2 hi2 v2 ks) :
    Calls Try.prog 20 #[v1, v2] w fun e w' => e = .returned (.bool true) ∧ Below w.heap.size w w' := by
  have H1 := Lib.hid h1
  have H2 := Lib.hid h2
  obtain ⟨g1, T1, S1, rfl, hn, _, _, _, _, _, _⟩ := LfsC_open h1
  obtain ⟨g2, T2, S2, rfl, _, _, _, _, _, _, _⟩ := LfsC_open h2
  clear h1 h2
  have hr := roomL_le ks.length
  have HE := Lib.hid (fun (u : World) (q1 : LfsC u lo1 hi1 (.slice (some ⟨g1, 0, none⟩) ks.length (ks.length + roomL ks.length)) ks) (q2 : LfsC u lo2 hi2 (.slice (some ⟨g2, 0, none⟩) ks.length (ks.length + roomL ks.length)) ks) => (by
    obtain ⟨g1', T1, S1, e1, _, _, hS1, _, _, hm1, hR1⟩ := LfsC_open q1
    obtain ⟨g2', T2, S2, e2, _, _, hS2, _, _, hm2, hR2⟩ := LfsC_open q2
    cases e1
    cases e2
    have hA : ∀ (g : Nat) (S : List (Lf × Value)), S.length = roomL ks.length → RdLf u (.slice (some ⟨g, ks.length * 9, none⟩) S.length (roomL ks.length)) S → RdLf u (.slice (if roomL ks.length = 0 then some ⟨g, 0, none⟩ else some ⟨g, ks.length * 9, none⟩) (roomL ks.length) (roomL ks.length)) S := by
      intro g S hS h
      by_cases h0 : roomL ks.length = 0
      · have hS0 := List.eq_nil_of_length_eq_zero (hS.trans h0)
        subst hS0
        rw [if_pos h0, h0]
        exact ⟨⟨by simp, rfl, _, _, rfl, fun i hi => by simp at hi⟩, fun p hp => by cases hp⟩
      · rw [if_neg h0]
        rw [hS] at h
        exact h
    exact eqLfs_same _ _ S1 S2 u (hA g1 S1 hS1 (hR1 (roomL ks.length))) (hA g2 S2 hS2 (hR2 (roomL ks.length))) (hm1.trans hm2.symm) : Calls Try.prog 26 #[.slice (if roomL ks.length = 0 then some ⟨g1, 0, none⟩ else some ⟨g1, ks.length * 9, none⟩) (roomL ks.length) (roomL ks.length), .slice (if roomL ks.length = 0 then some ⟨g2, 0, none⟩ else some ⟨g2, ks.length * 9, none⟩) (roomL ks.length) (roomL ks.length)] u fun e w' => e = .returned (.bool true) ∧ Below u.heap.size u w'))
  have HX := Lib.hid (fun (u : World) (q1 : LfsC u lo1 hi1 (.slice (some ⟨g1, 0, none⟩) ks.length (ks.length + roomL ks.length)) ks) (q2 : LfsC u lo2 hi2 (.slice (some ⟨g2, 0, none⟩) ks.length (ks.length + roomL ks.length)) ks) (i : Nat) (hi : i < ks.length) => (by
    obtain ⟨g1', T1, S1, e1, _, hl1, _, _, ha1, _, _⟩ := LfsC_open q1
    obtain ⟨g2', T2, S2, e2, _, hl2, _, _, ha2, _, _⟩ := LfsC_open q2
    cases e1
    cases e2
    obtain ⟨_, hc1, hk1⟩ := ha1 i (by omega) hi
    obtain ⟨_, hc2, hk2⟩ := ha2 i (by omega) hi
    exact ⟨_, _, hc1, hk1, hc2, hk2⟩ : ∃ c1 c2, CopyI u (g1 + 1) hi1 c1 ks[i].af ∧ LfAt u g1 (i * 9) ks[i] c1 ∧ CopyI u (g2 + 1) hi2 c2 ks[i].af ∧ LfAt u g2 (i * 9) ks[i] c2))
  go_enter Try.func20, Try.ntmps20
  go_wp2_with (go_at_call 52; refine (room_any _ (by omega) _).mono ?_; rintro e w1 ⟨rfl, rfl⟩)
  go_loopw [6] (fun i wr => ∃ j : Nat, j ≤ ks.length ∧ i = .int .i64 j ∧ Below w.heap.size w wr) (fun i _ => ks.length - (intOf i).toNat)
  case atStart => exact ⟨0, by omega, rfl, Below.refl _ _⟩
  case round =>
    obtain ⟨j, hj, rfl, hb⟩ := hrel
    by_cases hlt : j < ks.length
    · obtain ⟨cv, cv2, hcv, ⟨hlb, ⟨c0, c1, c2, c3, c4, c5, c6, c7, c8⟩, hrc⟩, hcv2, ⟨hlb2, ⟨d0, d1, d2, d3, d4, d5, d6, d7, d8⟩, hrd⟩⟩ := HX.out wr (LfsC_kept H1.out hb) (LfsC_kept H2.out hb) j hlt
      generalize ks[j] = k at *
      obtain ⟨A3, cp3, rfl, _, _⟩ := RdI_slice hrc
      obtain ⟨A4, cp4, rfl, _, _⟩ := RdI_slice hrd
      have HI := Lib.hid (fun (m : Nat) => intactLf_same k _ _ _ _ _ _ (wr.drewN m) (CopyI_kept hcv (kept_drewN (Below.refl _ _) m)) (CopyI_kept hcv2 (kept_drewN (Below.refl _ _) m)))
      clear hrc hrd hcv hcv2
      go_wp2_with fail
      go_cut [33] (fun s33 w' => s33 = .bool false ∧ Below w.heap.size w w')
      case first =>
        go_region_with ((go_at_call 27; refine (HI.out 1).mono ?_; rintro e w1 ⟨rfl, hb1⟩; have b1 := kept_trans (a := w) (kept_drewN hb 1) hb1))
        all_goals
          go_wp2_with fail
          go_meet
          case rel => exact ⟨rfl, b1⟩
      case rest =>
      obtain ⟨rfl, hbc⟩ := hcut
      go_wp2
      go_roundw
      case rel => exact ⟨j + 1, by omega, by go_num, hbc⟩
      case measure => simp [intOf]; omega
    · have : j = ks.length := by omega
      subst this
      have hee := fun (m : Nat) => HE.out (wr.drewN m) (LfsC_kept H1.out (kept_drewN hb m)) (LfsC_kept H2.out (kept_drewN hb m))
      have hx1 : ¬ (ks.length + roomL ks.length < ks.length) := by omega
      have hx3 : (ks.length : Int) ≤ (ks.length : Int) + (roomL ks.length : Int) := by omega
      have hx4 : (0 : Int) ≤ (ks.length : Int) + (roomL ks.length : Int) := by omega
      have hx5 : ((ks.length : Int) + (roomL ks.length : Int)).toNat = ks.length + roomL ks.length := by omega
      have hx6 : ks.length ≤ ks.length + roomL ks.length := by omega
      have hx7 : ks.length + roomL ks.length - ks.length = roomL ks.length := by omega
      by_cases h0 : roomL ks.length = 0
      case pos =>
        simp only [h0, if_true] at hee
        have HEE := Lib.hid hee; clear hee
        go_wp2_with fail
        go_region_with ((go_at_call 26; refine (HEE.out 1).mono ?_; rintro e w1 ⟨rfl, hb1⟩; have b1 := kept_trans (a := w) (kept_drewN hb 1) hb1))
        all_goals
          go_wp2
          go_ret
          exact ⟨rfl, b1⟩
      case neg =>
        simp only [if_neg h0] at hee
        have HEE := Lib.hid hee; clear hee
        go_wp2_with fail
        go_region_with ((go_at_call 26; refine (HEE.out 1).mono ?_; rintro e w1 ⟨rfl, hb1⟩; have b1 := kept_trans (a := w) (kept_drewN hb 1) hb1))
        all_goals
          go_wp2
          go_ret
          exact ⟨rfl, b1⟩

/-- How many steps the charts of cranes have. -/
def afS : List Lf → Nat
  | [] => 0
  | k :: ks => k.af.length + afS ks

theorem afS_step (ks : List Lf) (i : Nat) (h : i < ks.length) : afS (ks.drop i) = ks[i].af.length + afS (ks.drop (i + 1)) := by
  rw [List.drop_eq_getElem_cons h]
  rfl

theorem afS_tot (ks : List (Lf × Value)) : afS (ks.map (·.1)) ≤ totLf ks := by
  induction ks with
  | nil => simp [afS, totLf]
  | cons p ks ih =>
    simp only [List.map_cons, afS, totLf]
    omega

theorem afS_mem {ks : List Lf} {k : Lf} (h : k ∈ ks) : k.af.length ≤ afS ks := by
  induction ks with
  | nil => cases h
  | cons q ks ih =>
    simp only [afS]
    rcases List.mem_cons.1 h with rfl | h
    · omega
    · have := ih h
      omega

/-- Eight cells of a lift are stored anew. -/
abbrev setL8 (w : World) (g o : Nat) (u0 u1 u2 u3 u4 u5 u6 u7 : Value) : World := (((((((w.setCell ⟨g, o, none⟩ u0).setCell ⟨g, o + 1, none⟩ u1).setCell ⟨g, o + 2, none⟩ u2).setCell ⟨g, o + 3, none⟩ u3).setCell ⟨g, o + 4, none⟩ u4).setCell ⟨g, o + 5, none⟩ u5).setCell ⟨g, o + 6, none⟩ u6).setCell ⟨g, o + 7, none⟩ u7

theorem setL8_own {w : World} {lo e g n cap : Nat} {xs : List Value} (h : w.ownsRow lo e 9 (.slice (some ⟨g, 0, none⟩) n cap) n xs) (o : Nat) (u0 u1 u2 u3 u4 u5 u6 u7 : Value) :
    ∃ xs', (setL8 w g o u0 u1 u2 u3 u4 u5 u6 u7).ownsRow lo e 9 (.slice (some ⟨g, 0, none⟩) n cap) n xs' ∧ (∀ i, i < o ∨ o + 8 ≤ i → xs'[i]? = xs[i]?) ∧ w.grownBy (setL8 w g o u0 u1 u2 u3 u4 u5 u6 u7) (some g) := by
  have s0 := h.stored o u0
  have s1 := s0.1.stored (o + 1) u1
  have s2 := s1.1.stored (o + 2) u2
  have s3 := s2.1.stored (o + 3) u3
  have s4 := s3.1.stored (o + 4) u4
  have s5 := s4.1.stored (o + 5) u5
  have s6 := s5.1.stored (o + 6) u6
  have s7 := s6.1.stored (o + 7) u7
  refine ⟨_, s7.1, fun i hi => ?_, grown_step (grown_step (grown_step (grown_step (grown_step (grown_step (grown_step s0.2 s1.2) s2.2) s3.2) s4.2) s5.2) s6.2) s7.2⟩
  rw [List.getElem?_set_ne (by omega), List.getElem?_set_ne (by omega), List.getElem?_set_ne (by omega), List.getElem?_set_ne (by omega), List.getElem?_set_ne (by omega), List.getElem?_set_ne (by omega), List.getElem?_set_ne (by omega), List.getElem?_set_ne (by omega)]

theorem setL8_copy {w : World} {lo hi g o : Nat} {u0 u1 u2 u3 u4 u5 u6 u7 v : Value} {zs : List Int} (h : CopyI w lo hi v zs) (hb : g < lo) : CopyI (setL8 w g o u0 u1 u2 u3 u4 u5 u6 u7) lo hi v zs :=
  CopyI_set (CopyI_set (CopyI_set (CopyI_set (CopyI_set (CopyI_set (CopyI_set (CopyI_set h hb) hb) hb) hb) hb) hb) hb) hb

/-- What holds ahead of each round of marking. -/
def MarkLf (ks : List Lf) (T : List (Lf × Value)) (g cap lo hi : Nat) (w : World) (j m : Nat) (wr : World) : Prop :=
  (1 ≤ m ∧ m + 8 * (ks.length - j) + afS (ks.drop j) ≤ 12000000) ∧ (∃ xs, wr.ownsRow lo 32 9 (.slice (some ⟨g, 0, none⟩) ks.length cap) ks.length xs ∧ ∀ i (h : i < T.length), xs[i * 9 + 8]? = some T[i].2) ∧
  (∀ i (h1 : i < T.length) (h2 : i < ks.length), j ≤ i → CopyI wr (g + 1) hi T[i].2 ks[i].af) ∧ Within lo hi w wr

theorem MarkLf_step {ks : List Lf} {T : List (Lf × Value)} {g cap lo hi : Nat} {w : World} {j m : Nat} {wr w1 w2 : World} {u0 u1 u2 u3 u4 u5 u6 u7 : Value} (hT : T.length = ks.length) (hg : lo ≤ g ∧ g < hi) (hp : T.Pairwise (fun p q => blkLt p.2 q.2)) (hj : j < ks.length) (h : MarkLf ks T g cap lo hi w j m wr) (hb : Below wr.heap.size wr w1)
    (h2 : (setL8 w1 g (j * 9) u0 u1 u2 u3 u4 u5 u6 u7).grownBy w2 (some (blkOf (T[j]'(by omega)).2))) : MarkLf ks T g cap lo hi w (j + 1) (m + 8 + ks[j].af.length) w2 := by
  obtain ⟨⟨hm1, hm2⟩, ⟨xs, ho, hx⟩, hc, hw⟩ := h
  have hcj := hc j (by omega) hj (Nat.le_refl _)
  have hblk : g + 1 ≤ blkOf (T[j]'(by omega)).2 ∧ blkOf (T[j]'(by omega)).2 < hi := by
    obtain ⟨_, gj, e, hr⟩ := hcj
    rw [e]
    exact hr.2 gj rfl
  obtain ⟨xs', ho', hx', hg'⟩ := setL8_own (own_kept ho hb) (j * 9) u0 u1 u2 u3 u4 u5 u6 u7
  rw [afS_step ks j hj] at hm2
  refine ⟨⟨by omega, by omega⟩, ⟨xs', ho'.kept h2 (Or.inr ?_), fun i hi => ?_⟩, fun i h1 h3 hji => ?_, ?_⟩
  · simp only [Value.ownBlock, ne_eq, Option.some.injEq]
    omega
  · rw [hx' _ (by omega)]
    exact hx i hi
  · refine CopyI_far (setL8_copy (CopyI_kept (hc i h1 h3 (by omega)) hb) (by omega)) h2 ?_
    have := (List.pairwise_iff_getElem.1 hp) j i (by omega) h1 (by omega)
    simp only [blkLt] at this
    simp only [ne_eq, Option.some.injEq]
    omega
  · exact Within_trans hw (Within_trans (Within_below hb) (Within_trans (Within_grown hg' (fun g' e => by simp at e; omega)) (Within_grown h2 (fun g' e => by simp at e; omega))))

set_option maxHeartbeats 2000000 in
theorem markLfs_any (v : Value) (ks : List Lf) (lo hi k0 : Nat) (w : World) (h : LfsC w lo hi v ks) (hk0 : 1 ≤ k0 ∧ k0 ≤ 1000) (hsz : afS ks ≤ 1000000) :
    Calls Try.prog 28 #[v, .int .i64 k0] w fun e w' => ∃ m : Nat, e = .returned (.int .i64 (m : Int)) ∧ 1 ≤ m ∧ Within lo hi w w' := by
  obtain ⟨hn, g, T, S, rfl, hg, hT, hS, hr, hq, hf, hp⟩ := h
  have hTl : T.length = ks.length := by rw [← hT]; simp
  have hghi := hr.2 g rfl
  have hr2 := RowF_short hr (n := T.length) (by simp)
  rw [flatLf_take, hTl] at hr2
  have hstart : MarkLf ks T g (T ++ S).length lo hi w 0 k0 w := by
    refine ⟨⟨hk0.1, by simp; omega⟩, ⟨flatLf T, hr2.1, fun i hi => ?_⟩, fun i h1 h2 _ => ?_, Within_refl _ _ _⟩
    · rw [flatLf_at T i 8 hi (by omega)]
      rfl
    · have := hq T[i] (List.getElem_mem h1)
      have e : T[i].1 = ks[i] := by
        have := congrArg (·[i]?) hT
        simpa [h1, h2] using this
      rw [← e]
      exact this
  have HST := Lib.hid hstart
  have hlen : ∀ j (hj : j < ks.length), ks[j].af.length ≤ 1000000 := fun j hj => by have := afS_mem (List.getElem_mem hj); omega
  have HP := Lib.hid hp
  clear hstart hr hr2 hq hf hp hS hT
  generalize (T ++ S).length = cap at *
  go_enter Try.func28, Try.ntmps28
  go_wp2_with fail
  go_loopw [1, 5] (fun q i wr => ∃ j m : Nat, j ≤ ks.length ∧ i = .int .i64 (j : Int) ∧ q = .int .i64 (m : Int) ∧ MarkLf ks T g cap lo hi w j m wr) (fun _ i _ => ks.length - (intOf i).toNat)
  case atStart => exact ⟨0, k0, by omega, rfl, rfl, HST.out⟩
  case round =>
    obtain ⟨j, m, hj, rfl, rfl, hM⟩ := hrel
    have HM := Lib.hid hM
    obtain ⟨⟨hm1, hm2⟩, ⟨xs, ho, hx⟩, hc, _⟩ := hM
    by_cases hlt : j < ks.length
    · have hlj := hlen j hlt
      have hxl : xs.length = ks.length * 9 := ho.1
      have at_ : ∀ d, d < 9 → ∃ u, wr.cell? ⟨g, j * 9 + d, none⟩ = some u := fun d hd => by
        rw [ho.cellAt _ (by omega)]
        exact ⟨_, List.getElem?_eq_getElem (by omega)⟩
      obtain ⟨u0, a0⟩ := at_ 0 (by omega)
      obtain ⟨u1, a1⟩ := at_ 1 (by omega)
      obtain ⟨u2, a2⟩ := at_ 2 (by omega)
      obtain ⟨u3, a3⟩ := at_ 3 (by omega)
      obtain ⟨u4, a4⟩ := at_ 4 (by omega)
      obtain ⟨u5, a5⟩ := at_ 5 (by omega)
      obtain ⟨u6, a6⟩ := at_ 6 (by omega)
      obtain ⟨u7, a7⟩ := at_ 7 (by omega)
      have z0 := ho.frozenAt (j * 9)
      have z1 := ho.frozenAt (j * 9 + 1)
      have z2 := ho.frozenAt (j * 9 + 2)
      have z3 := ho.frozenAt (j * 9 + 3)
      have z4 := ho.frozenAt (j * 9 + 4)
      have z5 := ho.frozenAt (j * 9 + 5)
      have z6 := ho.frozenAt (j * 9 + 6)
      have z7 := ho.frozenAt (j * 9 + 7)
      have hcj := hc j (by omega) hlt (Nat.le_refl _)
      have hgl : g < wr.heap.size := (ho.lt g rfl).2
      have a8 : wr.cell? ⟨g, j * 9 + 8, none⟩ = some T[j].2 := by rw [ho.cellAt _ (by omega)]; exact hx j (by omega)
      have HC := Lib.hid hcj
      obtain ⟨_, gj, ec, _⟩ := hcj
      rw [ec] at a8
      have HMK := Lib.hid (fun u (x : CopyI u (g + 1) hi (.slice (some ⟨gj, 0, none⟩) ks[j].af.length (copyI ks[j].af).length) ks[j].af) => markIntsX_any _ ks[j].af (g + 1) hi (m + 8) u (CopyI_row x) (by omega) (by omega))
      have HMT := Lib.hid (fun u => markText_any m hm1 (by omega) u)
      have EC := Lib.hid ec
      clear ec ho hx hc at_
      generalize markT m = mt at *
      go_wp2_with fail
      refine (HMT.out _).mono ?_
      rintro e w1 ⟨rfl, hb1⟩
      have b1 : Below wr.heap.size wr w1 := kept_trans (a := wr) (by go_grown) hb1
      rw [← kept_cell b1 g _ hgl] at a0 a1 a2 a3 a4 a5 a6 a7 a8
      rw [← kept_frozen b1 g _ hgl] at z0 z1 z2 z3 z4 z5 z6 z7
      simp only [Nat.add_zero] at a0
      go_wp2_with fail
      have hcc := CopyI_kept HC.out b1
      rw [EC.out] at hcc
      have em : (m : Int) + 1 + 1 + 1 + 1 + 1 + 1 + 1 + 1 = ((m + 8 : Nat) : Int) := by omega
      rw [em]
      refine (HMK.out _ (setL8_copy (g := g) (o := j * 9) hcc (by omega))).mono ?_
      rintro e w2 ⟨rfl, _, hg2⟩
      have hI := MarkLf_step hTl hghi HP.out hlt HM.out b1 (by rw [EC.out]; exact hg2)
      clear hg2 hcc a0 a1 a2 a3 a4 a5 a6 a7 a8 z0 z1 z2 z3 z4 z5 z6 z7
      go_wp2
      go_roundw
      case rel => exact ⟨j + 1, m + 8 + ks[j].af.length, by omega, by go_num, by simp, hI⟩
      case measure => simp [intOf]; omega
    · have : j = ks.length := by omega
      subst this
      go_wp2
      go_ret
      exact ⟨m, rfl, hm1, HM.out.2.2.2⟩

/-- Cells that read as a slice of numbers. -/
theorem open_i64C {H : Type} {enc : TypeId × Value → H} {P : Program} {W : World} {t e : TypeId} {base fuel : Nat} {sp : Nat → Bool} {held : Bool} {cs : List Value} {z : DataW H × List MemPlace}
    (ht : P.underlying t = some (.slice e)) (he : P.underlying e = some (.int .i64)) (hc : P.cellsOf e = 1) (h : DataW.trod enc P W base sp held fuel t cs = some z) :
    ∃ (v : Value) (zs : List Int), cs = [v] ∧ RdI W v zs := by
  rcases Deep.open_slice1 ht hc h with ⟨hcs, hx⟩ | ⟨a, len, cap, m, n', V, D, Pl, hcs, _, hl, hm, hmm, hx, hi⟩
  · exact ⟨_, [], hcs, rdI0' W⟩
  · have hlm : len ≤ m := by rw [hmm]; split <;> omega
    have each : ∀ i, i < len → ∃ q : Int, V i = .int .i64 q := by
      intro i hlt
      obtain ⟨_, g0⟩ := hi i (by omega)
      obtain ⟨x, e0, _, _⟩ := DataW.trod_int he g0
      simp at e0
      exact ⟨x, e0⟩
    obtain ⟨q, hq⟩ := Deep.choose_lt each
    obtain ⟨b, off, spot⟩ := a
    refine ⟨_, (List.range len).map q, hcs, by simp; unfold maxLen at hm; omega, some ⟨b, off, spot⟩, cap, by simp, fun j hj => ?_⟩
    simp only [List.length_map, List.length_range] at hj
    obtain ⟨h0, _⟩ := hi j (by omega)
    have hspot : spot = none := by simpa [Addr.add] using World.cell?_spot (hi 0 (by omega)).1
    subst hspot
    rw [add_plain, hq j hj] at h0
    exact ⟨b, off, rfl, World.block_lt_of_cell? _ _ h0, by rw [h0]; simp⟩

set_option maxRecDepth 100000 in
/-- Cells that read as a lift. -/
theorem open_liftC {H : Type} {enc : TypeId × Value → H} {W : World} {base fuel : Nat} {sp : Nat → Bool} {held : Bool} {cs : List Value} {z : DataW H × List MemPlace}
    (h : DataW.trod enc Try.prog W base sp held fuel 45 cs = some z) : ∃ (k : Lf) (c : Value), cs = encLf (k, c) ∧ RdI W c k.af ∧ wfLf k := by
  obtain ⟨xs, n, _, _, hl, hlen, hf⟩ := DataW.trod_struct Try.underlying45 h
  have hl9 : cs.length = 9 := hl.trans (by kernel_rfl)
  have h0 : DataW.trod enc Try.prog W base sp held n 9 ((cs.drop 0).take (Try.prog.cellsOf 9)) = xs[0]? := hf 0 _ rfl
  have h1 : DataW.trod enc Try.prog W base sp held n 2 ((cs.drop 1).take (Try.prog.cellsOf 2)) = xs[1]? := hf 1 _ rfl
  have h2 : DataW.trod enc Try.prog W base sp held n 43 ((cs.drop 2).take (Try.prog.cellsOf 43)) = xs[2]? := hf 2 _ rfl
  have h3 : DataW.trod enc Try.prog W base sp held n 43 ((cs.drop 4).take (Try.prog.cellsOf 43)) = xs[3]? := hf 3 _ rfl
  have h4 : DataW.trod enc Try.prog W base sp held n 2 ((cs.drop 6).take (Try.prog.cellsOf 2)) = xs[4]? := hf 4 _ rfl
  have h5 : DataW.trod enc Try.prog W base sp held n 2 ((cs.drop 7).take (Try.prog.cellsOf 2)) = xs[5]? := hf 5 _ rfl
  have h6 : DataW.trod enc Try.prog W base sp held n 30 ((cs.drop 8).take (Try.prog.cellsOf 30)) = xs[6]? := hf 6 _ rfl
  have z0 : Try.prog.cellsOf 9 = 1 := by kernel_rfl
  have z1 : Try.prog.cellsOf 43 = 2 := by kernel_rfl
  have z2 : Try.prog.cellsOf 2 = 1 := by kernel_rfl
  have z3 : Try.prog.cellsOf 30 = 1 := by kernel_rfl
  match cs, hl9 with
  | [c0, c1, c2, c3, c4, c5, c6, c7, c8], _ =>
    have i0 : xs[0]? = some (xs[0]'(by rw [hlen]; decide)) := List.getElem?_eq_getElem _
    have i1 : xs[1]? = some (xs[1]'(by rw [hlen]; decide)) := List.getElem?_eq_getElem _
    have i2 : xs[2]? = some (xs[2]'(by rw [hlen]; decide)) := List.getElem?_eq_getElem _
    have i3 : xs[3]? = some (xs[3]'(by rw [hlen]; decide)) := List.getElem?_eq_getElem _
    have i4 : xs[4]? = some (xs[4]'(by rw [hlen]; decide)) := List.getElem?_eq_getElem _
    have i5 : xs[5]? = some (xs[5]'(by rw [hlen]; decide)) := List.getElem?_eq_getElem _
    have i6 : xs[6]? = some (xs[6]'(by rw [hlen]; decide)) := List.getElem?_eq_getElem _
    simp only [i0, i1, i2, i3, i4, i5, i6, z0, z1, z2, z3, List.drop_succ_cons, List.drop_zero, List.take_succ_cons, List.take_zero] at h0 h1 h2 h3 h4 h5 h6
    obtain ⟨s, e0, _, ws⟩ := DataW.trod_string Try.underlying9 h0
    obtain ⟨a1, e1, _, w1⟩ := DataW.trod_int Try.underlying2 h1
    obtain ⟨Y0p, Y1p, mp, _, _, p0', p1'⟩ := trod_struct2 Try.underlying43 h2
    have p0 : DataW.trod enc Try.prog W base sp held mp 2 (([c2, c3].drop 0).take (Try.prog.cellsOf 2)) = some Y0p := p0'
    have p1 : DataW.trod enc Try.prog W base sp held mp 2 (([c2, c3].drop 1).take (Try.prog.cellsOf 2)) = some Y1p := p1'
    simp only [z2, List.drop_succ_cons, List.drop_zero, List.take_succ_cons, List.take_zero] at p0 p1
    obtain ⟨Y0q, Y1q, mq, _, _, q0', q1'⟩ := trod_struct2 Try.underlying43 h3
    have q0 : DataW.trod enc Try.prog W base sp held mq 2 (([c4, c5].drop 0).take (Try.prog.cellsOf 2)) = some Y0q := q0'
    have q1 : DataW.trod enc Try.prog W base sp held mq 2 (([c4, c5].drop 1).take (Try.prog.cellsOf 2)) = some Y1q := q1'
    simp only [z2, List.drop_succ_cons, List.drop_zero, List.take_succ_cons, List.take_zero] at q0 q1
    obtain ⟨a2, e2, _, w2⟩ := DataW.trod_int Try.underlying2 p0
    obtain ⟨a3, e3, _, w3⟩ := DataW.trod_int Try.underlying2 p1
    obtain ⟨a4, e4, _, w4⟩ := DataW.trod_int Try.underlying2 q0
    obtain ⟨a5, e5, _, w5⟩ := DataW.trod_int Try.underlying2 q1
    obtain ⟨a6, e6, _, w6⟩ := DataW.trod_int Try.underlying2 h4
    obtain ⟨a7, e7, _, w7⟩ := DataW.trod_int Try.underlying2 h5
    obtain ⟨c, zs, e8, hr⟩ := open_i64C Try.underlying30 Try.underlying2 (by kernel_rfl) h6
    simp only [List.cons.injEq, and_true] at e0 e1 e2 e3 e4 e5 e6 e7 e8
    subst e0 e1 e2 e3 e4 e5 e6 e7 e8
    exact ⟨⟨s, a1, a2, a3, a4, a5, a6, a7, zs⟩, _, rfl, hr, ws, w1, w2, w3, w4, w5, w6, w7⟩

/-- What is known of an argument's cranes. -/
def wfLfs (ks : List (Lf × Value)) : Prop := (∀ p ∈ ks, wfLf p.1) ∧ ks.length ≤ maxLen

set_option maxRecDepth 100000 in
/-- Cells that read as a slice of cranes. -/
theorem open_liftsC {H : Type} {enc : TypeId × Value → H} {W : World} {base fuel : Nat} {sp : Nat → Bool} {held : Bool} {cs : List Value} {z : DataW H × List MemPlace}
    (h : DataW.trod enc Try.prog W base sp held fuel 36 cs = some z) : ∃ (v : Value) (ks : List (Lf × Value)), cs = [v] ∧ RdLf W v ks ∧ wfLfs ks ∧ DataLen z.1 ks.length := by
  rcases Deep.open_slice Try.underlying36 h with ⟨hcs, hx⟩ | ⟨a, len, cap, m, n, D, Pl, hcs, _, hl, hm, hmm, hx, hi⟩
  · exact ⟨_, [], hcs, ⟨⟨by simp, rfl, none, 0, rfl, fun i hi => by simp at hi⟩, fun p h => by cases h⟩, ⟨(fun p h => by cases h), by simp⟩, Or.inl ⟨by rw [hx], rfl⟩⟩
  · have hlm : len ≤ m := by rw [hmm]; split <;> omega
    have ce : Try.prog.cellsOf 45 = 9 := by kernel_rfl
    have each : ∀ i, i < len → ∃ q : Option (Lf × Value), ∃ p, q = some p ∧ W.cells? base (a.add (i * 9)) 9 = some (encLf p) ∧ RdI W p.2 p.1.af ∧ wfLf p.1 := by
      intro i hlt
      obtain ⟨cs', g0, g1⟩ := hi i (by omega)
      obtain ⟨k, c, e, hr, wk⟩ := open_liftC g1
      rw [ce, e] at g0
      exact ⟨some (k, c), (k, c), rfl, g0, hr, wk⟩
    obtain ⟨q, hq⟩ := Deep.choose_lt each
    have each2 : ∀ i, i < len → (q i).isSome = true := fun i hi => by obtain ⟨p, e, _⟩ := hq i hi; rw [e]; rfl
    obtain ⟨b, off, spot⟩ := a
    let ks : List (Lf × Value) := (List.range len).attach.map fun i => (q i.1).get (each2 i.1 (List.mem_range.1 i.2))
    have hkl : ks.length = len := by simp [ks]
    have hks : ∀ i (hi : i < ks.length), ∃ p, ks[i] = p ∧ q i = some p := by
      intro i hi
      refine ⟨ks[i], rfl, ?_⟩
      simp [ks]
    refine ⟨_, ks, hcs, ⟨⟨by rw [hkl]; unfold maxLen at hm; omega, by rw [flatLf_len], some ⟨b, off, spot⟩, cap, by rw [hkl], fun j hj => ?_⟩, ?_⟩, ⟨?_, by rw [hkl]; omega⟩, Or.inr ⟨_, _, by rw [hx], by rw [hkl]; simp⟩⟩
    · rw [hkl] at hj
      obtain ⟨p, e, hc, _⟩ := hq (j / 9) (by omega)
      obtain ⟨p', e', e2⟩ := hks (j / 9) (by omega)
      rw [e] at e2
      cases e2
      obtain ⟨_, _, hcell⟩ := World.cells?_some hc
      have hspot : spot = none := by
        obtain ⟨p0, _, hc0, _⟩ := hq 0 (by omega)
        obtain ⟨_, _, hcell0⟩ := World.cells?_some hc0
        have := hcell0 0 (by omega)
        rw [show (encLf p0)[0]? = some (.string p0.1.nm) from rfl] at this
        simpa [Addr.add] using World.cell?_spot this
      subst hspot
      have h9 := hcell (j % 9) (by omega)
      rw [add_plain, add_plain, ← e'] at h9
      rw [← flatLf_at ks (j / 9) (j % 9) (by omega) (by omega), show j / 9 * 9 + j % 9 = j by omega, Nat.add_assoc, show j / 9 * 9 + j % 9 = j by omega] at h9
      refine ⟨b, off, rfl, ?_, h9⟩
      have hx : (flatLf ks)[j]? = some ((flatLf ks)[j]'(by rw [flatLf_len]; omega)) := List.getElem?_eq_getElem _
      rw [hx] at h9
      exact World.block_lt_of_cell? _ _ h9
    · intro p hp
      obtain ⟨i, hi, rfl⟩ := List.mem_iff_getElem.1 hp
      obtain ⟨p, e, e2⟩ := hks i hi
      obtain ⟨p', e', _, hr, _⟩ := hq i (by omega)
      rw [e'] at e2
      cases e2
      rw [e]
      exact hr
    · intro p hp
      obtain ⟨i, hi, rfl⟩ := List.mem_iff_getElem.1 hp
      obtain ⟨p, e, e2⟩ := hks i hi
      obtain ⟨p', e', _, hr, hw⟩ := hq i (by omega)
      rw [e'] at e2
      cases e2
      rw [e]
      exact hw

set_option maxRecDepth 100000 in
/-- An argument that is a slice of lifts. -/
theorem open_lifts {H : Type} {enc : TypeId × Value → H} {W : World} {base : Nat} {v : Value} {d : DataW H} {p : List MemPlace}
    (hv : Value.okWide Try.prog W .any base 36 v) (h : DataW.Trod enc Try.prog W 0 (fun _ => true) true 36 v d p) :
    ∃ ks : List (Lf × Value), RdLf W v ks ∧ wfLfs ks ∧ DataLen d ks.length := by
  obtain ⟨A, n, c, rfl⟩ := okWide_slice Try.underlying36 hv
  obtain ⟨fuel, hf⟩ := h
  obtain ⟨v', ks, e, hr, hw, hd⟩ := open_liftsC (show DataW.trod enc Try.prog W 0 (fun _ => true) true fuel 36 [.slice A n c] = some (d, p) from by simpa [Value.cells] using hf)
  simp only [List.cons.injEq, and_true] at e
  subst e
  exact ⟨ks, hr, hw, hd⟩

theorem totLf_mem {ks : List (Lf × Value)} {p : Lf × Value} (h : p ∈ ks) : p.1.nm.size + p.1.af.length ≤ totLf ks := by
  induction ks with
  | nil => cases h
  | cons q ks ih =>
    simp only [totLf]
    rcases List.mem_cons.1 h with rfl | h
    · omega
    · have := ih h
      omega

/-- The slice value reads as a list of lifts, and has room for them. -/
def RdM (w : World) (v : Value) (ms : List Lf) : Prop := ∃ T : List (Lf × Value), RdLf w v T ∧ T.map (·.1) = ms ∧ ∃ A c, v = .slice A ms.length c ∧ ms.length ≤ c

theorem RdM_kept {W w1 : World} {v : Value} {ms : List Lf} (h : RdM W v ms) (hb : Below W.heap.size W w1) : RdM w1 v ms := by
  obtain ⟨T, hr, hm, hc⟩ := h
  exact ⟨T, RdLf_kept hr hb, hm, hc⟩

theorem RdM_at {w : World} {v : Value} {ms : List Lf} (h : RdM w v ms) : ∃ A c, v = .slice A ms.length c ∧ ms.length ≤ c ∧ ms.length ≤ 9223372036854775807 ∧
    ∀ i, (hi : i < ms.length) → ∃ b off cv, A = some ⟨b, off, none⟩ ∧ LfAt w b (off + i * 9) ms[i] cv := by
  obtain ⟨T, hr, rfl, A, c, rfl, hc⟩ := h
  obtain ⟨A', c', e, hl, r⟩ := RdLf_at hr
  injection e with e1 e2 e3
  subst e1 e3
  refine ⟨A, c, rfl, hc, by simpa using hl, fun i hi => ?_⟩
  have hi' : i < T.length := by simpa using hi
  obtain ⟨b, off, e, h⟩ := r i hi'
  exact ⟨b, off, T[i].2, e, by simpa using h⟩

theorem RdM_copy {w : World} {lo hi : Nat} {v : Value} {ms : List Lf} (h : LfsC w lo hi v ms) : RdM w v ms := by
  obtain ⟨T, hR, hT⟩ := LfsC_rd h
  obtain ⟨g, _, _, e, _⟩ := LfsC_open h
  exact ⟨T, hR, hT, _, _, e, by omega⟩

theorem RdM_bare {w : World} {lo hi : Nat} {v : Value} {ms : List Lf} (h : LfsQ rowAQ (fun _ _ => True) w lo hi v ms) : RdM w v ms := by
  obtain ⟨T, hR, hT⟩ := LfsQ_rd (fun _ _ _ _ _ h => RowI_rd h) h
  obtain ⟨_, g, T0, S0, hv, _, hT0, _⟩ := h
  exact ⟨T, hR, hT, _, _, hv, by rw [← hT0]; simp⟩

theorem RdM_nil (w : World) : RdM w (.slice none 0 0) [] := ⟨[], ⟨⟨by simp, rfl, none, 0, rfl, fun i hi => by simp at hi⟩, fun p hp => by cases hp⟩, rfl, none, 0, rfl, Nat.le_refl _⟩

theorem toM_true (v : Value) (ks : List (Lf × Value)) (w : World) (h : RdLf w v ks) (hn : ks.length ≤ 1000000) (hch : ∀ p ∈ ks, p.1.af.length ≤ 1000000) :
    Calls Try.prog 18 #[v, .bool true] w fun e w' => ∃ v', e = .returned v' ∧ RdM w' v' (ks.map (·.1)) ∧ Below w.heap.size w w' :=
  (toLfs_true v ks w h hn hch).mono fun e w' ⟨v', he, hc, hb⟩ => ⟨v', he, by
    rcases hc with ⟨rfl, rfl⟩ | hc
    · exact RdM_nil _
    · exact RdM_bare hc, hb⟩

theorem specSameI_any (v1 v2 : Value) (za zb : List Int) (w : World) (h1 : RdI w v1 za) (h2 : RdI w v2 zb) :
    Calls Try.prog 108 #[v1, v2] w fun e w' => e = .returned (.bool (decide (za = zb))) ∧ Below w.heap.size w w' := by
  obtain ⟨A1, cp1, rfl, hl1, r1⟩ := RdI_slice h1
  obtain ⟨A2, cp2, rfl, hl2, r2⟩ := RdI_slice h2
  clear h1 h2
  by_cases hlen : za.length = zb.length
  · have R1 := Lib.hid r1; clear r1
    have R2 := Lib.hid r2; clear r2
    have HBAD := Lib.hid (show ∀ i (h1 : i < za.length) (h2 : i < zb.length), ¬ za[i] = zb[i] → decide (za = zb) = false from fun i h1 h2 hno => by
      simp only [decide_eq_false_iff_not]
      intro he
      subst he
      exact hno rfl)
    have HEND := Lib.hid (show (∀ i (h1 : i < za.length) (h2 : i < zb.length), i < za.length → za[i] = zb[i]) → decide (za = zb) = true from fun h => by
      simp only [decide_eq_true_eq]
      exact List.ext_getElem hlen (fun i h1 h2 => h i h1 h2 h1))
    generalize decide (za = zb) = G at *
    have HLEN := Lib.hid hlen
    rw [← hlen]
    clear hlen
    go_enter Try.func108, Try.ntmps108
    go_wp2_with fail
    go_loopw [5] (fun i wr => ∃ k : Nat, k ≤ za.length ∧ i = .int .i64 (k : Int) ∧ (∀ i (h1 : i < za.length) (h2 : i < zb.length), i < k → za[i] = zb[i]) ∧ Below w.heap.size w wr) (fun i _ => za.length - (intOf i).toNat)
    case atStart => exact ⟨0, by omega, rfl, fun i _ _ h => by omega, Below.refl _ _⟩
    case round =>
      obtain ⟨k, hk, rfl, hall, hb⟩ := hrel
      by_cases hlt : k < za.length
      · have hlt2 : k < zb.length := by have := HLEN.out; omega
        obtain ⟨b, off, rfl, hbl, c0⟩ := R1.out k hlt
        obtain ⟨b2, off2, rfl, hbl2, d0⟩ := R2.out k hlt2
        rw [← kept_cell hb b _ hbl] at c0
        rw [← kept_cell hb b2 _ hbl2] at d0
        have f0 := fun x : BelowBy wr => (kept_cell x.h b _ (Nat.lt_of_lt_of_le hbl hb.size)).trans c0
        have f1 := fun x : BelowBy wr => (kept_cell x.h b2 _ (Nat.lt_of_lt_of_le hbl2 hb.size)).trans d0
        clear c0 d0
        have hbd := HBAD.out k hlt hlt2
        have hnx : za[k] = zb[k] → ∀ i (h1 : i < za.length) (h2 : i < zb.length), i < k + 1 → za[i] = zb[i] := fun he i h1 h2 hik => by
          rcases Nat.lt_or_ge i k with h3 | h3
          · exact hall i h1 h2 h3
          · obtain rfl : i = k := by omega
            exact he
        clear hall
        by_cases e1 : za[k] = zb[k]
        · have HNX := Lib.hid (hnx e1)
          rw [← e1] at f1
          clear e1 hnx hbd
          generalize za[k] = x at *
          go_wp2_with fail
          refine wp_region_below (by kernel_rfl) (by kernel_rfl) ?_
          repeat (go_big_quiet_step ((fail)))
          refine wpQuiet_nil ?_
          intro wq hw'
          obtain ⟨⟨_, hbq⟩, hwq⟩ := hw'
          subst hwq
          (try dsimp only)
          go_wp2
          go_roundw
          case rel => exact ⟨k + 1, by omega, by go_num, HNX.out, kept_trans hb hbq⟩
          case measure => simp [intOf]; omega
        · have hG := hbd e1
          subst hG
          have hne : (za[k] == zb[k]) = false := by simpa using e1
          clear hnx hbd
          generalize za[k] = x at *
          generalize zb[k] = y at *
          go_wp2_with fail
          refine wp_region_below (by kernel_rfl) (by kernel_rfl) ?_
          repeat (go_big_quiet_step ((fail)))
          refine wpQuiet_nil ?_
          intro wq hw'
          obtain ⟨⟨_, hbq⟩, hwq⟩ := hw'
          subst hwq
          (try dsimp only)
          go_wp2
          go_ret
          exact ⟨rfl, kept_trans hb hbq⟩
      · have : k = za.length := by omega
        subst this
        have hE := HEND.out hall
        clear hall
        subst hE
        go_wp2
        go_ret
        exact ⟨rfl, hb⟩
  · have hne : ((za.length : Int) == (zb.length : Int)) = false := by rw [beq_eq_false_iff_ne]; omega
    rw [show decide (za = zb) = false by simp; intro e; subst e; exact hlen rfl]
    clear r1 r2
    go_enter Try.func108, Try.ntmps108
    go_wp2
    go_ret
    exact ⟨rfl, Below.refl _ _⟩

theorem implSameI_any (v1 v2 : Value) (za zb : List Int) (w : World) (h1 : RdI w v1 za) (h2 : RdI w v2 zb) :
    Calls Try.prog 91 #[v1, v2] w fun e w' => e = .returned (.bool (decide (za = zb))) ∧ Below w.heap.size w w' := by
  obtain ⟨A1, cp1, rfl, hl1, r1⟩ := RdI_slice h1
  obtain ⟨A2, cp2, rfl, hl2, r2⟩ := RdI_slice h2
  clear h1 h2
  by_cases hlen : za.length = zb.length
  · have R1 := Lib.hid r1; clear r1
    have R2 := Lib.hid r2; clear r2
    have HBAD := Lib.hid (show ∀ i (h1 : i < za.length) (h2 : i < zb.length), ¬ za[i] = zb[i] → decide (za = zb) = false from fun i h1 h2 hno => by
      simp only [decide_eq_false_iff_not]
      intro he
      subst he
      exact hno rfl)
    have HEND := Lib.hid (show (∀ i (h1 : i < za.length) (h2 : i < zb.length), i < za.length → za[i] = zb[i]) → decide (za = zb) = true from fun h => by
      simp only [decide_eq_true_eq]
      exact List.ext_getElem hlen (fun i h1 h2 => h i h1 h2 h1))
    generalize decide (za = zb) = G at *
    have HLEN := Lib.hid hlen
    rw [← hlen]
    clear hlen
    go_enter Try.func91, Try.ntmps91
    go_wp2_with fail
    go_loopw [13] (fun i wr => ∃ k : Nat, k ≤ za.length ∧ i = .int .i64 (k : Int) ∧ (∀ i (h1 : i < za.length) (h2 : i < zb.length), i < k → za[i] = zb[i]) ∧ Below w.heap.size w wr) (fun i _ => za.length - (intOf i).toNat)
    case atStart => exact ⟨0, by omega, rfl, fun i _ _ h => by omega, Below.refl _ _⟩
    case round =>
      obtain ⟨k, hk, rfl, hall, hb⟩ := hrel
      by_cases hlt : k < za.length
      · have hlt2 : k < zb.length := by have := HLEN.out; omega
        obtain ⟨b, off, rfl, hbl, c0⟩ := R1.out k hlt
        obtain ⟨b2, off2, rfl, hbl2, d0⟩ := R2.out k hlt2
        rw [← kept_cell hb b _ hbl] at c0
        rw [← kept_cell hb b2 _ hbl2] at d0
        have f0 := fun x : BelowBy wr => (kept_cell x.h b _ (Nat.lt_of_lt_of_le hbl hb.size)).trans c0
        have f1 := fun x : BelowBy wr => (kept_cell x.h b2 _ (Nat.lt_of_lt_of_le hbl2 hb.size)).trans d0
        clear c0 d0
        have hbd := HBAD.out k hlt hlt2
        have hnx : za[k] = zb[k] → ∀ i (h1 : i < za.length) (h2 : i < zb.length), i < k + 1 → za[i] = zb[i] := fun he i h1 h2 hik => by
          rcases Nat.lt_or_ge i k with h3 | h3
          · exact hall i h1 h2 h3
          · obtain rfl : i = k := by omega
            exact he
        clear hall
        by_cases e1 : za[k] = zb[k]
        · have HNX := Lib.hid (hnx e1)
          rw [← e1] at f1
          clear e1 hnx hbd
          generalize za[k] = x at *
          go_wp2_with fail
          refine wp_region_below (by kernel_rfl) (by kernel_rfl) ?_
          repeat (go_big_quiet_step ((fail)))
          refine wpQuiet_nil ?_
          intro wq hw'
          obtain ⟨⟨_, hbq⟩, hwq⟩ := hw'
          subst hwq
          (try dsimp only)
          go_wp2
          go_roundw
          case rel => exact ⟨k + 1, by omega, by go_num, HNX.out, kept_trans hb hbq⟩
          case measure => simp [intOf]; omega
        · have hG := hbd e1
          subst hG
          have hne : (za[k] == zb[k]) = false := by simpa using e1
          clear hnx hbd
          generalize za[k] = x at *
          generalize zb[k] = y at *
          go_wp2_with fail
          refine wp_region_below (by kernel_rfl) (by kernel_rfl) ?_
          repeat (go_big_quiet_step ((fail)))
          refine wpQuiet_nil ?_
          intro wq hw'
          obtain ⟨⟨_, hbq⟩, hwq⟩ := hw'
          subst hwq
          (try dsimp only)
          go_wp2
          go_ret
          exact ⟨rfl, kept_trans hb hbq⟩
      · have : k = za.length := by omega
        subst this
        have hE := HEND.out hall
        clear hall
        subst hE
        go_wp2
        go_ret
        exact ⟨rfl, hb⟩
  · have hne : ((za.length : Int) == (zb.length : Int)) = false := by rw [beq_eq_false_iff_ne]; omega
    rw [show decide (za = zb) = false by simp; intro e; subst e; exact hlen rfl]
    clear r1 r2
    go_enter Try.func91, Try.ntmps91
    go_wp2
    go_ret
    exact ⟨rfl, Below.refl _ _⟩

open Classical in
noncomputable def sameLfB (a b : Lf) : Bool := decide (a = b)

theorem sameLfB_cases (a b : Lf) : (¬ a.nm = b.nm ∧ sameLfB a b = false) ∨ (a.nm = b.nm ∧ ¬ a.wt = b.wt ∧ sameLfB a b = false) ∨ (a.nm = b.nm ∧ a.wt = b.wt ∧ ¬ a.fx = b.fx ∧ sameLfB a b = false) ∨ (a.nm = b.nm ∧ a.wt = b.wt ∧ a.fx = b.fx ∧ ¬ a.fy = b.fy ∧ sameLfB a b = false) ∨ (a.nm = b.nm ∧ a.wt = b.wt ∧ a.fx = b.fx ∧ a.fy = b.fy ∧ ¬ a.tx = b.tx ∧ sameLfB a b = false) ∨ (a.nm = b.nm ∧ a.wt = b.wt ∧ a.fx = b.fx ∧ a.fy = b.fy ∧ a.tx = b.tx ∧ ¬ a.ty = b.ty ∧ sameLfB a b = false) ∨ (a.nm = b.nm ∧ a.wt = b.wt ∧ a.fx = b.fx ∧ a.fy = b.fy ∧ a.tx = b.tx ∧ a.ty = b.ty ∧ ¬ a.h = b.h ∧ sameLfB a b = false) ∨ (a.nm = b.nm ∧ a.wt = b.wt ∧ a.fx = b.fx ∧ a.fy = b.fy ∧ a.tx = b.tx ∧ a.ty = b.ty ∧ a.h = b.h ∧ ¬ a.dl = b.dl ∧ sameLfB a b = false) ∨ (a.nm = b.nm ∧ a.wt = b.wt ∧ a.fx = b.fx ∧ a.fy = b.fy ∧ a.tx = b.tx ∧ a.ty = b.ty ∧ a.h = b.h ∧ a.dl = b.dl ∧ sameLfB a b = decide (a.af = b.af)) := by
  obtain ⟨s, x1, x2, x3, x4, x5, x6, x7, zs⟩ := a
  obtain ⟨s2, y1, y2, y3, y4, y5, y6, y7, zs2⟩ := b
  simp only [sameLfB, Lf.mk.injEq]
  by_cases e0 : s = s2 <;> by_cases e1 : x1 = y1 <;> by_cases e2 : x2 = y2 <;> by_cases e3 : x3 = y3 <;> by_cases e4 : x4 = y4 <;> by_cases e5 : x5 = y5 <;> by_cases e6 : x6 = y6 <;> by_cases e7 : x7 = y7 <;> simp [*]

set_option maxHeartbeats 4000000 in
theorem specSameLf_any (b1 o1 b2 o2 : Nat) (k1 k2 : Lf) (c1 c2 : Value) (w : World) (h1 : LfAt w b1 o1 k1 c1) (h2 : LfAt w b2 o2 k2 c2) :
    Calls Try.prog 90 #[.pointer (some ⟨b1, o1, none⟩), .pointer (some ⟨b2, o2, none⟩)] w fun e w' => e = .returned (.bool (sameLfB k1 k2)) ∧ Below w.heap.size w w' := by
  obtain ⟨hb1, ⟨p0, p1, p2, p3, p4, p5, p6, p7, p8⟩, hr1⟩ := h1
  obtain ⟨hb2, ⟨q0, q1, q2, q3, q4, q5, q6, q7, q8⟩, hr2⟩ := h2
  have HS := Lib.hid (fun (u : World) (hb : Below w.heap.size w u) => specSameI_any _ _ k1.af k2.af u (RdI_kept hr1 hb) (RdI_kept hr2 hb))
  obtain ⟨A1, cp1, rfl, _, _⟩ := RdI_slice hr1
  obtain ⟨A2, cp2, rfl, _, _⟩ := RdI_slice hr2
  clear hr1 hr2
  have p0f := fun x : BelowBy w => (kept_cell x.h b1 _ hb1).trans p0
  have p1f := fun x : BelowBy w => (kept_cell x.h b1 _ hb1).trans p1
  have p2f := fun x : BelowBy w => (kept_cell x.h b1 _ hb1).trans p2
  have p3f := fun x : BelowBy w => (kept_cell x.h b1 _ hb1).trans p3
  have p4f := fun x : BelowBy w => (kept_cell x.h b1 _ hb1).trans p4
  have p5f := fun x : BelowBy w => (kept_cell x.h b1 _ hb1).trans p5
  have p6f := fun x : BelowBy w => (kept_cell x.h b1 _ hb1).trans p6
  have p7f := fun x : BelowBy w => (kept_cell x.h b1 _ hb1).trans p7
  have p8f := fun x : BelowBy w => (kept_cell x.h b1 _ hb1).trans p8
  have q0f := fun x : BelowBy w => (kept_cell x.h b2 _ hb2).trans q0
  have q1f := fun x : BelowBy w => (kept_cell x.h b2 _ hb2).trans q1
  have q2f := fun x : BelowBy w => (kept_cell x.h b2 _ hb2).trans q2
  have q3f := fun x : BelowBy w => (kept_cell x.h b2 _ hb2).trans q3
  have q4f := fun x : BelowBy w => (kept_cell x.h b2 _ hb2).trans q4
  have q5f := fun x : BelowBy w => (kept_cell x.h b2 _ hb2).trans q5
  have q6f := fun x : BelowBy w => (kept_cell x.h b2 _ hb2).trans q6
  have q7f := fun x : BelowBy w => (kept_cell x.h b2 _ hb2).trans q7
  have q8f := fun x : BelowBy w => (kept_cell x.h b2 _ hb2).trans q8
  clear p0 p1 p2 p3 p4 p5 p6 p7 p8 q0 q1 q2 q3 q4 q5 q6 q7 q8
  rcases sameLfB_cases k1 k2 with ⟨ne, hE⟩ | ⟨e0, ne, hE⟩ | ⟨e0, e1, ne, hE⟩ | ⟨e0, e1, e2, ne, hE⟩ | ⟨e0, e1, e2, e3, ne, hE⟩ | ⟨e0, e1, e2, e3, e4, ne, hE⟩ | ⟨e0, e1, e2, e3, e4, e5, ne, hE⟩ | ⟨e0, e1, e2, e3, e4, e5, e6, ne, hE⟩ | ⟨e0, e1, e2, e3, e4, e5, e6, e7, hE⟩
  all_goals
    rw [hE]
    clear hE
    obtain ⟨s, x1, x2, x3, x4, x5, x6, x7, zs⟩ := k1
    obtain ⟨s2, y1, y2, y3, y4, y5, y6, y7, zs2⟩ := k2
    dsimp only at *
    (try subst e0)
    (try subst e1)
    (try subst e2)
    (try subst e3)
    (try subst e4)
    (try subst e5)
    (try subst e6)
    (try subst e7)
  case inl =>
    have hne := str_ne ne
    have hne3 : decide (s = s2) = false := by simpa using ne
    have hne4 : ¬ s.toList = s2.toList := by simpa using hne
    have hne5 : decide (s.toList = s2.toList) = false := by simpa using hne4
    go_enter Try.func90, Try.ntmps90
    go_wp2_with fail
    dsimp only [List.append]
    refine wp_region_below (by kernel_rfl) (by kernel_rfl) ?_
    repeat (go_big_quiet_step ((go_at_call 108; exact below_call (fun hbx => HS.out _ hbx))))
    refine wpQuiet_nil ?_
    intro wq hw'
    obtain ⟨⟨_, hbq⟩, hwq⟩ := hw'
    subst hwq
    (try dsimp only)
    go_wp2
    go_ret
    exact ⟨by simp, hbq⟩
  case inr.inl =>
    have hne1 : (x1 == y1) = false := by simpa using ne
    have hne2 : decide (x1 = y1) = false := by simpa using ne
    go_enter Try.func90, Try.ntmps90
    go_wp2_with fail
    dsimp only [List.append]
    refine wp_region_below (by kernel_rfl) (by kernel_rfl) ?_
    repeat (go_big_quiet_step ((go_at_call 108; exact below_call (fun hbx => HS.out _ hbx))))
    refine wpQuiet_nil ?_
    intro wq hw'
    obtain ⟨⟨_, hbq⟩, hwq⟩ := hw'
    subst hwq
    (try dsimp only)
    go_wp2
    go_ret
    exact ⟨by simp, hbq⟩
  case inr.inr.inl =>
    have hne1 : (x2 == y2) = false := by simpa using ne
    have hne2 : decide (x2 = y2) = false := by simpa using ne
    go_enter Try.func90, Try.ntmps90
    go_wp2_with fail
    dsimp only [List.append]
    refine wp_region_below (by kernel_rfl) (by kernel_rfl) ?_
    repeat (go_big_quiet_step ((go_at_call 108; exact below_call (fun hbx => HS.out _ hbx))))
    refine wpQuiet_nil ?_
    intro wq hw'
    obtain ⟨⟨_, hbq⟩, hwq⟩ := hw'
    subst hwq
    (try dsimp only)
    go_wp2
    go_ret
    exact ⟨by simp, hbq⟩
  case inr.inr.inr.inl =>
    have hne1 : (x3 == y3) = false := by simpa using ne
    have hne2 : decide (x3 = y3) = false := by simpa using ne
    go_enter Try.func90, Try.ntmps90
    go_wp2_with fail
    dsimp only [List.append]
    refine wp_region_below (by kernel_rfl) (by kernel_rfl) ?_
    repeat (go_big_quiet_step ((go_at_call 108; exact below_call (fun hbx => HS.out _ hbx))))
    refine wpQuiet_nil ?_
    intro wq hw'
    obtain ⟨⟨_, hbq⟩, hwq⟩ := hw'
    subst hwq
    (try dsimp only)
    go_wp2
    go_ret
    exact ⟨by simp, hbq⟩
  case inr.inr.inr.inr.inl =>
    have hne1 : (x4 == y4) = false := by simpa using ne
    have hne2 : decide (x4 = y4) = false := by simpa using ne
    go_enter Try.func90, Try.ntmps90
    go_wp2_with fail
    dsimp only [List.append]
    refine wp_region_below (by kernel_rfl) (by kernel_rfl) ?_
    repeat (go_big_quiet_step ((go_at_call 108; exact below_call (fun hbx => HS.out _ hbx))))
    refine wpQuiet_nil ?_
    intro wq hw'
    obtain ⟨⟨_, hbq⟩, hwq⟩ := hw'
    subst hwq
    (try dsimp only)
    go_wp2
    go_ret
    exact ⟨by simp, hbq⟩
  case inr.inr.inr.inr.inr.inl =>
    have hne1 : (x5 == y5) = false := by simpa using ne
    have hne2 : decide (x5 = y5) = false := by simpa using ne
    go_enter Try.func90, Try.ntmps90
    go_wp2_with fail
    dsimp only [List.append]
    refine wp_region_below (by kernel_rfl) (by kernel_rfl) ?_
    repeat (go_big_quiet_step ((go_at_call 108; exact below_call (fun hbx => HS.out _ hbx))))
    refine wpQuiet_nil ?_
    intro wq hw'
    obtain ⟨⟨_, hbq⟩, hwq⟩ := hw'
    subst hwq
    (try dsimp only)
    go_wp2
    go_ret
    exact ⟨by simp, hbq⟩
  case inr.inr.inr.inr.inr.inr.inl =>
    have hne1 : (x6 == y6) = false := by simpa using ne
    have hne2 : decide (x6 = y6) = false := by simpa using ne
    go_enter Try.func90, Try.ntmps90
    go_wp2_with fail
    dsimp only [List.append]
    refine wp_region_below (by kernel_rfl) (by kernel_rfl) ?_
    repeat (go_big_quiet_step ((go_at_call 108; exact below_call (fun hbx => HS.out _ hbx))))
    refine wpQuiet_nil ?_
    intro wq hw'
    obtain ⟨⟨_, hbq⟩, hwq⟩ := hw'
    subst hwq
    (try dsimp only)
    go_wp2
    go_ret
    exact ⟨by simp, hbq⟩
  case inr.inr.inr.inr.inr.inr.inr.inl =>
    have hne1 : (x7 == y7) = false := by simpa using ne
    have hne2 : decide (x7 = y7) = false := by simpa using ne
    go_enter Try.func90, Try.ntmps90
    go_wp2_with fail
    dsimp only [List.append]
    refine wp_region_below (by kernel_rfl) (by kernel_rfl) ?_
    repeat (go_big_quiet_step ((go_at_call 108; exact below_call (fun hbx => HS.out _ hbx))))
    refine wpQuiet_nil ?_
    intro wq hw'
    obtain ⟨⟨_, hbq⟩, hwq⟩ := hw'
    subst hwq
    (try dsimp only)
    go_wp2
    go_ret
    exact ⟨by simp, hbq⟩
  case inr.inr.inr.inr.inr.inr.inr.inr =>
    go_enter Try.func90, Try.ntmps90
    go_wp2_with fail
    dsimp only [List.append]
    refine wp_region_below (by kernel_rfl) (by kernel_rfl) ?_
    repeat (go_big_quiet_step ((go_at_call 108; exact below_call (fun hbx => HS.out _ hbx))))
    refine wpQuiet_nil ?_
    intro wq hw'
    obtain ⟨⟨_, hbq⟩, hwq⟩ := hw'
    subst hwq
    (try dsimp only)
    go_wp2
    go_ret
    exact ⟨by simp, hbq⟩

set_option maxHeartbeats 4000000 in
theorem implSameLf_any (k1 k2 : Lf) (c1 c2 : Value) (w : World) (h1 : RdI w c1 k1.af) (h2 : RdI w c2 k2.af) :
    Calls Try.prog 57 #[.agg #[.string k1.nm, .int .i64 k1.wt, .int .i64 k1.fx, .int .i64 k1.fy, .int .i64 k1.tx, .int .i64 k1.ty, .int .i64 k1.h, .int .i64 k1.dl, c1], .agg #[.string k2.nm, .int .i64 k2.wt, .int .i64 k2.fx, .int .i64 k2.fy, .int .i64 k2.tx, .int .i64 k2.ty, .int .i64 k2.h, .int .i64 k2.dl, c2]] w fun e w' => e = .returned (.bool (sameLfB k1 k2)) ∧ Below w.heap.size w w' := by
  have HS := Lib.hid (fun (u : World) (hb : Below w.heap.size w u) => implSameI_any _ _ k1.af k2.af u (RdI_kept h1 hb) (RdI_kept h2 hb))
  obtain ⟨A1, cp1, rfl, _, _⟩ := RdI_slice h1
  obtain ⟨A2, cp2, rfl, _, _⟩ := RdI_slice h2
  clear h1 h2
  rcases sameLfB_cases k1 k2 with ⟨ne, hE⟩ | ⟨e0, ne, hE⟩ | ⟨e0, e1, ne, hE⟩ | ⟨e0, e1, e2, ne, hE⟩ | ⟨e0, e1, e2, e3, ne, hE⟩ | ⟨e0, e1, e2, e3, e4, ne, hE⟩ | ⟨e0, e1, e2, e3, e4, e5, ne, hE⟩ | ⟨e0, e1, e2, e3, e4, e5, e6, ne, hE⟩ | ⟨e0, e1, e2, e3, e4, e5, e6, e7, hE⟩
  all_goals
    rw [hE]
    clear hE
    obtain ⟨s, x1, x2, x3, x4, x5, x6, x7, zs⟩ := k1
    obtain ⟨s2, y1, y2, y3, y4, y5, y6, y7, zs2⟩ := k2
    dsimp only at *
    (try subst e0)
    (try subst e1)
    (try subst e2)
    (try subst e3)
    (try subst e4)
    (try subst e5)
    (try subst e6)
    (try subst e7)
  case inl =>
    have hn := str_ne ne
    go_enter Try.func57, Try.ntmps57
    go_wp2
    go_ret
    exact ⟨rfl, by go_grown⟩
  all_goals
    go_enter Try.func57, Try.ntmps57
    first
      | (go_wp2_with fail; refine (HS.out _ (by go_grown)).mono ?_; rintro e w1 ⟨rfl, hb1⟩; have b1 := kept_trans (a := w) (by go_grown) hb1; go_wp2; go_ret; exact ⟨rfl, b1⟩)
      | (go_wp2; go_ret; exact ⟨rfl, by go_grown⟩)

open Classical in
noncomputable def sameMB (a b : List Lf) : Bool := decide (a = b)

theorem sameMB_bad (L M : List Lf) (i : Nat) (h1 : i < L.length) (h2 : i < M.length) (h : sameLfB L[i] M[i] = false) : sameMB L M = false := by
  simp only [sameLfB, decide_eq_false_iff_not] at h
  simp only [sameMB, decide_eq_false_iff_not]
  intro he
  subst he
  exact h rfl

theorem sameMB_len (L M : List Lf) (h : ¬ L.length = M.length) : sameMB L M = false := by
  simp only [sameMB, decide_eq_false_iff_not]
  intro he
  subst he
  exact h rfl

theorem sameMB_end (L M : List Lf) (hl : L.length = M.length) (h : ∀ i (h1 : i < L.length) (h2 : i < M.length), i < L.length → sameLfB L[i] M[i] = true) : sameMB L M = true := by
  simp only [sameMB, decide_eq_true_eq]
  refine List.ext_getElem hl fun i h1 h2 => ?_
  have := h i h1 h2 h1
  simpa only [sameLfB, decide_eq_true_eq] using this

set_option maxRecDepth 100000 in
set_option maxHeartbeats 1000000 in
theorem specSameM_any (v1 v2 : Value) (L M : List Lf) (w : World) (h1 : RdM w v1 L) (h2 : RdM w v2 M) :
    Calls Try.prog 55 #[v1, v2] w fun e w' => e = .returned (.bool (sameMB L M)) ∧ Below w.heap.size w w' := by
  obtain ⟨A1, cp1, rfl, hcp1, hl1, r1⟩ := RdM_at h1
  obtain ⟨A2, cp2, rfl, hcp2, hl2, r2⟩ := RdM_at h2
  clear h1 h2
  by_cases hlen : L.length = M.length
  · have R1 := Lib.hid r1; clear r1
    have R2 := Lib.hid r2; clear r2
    have HBAD := Lib.hid (sameMB_bad L M)
    have HEND := Lib.hid (sameMB_end L M hlen)
    generalize sameMB L M = G at *
    have HLEN := Lib.hid hlen
    rw [← hlen]
    clear hlen hl2 hcp1 hcp2
    go_enter Try.func55, Try.ntmps55
    go_wp2_with fail
    go_loopw [5] (fun i wr => ∃ k : Nat, k ≤ L.length ∧ i = .int .i64 (k : Int) ∧ (∀ i (h1 : i < L.length) (h2 : i < M.length), i < k → sameLfB L[i] M[i] = true) ∧ Below w.heap.size w wr) (fun i _ => L.length - (intOf i).toNat)
    case atStart => exact ⟨0, by omega, rfl, fun i _ _ h => by omega, Below.refl _ _⟩
    case round =>
      obtain ⟨k, hk, rfl, hall, hb⟩ := hrel
      by_cases hlt : k < L.length
      · have hlt2 : k < M.length := by have := HLEN.out; omega
        obtain ⟨b, off, cva, rfl, q1⟩ := R1.out k hlt
        obtain ⟨d, off2, cvb, rfl, q2⟩ := R2.out k hlt2
        have t1 := LfAt_kept q1 hb
        have t2 := LfAt_kept q2 hb
        clear q1 q2
        have hs := fun (u : World) (hu : Below wr.heap.size wr u) => specSameLf_any _ _ _ _ _ _ _ _ u (LfAt_kept t1 hu) (LfAt_kept t2 hu)
        clear t1 t2
        cases hE : sameLfB L[k] M[k]
        · have hG := HBAD.out k hlt hlt2 hE
          subst hG
          rw [hE] at hs
          have HS := Lib.hid hs; clear hs hall hE
          go_wp2_with fail
          refine wp_region_below (by kernel_rfl) (by kernel_rfl) ?_
          repeat (go_big_quiet_step ((go_at_call 90; exact below_call (fun hbx => HS.out _ hbx))))
          refine wpQuiet_nil ?_
          intro wq hw'
          obtain ⟨⟨_, hbq⟩, hwq⟩ := hw'
          subst hwq
          (try dsimp only)
          have b1 := hbq
          go_wp2
          go_ret
          exact ⟨rfl, kept_trans hb b1⟩
        · have hnx : ∀ i (h1 : i < L.length) (h2 : i < M.length), i < k + 1 → sameLfB L[i] M[i] = true := fun i h1 h2 hik => by
            rcases Nat.lt_or_ge i k with h3 | h3
            · exact hall i h1 h2 h3
            · obtain rfl : i = k := by omega
              exact hE
          rw [hE] at hs
          have HS := Lib.hid hs; clear hs hall hE
          have HNX := Lib.hid hnx; clear hnx
          go_wp2_with fail
          refine wp_region_below (by kernel_rfl) (by kernel_rfl) ?_
          repeat (go_big_quiet_step ((go_at_call 90; exact below_call (fun hbx => HS.out _ hbx))))
          refine wpQuiet_nil ?_
          intro wq hw'
          obtain ⟨⟨_, hbq⟩, hwq⟩ := hw'
          subst hwq
          (try dsimp only)
          have b1 := hbq
          go_wp2
          go_roundw
          case rel => exact ⟨k + 1, by omega, by go_num, HNX.out, kept_trans hb b1⟩
          case measure => simp [intOf]; omega
      · have : k = L.length := by omega
        subst this
        have hE := HEND.out hall
        clear hall
        subst hE
        go_wp2
        go_ret
        exact ⟨rfl, hb⟩
  · rw [sameMB_len L M hlen]
    clear r1 r2
    have hne : ((L.length : Int) == (M.length : Int)) = false := by rw [beq_eq_false_iff_ne]; omega
    go_enter Try.func55, Try.ntmps55
    go_wp2
    go_ret
    exact ⟨rfl, Below.refl _ _⟩

set_option maxRecDepth 100000 in
set_option maxHeartbeats 1000000 in
theorem implSameM_any (v1 v2 : Value) (L M : List Lf) (w : World) (h1 : RdM w v1 L) (h2 : RdM w v2 M) :
    Calls Try.prog 56 #[v1, v2, .func (.func 57) #[] #[]] w fun e w' => e = .returned (.bool (sameMB L M)) ∧ Below w.heap.size w w' := by
  obtain ⟨A1, cp1, rfl, hcp1, hl1, r1⟩ := RdM_at h1
  obtain ⟨A2, cp2, rfl, hcp2, hl2, r2⟩ := RdM_at h2
  clear h1 h2
  by_cases hlen : L.length = M.length
  · have R1 := Lib.hid r1; clear r1
    have R2 := Lib.hid r2; clear r2
    have HBAD := Lib.hid (sameMB_bad L M)
    have HEND := Lib.hid (sameMB_end L M hlen)
    generalize sameMB L M = G at *
    have HLEN := Lib.hid hlen
    rw [← hlen]
    clear hlen hl2 hcp1 hcp2
    go_enter Try.func56, Try.ntmps56
    go_wp2_with fail
    go_loopw [17] (fun i wr => ∃ k : Nat, k ≤ L.length ∧ i = .int .i64 (k : Int) ∧ (∀ i (h1 : i < L.length) (h2 : i < M.length), i < k → sameLfB L[i] M[i] = true) ∧ Below w.heap.size w wr) (fun i _ => L.length - (intOf i).toNat)
    case atStart => exact ⟨0, by omega, rfl, fun i _ _ h => by omega, Below.refl _ _⟩
    case round =>
      obtain ⟨k, hk, rfl, hall, hb⟩ := hrel
      by_cases hlt : k < L.length
      · have hlt2 : k < M.length := by have := HLEN.out; omega
        obtain ⟨b, off, cva, rfl, q1⟩ := R1.out k hlt
        obtain ⟨d, off2, cvb, rfl, q2⟩ := R2.out k hlt2
        have t1 := LfAt_kept q1 hb
        have t2 := LfAt_kept q2 hb
        clear q1 q2
        obtain ⟨z1, ⟨c0, c1, c2, c3, c4, c5, c6, c7, c8⟩, p1⟩ := t1
        obtain ⟨z2, ⟨d0, d1, d2, d3, d4, d5, d6, d7, d8⟩, p2⟩ := t2
        have hs := fun (u : World) (hu : Below wr.heap.size wr u) => implSameLf_any L[k] M[k] cva cvb u (RdI_kept p1 hu) (RdI_kept p2 hu)
        obtain ⟨Aa, cpa, rfl, _, _⟩ := RdI_slice p1
        obtain ⟨Ab, cpb, rfl, _, _⟩ := RdI_slice p2
        clear p1 p2
        cases hE : sameLfB L[k] M[k]
        · have hG := HBAD.out k hlt hlt2 hE
          subst hG
          rw [hE] at hs
          have HS := Lib.hid hs; clear hs hall hE
          generalize L[k] = ka at c0 c1 c2 c3 c4 c5 c6 c7 c8 HS
          generalize M[k] = kb at d0 d1 d2 d3 d4 d5 d6 d7 d8 HS
          obtain ⟨s, x1, x2, x3, x4, x5, x6, x7, zs⟩ := ka
          obtain ⟨s2, y1, y2, y3, y4, y5, y6, y7, zs2⟩ := kb
          dsimp only at *
          go_wp2_with fail
          refine (HS.out _ (by go_grown)).mono ?_
          rintro e w1 ⟨rfl, hb1⟩
          have b1 := kept_trans (a := wr) (by go_grown) hb1
          go_wp2
          go_ret
          exact ⟨rfl, kept_trans hb b1⟩
        · have hnx : ∀ i (h1 : i < L.length) (h2 : i < M.length), i < k + 1 → sameLfB L[i] M[i] = true := fun i h1 h2 hik => by
            rcases Nat.lt_or_ge i k with h3 | h3
            · exact hall i h1 h2 h3
            · obtain rfl : i = k := by omega
              exact hE
          rw [hE] at hs
          have HS := Lib.hid hs; clear hs hall hE
          have HNX := Lib.hid hnx; clear hnx
          generalize L[k] = ka at c0 c1 c2 c3 c4 c5 c6 c7 c8 HS
          generalize M[k] = kb at d0 d1 d2 d3 d4 d5 d6 d7 d8 HS
          obtain ⟨s, x1, x2, x3, x4, x5, x6, x7, zs⟩ := ka
          obtain ⟨s2, y1, y2, y3, y4, y5, y6, y7, zs2⟩ := kb
          dsimp only at *
          go_wp2_with fail
          refine (HS.out _ (by go_grown)).mono ?_
          rintro e w1 ⟨rfl, hb1⟩
          have b1 := kept_trans (a := wr) (by go_grown) hb1
          go_wp2
          go_roundw
          case rel => exact ⟨k + 1, by omega, by go_num, HNX.out, kept_trans hb b1⟩
          case measure => simp [intOf]; omega
      · have : k = L.length := by omega
        subst this
        have hE := HEND.out hall
        clear hall
        subst hE
        go_wp2
        go_ret
        exact ⟨rfl, hb⟩
  · rw [sameMB_len L M hlen]
    clear r1 r2
    have hne : ((L.length : Int) == (M.length : Int)) = false := by rw [beq_eq_false_iff_ne]; omega
    go_enter Try.func56, Try.ntmps56
    go_wp2
    go_ret
    exact ⟨rfl, Below.refl _ _⟩

theorem specSL_any (v1 v2 : Value) (L M : List Lf) (w : World) (h1 : RdM w v1 L) (h2 : RdM w v2 M) :
    Calls Try.prog 21 #[v1, v2] w fun e w' => e = .returned (.bool (sameMB L M)) ∧ Below w.heap.size w w' := by
  have HS := Lib.hid (fun u (x1 : RdM u v1 L) (x2 : RdM u v2 M) => specSameM_any v1 v2 L M u x1 x2)
  have H1 := Lib.hid h1
  have H2 := Lib.hid h2
  obtain ⟨A, cp, rfl, _⟩ := RdM_at h1
  obtain ⟨B, cq, rfl, _⟩ := RdM_at h2
  clear h1 h2
  generalize sameMB L M = G at *
  go_enter Try.func21, Try.ntmps21
  go_wp2_with fail
  refine (HS.out _ (RdM_kept H1.out (by go_grown)) (RdM_kept H2.out (by go_grown))).mono ?_
  rintro e w1 ⟨rfl, hb1⟩
  have b1 := kept_trans (a := w) (by go_grown) hb1
  go_wp2
  go_ret
  exact ⟨rfl, b1⟩

theorem implSL_any (v1 v2 : Value) (L M : List Lf) (w : World) (h1 : RdM w v1 L) (h2 : RdM w v2 M) :
    Calls Try.prog 22 #[v1, v2] w fun e w' => e = .returned (.bool (sameMB L M)) ∧ Below w.heap.size w w' := by
  have HS := Lib.hid (fun u (x1 : RdM u v1 L) (x2 : RdM u v2 M) => implSameM_any v1 v2 L M u x1 x2)
  have H1 := Lib.hid h1
  have H2 := Lib.hid h2
  obtain ⟨A, cp, rfl, _⟩ := RdM_at h1
  obtain ⟨B, cq, rfl, _⟩ := RdM_at h2
  clear h1 h2
  generalize sameMB L M = G at *
  go_enter Try.func22, Try.ntmps22
  go_wp2_with fail
  refine (HS.out _ (RdM_kept H1.out (by go_grown)) (RdM_kept H2.out (by go_grown))).mono ?_
  rintro e w1 ⟨rfl, hb1⟩
  have b1 := kept_trans (a := w) (by go_grown) hb1
  go_wp2
  go_ret
  exact ⟨rfl, b1⟩

set_option maxHeartbeats 2000000 in
theorem walk_FnExactSameLifts (w : World) (v0 : Value) (ks0 : List (Lf × Value)) (h0 : RdLf w v0 ks0) (wf0 : wfLfs ks0) (v1 : Value) (ks1 : List (Lf × Value)) (h1 : RdLf w v1 ks1) (wf1 : wfLfs ks1) :
    Calls Try.prog 5 #[v0, v1] w fun e w' => e = .returned (.bool true) ∧ Below w.heap.size w w' := by
  obtain ⟨A0, c0, rfl, l0, _⟩ := RdLf_at h0
  have H0 := Lib.hid h0; clear h0
  obtain ⟨wf0, wl0⟩ := wf0
  unfold maxLen at wl0
  obtain ⟨A1, c1, rfl, l1, _⟩ := RdLf_at h1
  have H1 := Lib.hid h1; clear h1
  obtain ⟨wf1, wl1⟩ := wf1
  unfold maxLen at wl1
  have HZ0 := fun u q => szLfs_any (.slice A0 ks0.length c0) ks0 (1000000) u q (by omega) wf0
  by_cases n0 : (ks0.length : Int) + totLf ks0 ≤ 1000000
  case neg =>
    simp only [if_neg n0] at HZ0
    have HZ0 := Lib.hid HZ0
    go_enter Try.func5, Try.ntmps5
    go_wp2_with fail
    refine (HZ0.out _ H0.out).mono ?_
    rintro e u0 ⟨rfl, y0⟩
    go_wp2
    go_ret
    exact ⟨rfl, y0⟩
  simp only [if_pos n0] at HZ0
  replace HZ0 := Lib.hid HZ0
  have HZ1 := fun u q => szLfs_any (.slice A1 ks1.length c1) ks1 (1000000 - ks0.length - totLf ks0) u q (by omega) wf1
  by_cases n1 : (ks1.length : Int) + totLf ks1 ≤ 1000000 - ks0.length - totLf ks0
  case neg =>
    simp only [if_neg n1] at HZ1
    have HZ1 := Lib.hid HZ1
    go_enter Try.func5, Try.ntmps5
    go_wp2_with fail
    refine (HZ0.out _ H0.out).mono ?_
    rintro e u0 ⟨rfl, y0⟩
    go_wp2_with fail
    refine (HZ1.out _ (RdLf_kept H1.out y0)).mono ?_
    rintro e u1 ⟨rfl, y1⟩
    replace y1 := kept_trans y0 y1
    go_wp2
    go_ret
    exact ⟨rfl, y1⟩
  simp only [if_pos n1] at HZ1
  replace HZ1 := Lib.hid HZ1
  have hn0 : ks0.length ≤ 1000000 := by omega
  have ha0 : ∀ p ∈ ks0, p.1.af.length ≤ 1000000 := fun p hp => by have := totLf_mem hp; omega
  have hs0 : ∀ k ∈ ks0.map (·.1), k.nm.size ≤ 1000000 := fun k hk => by obtain ⟨p, hp, rfl⟩ := List.mem_map.1 hk; have := totLf_mem hp; omega
  have hc0 : afS (ks0.map (·.1)) ≤ 1000000 := by have := afS_tot ks0; omega
  have hml0 : (ks0.map (·.1)).length ≤ 1000000 := by simpa using hn0
  have HF0 := Lib.hid (fun u (q : RdLf u (.slice A0 ks0.length c0) ks0) => toLfs_false _ ks0 u q hn0 ha0)
  have HT0 := Lib.hid (fun u (q : RdLf u (.slice A0 ks0.length c0) ks0) => toM_true _ ks0 u q hn0 ha0)
  have HX0 := Lib.hid (fun c1 c2 lo1 hi1 lo2 hi2 u h1 h2 => intactLfs_same c1 c2 (ks0.map (·.1)) lo1 hi1 lo2 hi2 u h1 h2)
  have HM0 := Lib.hid (fun c lo hi u (q : LfsC u lo hi c (ks0.map (·.1))) => markLfs_any c (ks0.map (·.1)) lo hi 101 u q ⟨by omega, by omega⟩ hc0)
  have hn1 : ks1.length ≤ 1000000 := by omega
  have ha1 : ∀ p ∈ ks1, p.1.af.length ≤ 1000000 := fun p hp => by have := totLf_mem hp; omega
  have hs1 : ∀ k ∈ ks1.map (·.1), k.nm.size ≤ 1000000 := fun k hk => by obtain ⟨p, hp, rfl⟩ := List.mem_map.1 hk; have := totLf_mem hp; omega
  have hc1 : afS (ks1.map (·.1)) ≤ 1000000 := by have := afS_tot ks1; omega
  have hml1 : (ks1.map (·.1)).length ≤ 1000000 := by simpa using hn1
  have HF1 := Lib.hid (fun u (q : RdLf u (.slice A1 ks1.length c1) ks1) => toLfs_false _ ks1 u q hn1 ha1)
  have HT1 := Lib.hid (fun u (q : RdLf u (.slice A1 ks1.length c1) ks1) => toM_true _ ks1 u q hn1 ha1)
  have HX1 := Lib.hid (fun c1 c2 lo1 hi1 lo2 hi2 u h1 h2 => intactLfs_same c1 c2 (ks1.map (·.1)) lo1 hi1 lo2 hi2 u h1 h2)
  have HM1 := Lib.hid (fun c lo hi u (q : LfsC u lo hi c (ks1.map (·.1))) => markLfs_any c (ks1.map (·.1)) lo hi 101 u q ⟨by omega, by omega⟩ hc1)
  have hS := fun (x0 : Value) (x1 : Value) (u : World) (q0 : RdM u x0 (ks0.map (·.1))) (q1 : RdM u x1 (ks1.map (·.1))) => specSL_any x0 x1 (ks0.map (·.1)) (ks1.map (·.1)) u q0 q1
  have hI := fun (x0 : Value) (x1 : Value) (u : World) (q0 : RdM u x0 (ks0.map (·.1))) (q1 : RdM u x1 (ks1.map (·.1))) => implSL_any x0 x1 (ks0.map (·.1)) (ks1.map (·.1)) u q0 q1
  have hle0 : True := trivial
  have hle1 : True := trivial
  generalize sameMB (ks0.map (·.1)) (ks1.map (·.1)) = F at hS hI
  (try dsimp only at hS hI)
  have HS := Lib.hid hS; clear hS
  have HI := Lib.hid hI; clear hI
  have hle : (0 : Int) ≤ 1000000 - ks0.length - totLf ks0 ∧ (0 : Int) ≤ 1000000 - ks0.length - totLf ks0 - ks1.length - totLf ks1 := ⟨by omega, by omega⟩
  obtain ⟨hle0', hle1'⟩ := hle
  clear wf0 ha0 hs0 hc0
  generalize (totLf ks0 : Int) = tk0 at *
  clear wf1 ha1 hs1 hc1
  generalize (totLf ks1 : Int) = tk1 at *
  go_enter Try.func5, Try.ntmps5
  go_wp2_with fail
  refine (HZ0.out _ H0.out).mono ?_
  rintro e w101 ⟨rfl, b1⟩
  have z1 := b1.size
  go_wp2_with fail
  refine (HZ1.out _ (RdLf_kept H1.out b1)).mono ?_
  rintro e w102 ⟨rfl, b2⟩
  have z2 := b2.size
  replace b2 := kept_trans b1 b2
  go_wp2_with fail
  refine (HF0.out _ (RdLf_kept H0.out b2)).mono ?_
  rintro e w103 ⟨s0, rfl, ks0, b3⟩
  have z3 := b3.size
  replace b3 := kept_trans b2 b3
  go_wp2_with fail
  refine (HF1.out _ (RdLf_kept H1.out b3)).mono ?_
  rintro e w104 ⟨s1, rfl, ks1, b4⟩
  have z4 := b4.size
  replace ks0 := LfsC_kept ks0 b4
  replace b4 := kept_trans b3 b4
  go_wp2_with fail
  refine (HS.out s0 s1 _ (RdM_copy ks0) (RdM_copy ks1)).mono ?_
  rintro e w105 ⟨rfl, b5⟩
  have z5 := b5.size
  replace ks0 := LfsC_kept ks0 b5
  replace ks1 := LfsC_kept ks1 b5
  replace b5 := kept_trans b4 b5
  clear ks0 ks1
  go_wp2_with fail
  refine (HF0.out _ (RdLf_kept H0.out b5)).mono ?_
  rintro e w106 ⟨x0, rfl, kx0, b6⟩
  have z6 := b6.size
  replace b6 := kept_trans b5 b6
  go_wp2_with fail
  refine (HF1.out _ (RdLf_kept H1.out b6)).mono ?_
  rintro e w107 ⟨x1, rfl, kx1, b7⟩
  have z7 := b7.size
  replace kx0 := LfsC_kept kx0 b7
  replace b7 := kept_trans b6 b7
  go_wp2_with fail
  refine (HI.out x0 x1 _ (RdM_copy kx0) (RdM_copy kx1)).mono ?_
  rintro e w108 ⟨rfl, b8⟩
  have z8 := b8.size
  replace kx0 := LfsC_kept kx0 b8
  replace kx1 := LfsC_kept kx1 b8
  replace b8 := kept_trans b7 b8
  go_wp2_with fail
  refine (HF0.out _ (RdLf_kept H0.out b8)).mono ?_
  rintro e w109 ⟨y0, rfl, ky0, b9⟩
  have z9 := b9.size
  replace kx0 := LfsC_kept kx0 b9
  replace kx1 := LfsC_kept kx1 b9
  replace b9 := kept_trans b8 b9
  go_wp2_with fail
  refine (HX0.out _ _ _ _ _ _ _ kx0 ky0).mono ?_
  rintro e w110 ⟨rfl, b10⟩
  have z10 := b10.size
  replace kx0 := LfsC_kept kx0 b10
  replace kx1 := LfsC_kept kx1 b10
  replace ky0 := LfsC_kept ky0 b10
  replace b10 := kept_trans b9 b10
  clear ky0
  go_wp2_with fail
  refine (HF1.out _ (RdLf_kept H1.out b10)).mono ?_
  rintro e w111 ⟨y1, rfl, ky1, b11⟩
  have z11 := b11.size
  replace kx0 := LfsC_kept kx0 b11
  replace kx1 := LfsC_kept kx1 b11
  replace b11 := kept_trans b10 b11
  go_wp2_with fail
  refine (HX1.out _ _ _ _ _ _ _ kx1 ky1).mono ?_
  rintro e w112 ⟨rfl, b12⟩
  have z12 := b12.size
  replace kx0 := LfsC_kept kx0 b12
  replace kx1 := LfsC_kept kx1 b12
  replace ky1 := LfsC_kept ky1 b12
  replace b12 := kept_trans b11 b12
  clear ky1
  clear kx0 kx1
  go_wp2_with fail
  refine (HT0.out _ (RdLf_kept H0.out b12)).mono ?_
  rintro e w113 ⟨t0, rfl, kt0, b13⟩
  have z13 := b13.size
  replace b13 := kept_trans b12 b13
  go_wp2_with fail
  refine (HT1.out _ (RdLf_kept H1.out b13)).mono ?_
  rintro e w114 ⟨t1, rfl, kt1, b14⟩
  have z14 := b14.size
  replace kt0 := RdM_kept kt0 b14
  replace b14 := kept_trans b13 b14
  go_wp2_with fail
  refine (HI.out t0 t1 _ kt0 kt1).mono ?_
  rintro e w115 ⟨rfl, b15⟩
  have z15 := b15.size
  replace kt0 := RdM_kept kt0 b15
  replace kt1 := RdM_kept kt1 b15
  replace b15 := kept_trans b14 b15
  clear kt0 kt1
  go_wp2
  go_ret
  exact ⟨rfl, b15⟩

end Go.Proofs.Ytdcndoincahhiaa
namespace Go.Proofs.Ytdcndoincahhiaa.fnExactSameLifts
open Go.ChangeShapes Go.WideShapes Go.ChangeAt Go.RowKit
set_option linter.unusedVariables false
set_option linter.unusedSimpArgs false
open Go.Joins Go.ChangeMaps
set_option maxRecDepth 100000 in
theorem lifted (os : Os) (started : os.Started) (H : Type) (enc : TypeId × Value → H) :
    ReturnsInHanded {} Try.checked os 5 .any (Rows.fnExactSameLiftsSpec.pre6 enc Try.prog Try.f5 Rows.fnExactSameLiftsRow.domain false) (Rows.fnExactSameLiftsSpec.post enc Try.prog Try.f5 false true false false) := by
  refine returnsInHanded_of_change (C := Try.checked) (show ownKnob Try.prog.godebug = none by kernel_rfl) started (by kernel_rfl) Try.func5
    (ChangeSpec.witness6 (enc := enc) (C := Try.checked) false ⟨#[], #[.slice none 0 0, .slice none 0 0], []⟩ 8 (by kernel_rfl) (by kernel_rfl) (by kernel_rfl) (by kernel_rfl)) ?_
  intro W base args ds gs before hval0 hW hcnd _
  have hval : ∀ (j : Nat) t v, Try.f5.params[j]? = some t → args[j]? = some v → Value.okWide Try.prog W .any base t v := hval0
  have hW' := hW
  obtain ⟨p, q, hA0, hV, rfl, hfz, hnd⟩ := hW
  have hA : DataW.TrodAll enc Try.prog W 0 (fun _ => true) true Try.f5.params.toList args.toList ds p := hA0
  rw [Try.params5] at hA hval
  obtain ⟨v0, vs0, d0, ds0, p0, q0, hargs, rfl, rfl, h0, r0⟩ := trodAll_cons hA
  obtain ⟨v1, vs1, d1, ds1, p1, q1, rfl, rfl, rfl, h1, r1⟩ := trodAll_cons r0
  obtain ⟨rfl, rfl, rfl⟩ := trodAll_nil r1
  obtain rfl : args = #[v0, v1] := by cases args; simp_all
  obtain ⟨rfl, rfl⟩ := trodVars_none hV
  obtain ⟨ks0, hr0, wf0, hdl0⟩ := open_lifts (hval 0 36 v0 rfl rfl) h0
  obtain ⟨ks1, hr1, wf1, hdl1⟩ := open_lifts (hval 1 36 v1 rfl rfl) h1
  clear hA0 hval0
  refine (walk_FnExactSameLifts (w := W) _ ks0 hr0 wf0 _ ks1 hr1 wf1 ).mono fun e W' ⟨he, hb⟩ => ?_
  subst he
  exact ⟨_, rfl, law_post (B := 4) (by kernel_rfl) (by kernel_rfl) rfl Try.underlying4 rfl hW' rfl hb⟩

/-- The statement: for every input the law returns true, and the arguments read afterwards as before. -/
theorem proved : Rows.FnExactSameLiftsSaid :=
  OpenClaim.holds_of_wide 5 Try.f5 rfl rfl rfl rfl rfl rfl rfl ⟨rfl, rfl, rfl, rfl, rfl⟩ rfl rfl rfl rfl rfl (by kernel_rfl) Try.func5 (by kernel_rfl)
    (of_decide_eq_true (by kernel_rfl)) (by unfold Func.isWrapper; first | (rw [if_pos (by decide +kernel)]; kernel_rfl) | (rw [if_neg (by decide +kernel)]; exact ⟨rfl, rfl⟩))
    (fun os started H enc _ => lifted os started H enc)
end Go.Proofs.Ytdcndoincahhiaa.fnExactSameLifts
