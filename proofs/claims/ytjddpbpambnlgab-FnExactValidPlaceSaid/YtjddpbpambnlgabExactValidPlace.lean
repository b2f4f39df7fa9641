/- Proved: for every input the law FnExactValidPlace returns true, and each argument reads afterwards as it read before; no condition beside those of the given row. -/
import Derived.Test.YtjddpbpambnlgabRows
import Derived.WalkKit
import Derived.ProofKit
import Derived.OpenShut
import Derived.Lib.Hide
import Derived.Handy
import Derived.Carry
import Derived.Lib.SmallJoins
namespace Go.Proofs.Ytjddpbpambnlgab
open Go.ChangeShapes Go.WideShapes Go.ChangeAt Go.RowKit
set_option linter.unusedVariables false
set_option linter.unusedSimpArgs false

theorem trodAll_stay {H : Type} {enc : TypeId × Value → H} {P : Program} (hl : laidOutB P = true) {W W' : World} (hb : Below W.heap.size W W') :
    ∀ (ts : List TypeId) (vs : List Value) (ds : List (DataW H)) (ps : List MemPlace), ts.all (fun t => P.readableRec t && decide (t < P.types.size)) = true →
      DataW.TrodAll enc P W 0 (fun _ => true) true ts vs ds ps → (∀ x ∈ ps, x.block < W.heap.size) →
      DataW.TrodAll enc P W' 0 (fun b => decide (b < W.heap.size)) true ts vs ds ps := by
  intro ts
  induction ts with
  | nil => intro vs ds ps _ h _; obtain ⟨rfl, rfl, rfl⟩ := trodAll_nil h; exact rfl
  | cons t ts ih =>
    intro vs ds ps hr h hlt
    simp only [List.all_cons, Bool.and_eq_true, decide_eq_true_eq] at hr
    obtain ⟨v, vs', d, ds', p, q, rfl, rfl, rfl, h0, h1⟩ := trodAll_cons h
    exact ⟨p, q, Below.trod hl hr.1.1 hr.1.2 h0 hb (fun x hx => hlt x (by simp [hx])), ih _ _ _ hr.2 h1 (fun x hx => hlt x (by simp [hx])), rfl⟩

/-- A law's row at its end: it returned true, and of what was there nothing has turned. -/
theorem law_post {H : Type} {enc : TypeId × Value → H} {P : Program} {f : Func} {s : ChangeSpec} {W W' : World} {args : Array Value} {ds gs : List (DataW H)} {before : List MemPlace} {B : TypeId}
    (hl : laidOutB P = true) (hr : f.params.toList.all (fun t => P.readableRec t && decide (t < P.types.size)) = true)
    (hres : f.resultTypes = #[B]) (hB : P.underlying B = some .bool) (hv : s.vars = [])
    (hW : DataW.Whole enc P f.params.toList s.vars false W args.toList ds gs before)
    (hfn : s.fn H (ds ++ gs) = { results := [.lit (.bool true)], args := ds }) (hb : Below W.heap.size W W') :
    s.post enc P f false true false false W args (.bool true) W' := by
  have hlt : ∀ p ∈ before, p.block < W.heap.size := fun p hp => hW.lt p hp
  have hW' := hW
  obtain ⟨p, q, hA, hV, rfl, _, _⟩ := hW'
  rw [hv] at hV
  obtain ⟨rfl, rfl⟩ := trodVars_none hV
  refine ⟨ds, [], p ++ [], [], p, [], hW, ?_, ?_, ?_, hb.frame _, fun h => by cases h⟩
  · rw [hfn, hres]
    exact trodAll_cons_mk (shut_bool hB _) trodAll_mk0
  · rw [hfn]
    exact trodAll_stay hl hb _ _ _ _ hr hA (fun x hx => hlt x (by simp [hx]))
  · rw [hfn, hv]
    exact rfl

theorem kept_cell {W w1 : World} (hb : Below W.heap.size W w1) (b o : Nat) (h : b < W.heap.size) : w1.cell? ⟨b, o, none⟩ = W.cell? ⟨b, o, none⟩ := hb.cell (p := ⟨b, o, none⟩) h

theorem kept_frozen {W w1 : World} (hb : Below W.heap.size W w1) (b o : Nat) (h : b < W.heap.size) : w1.frozen? ⟨b, o, none⟩ = W.frozen? ⟨b, o, none⟩ := hb.frozen (p := ⟨b, o, none⟩) h

theorem kept_trans {a b c : World} (h : Below a.heap.size a b) (k : Below b.heap.size b c) : Below a.heap.size a c := h.trans (k.mono h.size)

theorem kept_at {W w1 : World} (hb : Below W.heap.size W w1) (b : Nat) {G : Prop} (h : b < W.heap.size)
    (k : (∀ o, w1.cell? ⟨b, o, none⟩ = W.cell? ⟨b, o, none⟩) → (∀ o, w1.frozen? ⟨b, o, none⟩ = W.frozen? ⟨b, o, none⟩) → G) : G :=
  k (fun o => kept_cell hb b o h) (fun o => kept_frozen hb b o h)

def inB (n low high : Int) : Bool := decide (low ≤ n) && decide (n ≤ high)

theorem in_any (n low high : Int) (w : World) :
    Calls Try.prog 24 #[.int .i64 n, .int .i64 low, .int .i64 high] w fun e w' => e = .returned (.bool (inB n low high)) ∧ w = w' := by
  unfold inB
  by_cases h1 : low ≤ n <;> by_cases h2 : n ≤ high <;>
  · go_enter Try.func24, Try.ntmps24
    go_wp2
    go_ret
    exact ⟨by simp [*], rfl⟩

def okP (x y : Int) : Bool := inB x (-10000) 10000 && inB y (-10000) 10000

theorem specOk_any (x y : Int) (w : World) :
    Calls Try.prog 19 #[.agg #[.int .i64 x, .int .i64 y]] w fun e w' => e = .returned (.bool (okP x y)) ∧ Below w.heap.size w w' := by
  unfold okP
  cases h1 : inB x (-10000) 10000 <;>
  · go_enter Try.func19, Try.ntmps19
    go_wp2_with (go_at_call 24; refine (in_any _ _ _ _).mono ?_; rintro e w' ⟨rfl, rfl⟩)
    go_ret
    exact ⟨by simp, by go_grown⟩

theorem validPlace_any (x y : Int) (w : World) :
    Calls Try.prog 16 #[.agg #[.int .i64 x, .int .i64 y]] w fun e w' => e = .returned (.bool (okP x y)) ∧ Below w.heap.size w w' := by
  unfold okP inB
  rcases (show ¬ -10000 ≤ x ∨ (-10000 ≤ x ∧ ¬ x ≤ 10000) ∨ (-10000 ≤ x ∧ x ≤ 10000 ∧ ¬ -10000 ≤ y) ∨ (-10000 ≤ x ∧ x ≤ 10000 ∧ -10000 ≤ y ∧ ¬ y ≤ 10000) ∨ (-10000 ≤ x ∧ x ≤ 10000 ∧ -10000 ≤ y ∧ y ≤ 10000) from by omega) with h1 | ⟨h1, h2⟩ | ⟨h1, h2, h3⟩ | ⟨h1, h2, h3, h4⟩ | ⟨h1, h2, h3, h4⟩
  all_goals
    go_enter Try.func16, Try.ntmps16
    go_wp2
    go_ret
    exact ⟨by simp [*] <;> omega, by go_grown⟩

theorem toPoint_any (x y : Int) (w : World) :
    Calls Try.prog 8 #[.agg #[.int .i64 x, .int .i64 y]] w fun e w' => e = .returned (.agg #[.int .i64 x, .int .i64 y]) ∧ Below w.heap.size w w' := by
  go_enter Try.func8, Try.ntmps8
  go_wp2
  go_returns
  exact ⟨rfl, by go_grown⟩

theorem specValidPlace_any (x y : Int) (w : World) :
    Calls Try.prog 15 #[.agg #[.int .i64 x, .int .i64 y]] w fun e w' => e = .returned (.bool (okP x y)) ∧ Below w.heap.size w w' := by
  go_enter Try.func15, Try.ntmps15
  go_wp2_with (go_at_call 19; refine (specOk_any _ _ _).mono ?_; rintro e w1 ⟨rfl, hb⟩; have hs := hb.size; (try simp at hs); (try (refine kept_at hb (w.heap.size) ?_ (fun hc0 hz0 => ?_); focus go_size)); (try (refine kept_at hb (w.heap.size + 1) ?_ (fun hc1 hz1 => ?_); focus go_size)); (try (refine kept_at hb (w.heap.size + 2) ?_ (fun hc2 hz2 => ?_); focus go_size)); (try (refine kept_at hb (w.heap.size + 3) ?_ (fun hc3 hz3 => ?_); focus go_size)); (try (refine kept_at hb (w.heap.size + 4) ?_ (fun hc4 hz4 => ?_); focus go_size)); (try (refine kept_at hb (w.heap.size + 5) ?_ (fun hc5 hz5 => ?_); focus go_size)); replace hb := kept_trans (a := w) (by go_grown) hb; have hcl := kept_cell hb; have hzl := kept_frozen hb)
  go_ret
  exact ⟨rfl, by go_grown⟩

theorem walk_FnExactValidPlace (x : Int) (wx : (Lit.int .i64 x).wf = true) (y : Int) (wy : (Lit.int .i64 y).wf = true) (w : World) :
    Calls Try.prog 5 #[.agg #[.int .i64 x, .int .i64 y]] w fun e w' => e = .returned (.bool true) ∧ Below w.heap.size w w' := by
  go_enter Try.func5, Try.ntmps5
  go_wp2_with (first | (go_at_call 8; refine (toPoint_any _ _ _).mono ?_; rintro e w1 ⟨rfl, hb⟩; have hs := hb.size; (try simp at hs); (try (refine kept_at hb (w.heap.size) ?_ (fun hc0 hz0 => ?_); focus go_size)); (try (refine kept_at hb (w.heap.size + 1) ?_ (fun hc1 hz1 => ?_); focus go_size)); (try (refine kept_at hb (w.heap.size + 2) ?_ (fun hc2 hz2 => ?_); focus go_size)); (try (refine kept_at hb (w.heap.size + 3) ?_ (fun hc3 hz3 => ?_); focus go_size)); (try (refine kept_at hb (w.heap.size + 4) ?_ (fun hc4 hz4 => ?_); focus go_size)); (try (refine kept_at hb (w.heap.size + 5) ?_ (fun hc5 hz5 => ?_); focus go_size)); replace hb := kept_trans (a := w) (by go_grown) hb; have hcl := kept_cell hb; have hzl := kept_frozen hb) | (go_at_call 15; refine (specValidPlace_any _ _ _).mono ?_; rintro e w1 ⟨rfl, hb⟩; have hs := hb.size; (try simp at hs); (try (refine kept_at hb (w.heap.size) ?_ (fun hc0 hz0 => ?_); focus go_size)); (try (refine kept_at hb (w.heap.size + 1) ?_ (fun hc1 hz1 => ?_); focus go_size)); (try (refine kept_at hb (w.heap.size + 2) ?_ (fun hc2 hz2 => ?_); focus go_size)); (try (refine kept_at hb (w.heap.size + 3) ?_ (fun hc3 hz3 => ?_); focus go_size)); (try (refine kept_at hb (w.heap.size + 4) ?_ (fun hc4 hz4 => ?_); focus go_size)); (try (refine kept_at hb (w.heap.size + 5) ?_ (fun hc5 hz5 => ?_); focus go_size)); replace hb := kept_trans (a := w) (by go_grown) hb; have hcl := kept_cell hb; have hzl := kept_frozen hb) | (go_at_call 16; refine (validPlace_any _ _ _).mono ?_; rintro e w1 ⟨rfl, hb⟩; have hs := hb.size; (try simp at hs); (try (refine kept_at hb (w.heap.size) ?_ (fun hc0 hz0 => ?_); focus go_size)); (try (refine kept_at hb (w.heap.size + 1) ?_ (fun hc1 hz1 => ?_); focus go_size)); (try (refine kept_at hb (w.heap.size + 2) ?_ (fun hc2 hz2 => ?_); focus go_size)); (try (refine kept_at hb (w.heap.size + 3) ?_ (fun hc3 hz3 => ?_); focus go_size)); (try (refine kept_at hb (w.heap.size + 4) ?_ (fun hc4 hz4 => ?_); focus go_size)); (try (refine kept_at hb (w.heap.size + 5) ?_ (fun hc5 hz5 => ?_); focus go_size)); replace hb := kept_trans (a := w) (by go_grown) hb; have hcl := kept_cell hb; have hzl := kept_frozen hb))
  go_ret
  exact ⟨rfl, by go_grown⟩

end Go.Proofs.Ytjddpbpambnlgab
namespace Go.Proofs.Ytjddpbpambnlgab.fnExactValidPlace
open Go.ChangeShapes Go.WideShapes Go.ChangeAt Go.RowKit
set_option linter.unusedVariables false
set_option linter.unusedSimpArgs false
open Go.Joins
set_option maxRecDepth 100000 in
theorem lifted (os : Os) (started : os.Started) (H : Type) (enc : TypeId × Value → H) :
    ReturnsInHanded {} Try.checked os 5 .any (Rows.fnExactValidPlaceSpec.pre6 enc Try.prog Try.f5 Rows.fnExactValidPlaceRow.domain false) (Rows.fnExactValidPlaceSpec.post enc Try.prog Try.f5 false true false false) := by
  refine returnsInHanded_of_change (C := Try.checked) (show ownKnob Try.prog.godebug = none by kernel_rfl) started (by kernel_rfl) Try.func5
    (ChangeSpec.witness6 (enc := enc) (C := Try.checked) false ⟨#[], #[.agg #[.int .i64 0, .int .i64 0]], []⟩ 8 (by kernel_rfl) (by kernel_rfl) (by kernel_rfl) (by kernel_rfl)) ?_
  intro W base args ds gs before hval0 hW hcnd _
  have hval : ∀ (j : Nat) t v, Try.f5.params[j]? = some t → args[j]? = some v → Value.okWide Try.prog W .any base t v := hval0
  have hW' := hW
  obtain ⟨p, q, hA0, hV, rfl, hfz, hnd⟩ := hW
  have hA : DataW.TrodAll enc Try.prog W 0 (fun _ => true) true Try.f5.params.toList args.toList ds p := hA0
  rw [Try.params5] at hA hval
  obtain ⟨v0, vs0, d0, ds0, p0, q0, hargs, rfl, rfl, h0, r0⟩ := trodAll_cons hA
  obtain ⟨rfl, rfl, rfl⟩ := trodAll_nil r0
  obtain rfl : args = #[v0] := by cases args; simp_all
  obtain ⟨rfl, rfl⟩ := trodVars_none hV
  obtain ⟨c0_0, c0_1, y0_0, y0_1, m0, rfl, rfl, rfl, h0_0, h0_1⟩ := Joins.open_agg2 Try.underlying23 (by kernel_rfl) (show Try.prog.cellsOf 23 = 2 by kernel_rfl) (hval 0 23 v0 rfl rfl) h0
  obtain ⟨a0_0, e0_0, rfl, w0_0⟩ := DataW.trod_int Try.underlying2 h0_0
  simp at e0_0
  subst e0_0
  obtain ⟨a0_1, e0_1, rfl, w0_1⟩ := DataW.trod_int Try.underlying2 h0_1
  simp at e0_1
  subst e0_1
  clear hA0 hval0
  refine (walk_FnExactValidPlace a0_0 w0_0 a0_1 w0_1 W).mono fun e W' ⟨he, hb⟩ => ?_
  subst he
  exact ⟨_, rfl, law_post (B := 4) (by kernel_rfl) (by kernel_rfl) rfl Try.underlying4 rfl hW' rfl hb⟩

/-- The statement: for every input the law returns true, and the arguments read afterwards as before. -/
theorem proved : Rows.FnExactValidPlaceSaid :=
  OpenClaim.holds_of_wide 5 Try.f5 rfl rfl rfl rfl rfl rfl rfl ⟨rfl, rfl, rfl, rfl, rfl⟩ rfl rfl rfl rfl rfl (by kernel_rfl) Try.func5 (by kernel_rfl)
    (of_decide_eq_true (by kernel_rfl)) (by unfold Func.isWrapper; first | (rw [if_pos (by decide +kernel)]; kernel_rfl) | (rw [if_neg (by decide +kernel)]; exact ⟨rfl, rfl⟩))
    (fun os started H enc _ => lifted os started H enc)
end Go.Proofs.Ytjddpbpambnlgab.fnExactValidPlace
