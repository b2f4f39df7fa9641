/- Proved: for every input the law FnExactRootUp returns true, and each argument reads afterwards as it read before; no condition beside those of the given row. -/
import Derived.Test.YtjddpbpambnlgabRows
import Derived.WalkKit
import Derived.ProofKit
import Derived.OpenShut
import Derived.Lib.Hide
import Derived.Handy
import Derived.Carry
import Derived.Lib.SmallJoins
namespace Go.Proofs.Ytjddpbpambnlgab
open Go.ChangeShapes Go.WideShapes Go.ChangeAt Go.RowKit
set_option linter.unusedVariables false
set_option linter.unusedSimpArgs false

theorem trodAll_stay {H : Type} {enc : TypeId × Value → H} {P : Program} (hl : laidOutB P = true) {W W' : World} (hb : Below W.heap.size W W') :
    ∀ (ts : List TypeId) (vs : List Value) (ds : List (DataW H)) (ps : List MemPlace), ts.all (fun t => P.readableRec t && decide (t < P.types.size)) = true →
      DataW.TrodAll enc P W 0 (fun _ => true) true ts vs ds ps → (∀ x ∈ ps, x.block < W.heap.size) →
      DataW.TrodAll enc P W' 0 (fun b => decide (b < W.heap.size)) true ts vs ds ps := by
  intro ts
  induction ts with
  | nil => intro vs ds ps _ h _; obtain ⟨rfl, rfl, rfl⟩ := trodAll_nil h; exact rfl
  | cons t ts ih =>
    intro vs ds ps hr h hlt
    simp only [List.all_cons, Bool.and_eq_true, decide_eq_true_eq] at hr
    obtain ⟨v, vs', d, ds', p, q, rfl, rfl, rfl, h0, h1⟩ := trodAll_cons h
    exact ⟨p, q, Below.trod hl hr.1.1 hr.1.2 h0 hb (fun x hx => hlt x (by simp [hx])), ih _ _ _ hr.2 h1 (fun x hx => hlt x (by simp [hx])), rfl⟩

/-- A law's row at its end: it returned true, and of what was there nothing has turned. -/
theorem law_post {H : Type} {enc : TypeId × Value → H} {P : Program} {f : Func} {s : ChangeSpec} {W W' : World} {args : Array Value} {ds gs : List (DataW H)} {before : List MemPlace} {B : TypeId}
    (hl : laidOutB P = true) (hr : f.params.toList.all (fun t => P.readableRec t && decide (t < P.types.size)) = true)
    (hres : f.resultTypes = #[B]) (hB : P.underlying B = some .bool) (hv : s.vars = [])
    (hW : DataW.Whole enc P f.params.toList s.vars false W args.toList ds gs before)
    (hfn : s.fn H (ds ++ gs) = { results := [.lit (.bool true)], args := ds }) (hb : Below W.heap.size W W') :
    s.post enc P f false true false false W args (.bool true) W' := by
  have hlt : ∀ p ∈ before, p.block < W.heap.size := fun p hp => hW.lt p hp
  have hW' := hW
  obtain ⟨p, q, hA, hV, rfl, _, _⟩ := hW'
  rw [hv] at hV
  obtain ⟨rfl, rfl⟩ := trodVars_none hV
  refine ⟨ds, [], p ++ [], [], p, [], hW, ?_, ?_, ?_, hb.frame _, fun h => by cases h⟩
  · rw [hfn, hres]
    exact trodAll_cons_mk (shut_bool hB _) trodAll_mk0
  · rw [hfn]
    exact trodAll_stay hl hb _ _ _ _ hr hA (fun x hx => hlt x (by simp [hx]))
  · rw [hfn, hv]
    exact rfl

theorem kept_cell {W w1 : World} (hb : Below W.heap.size W w1) (b o : Nat) (h : b < W.heap.size) : w1.cell? ⟨b, o, none⟩ = W.cell? ⟨b, o, none⟩ := hb.cell (p := ⟨b, o, none⟩) h

theorem kept_frozen {W w1 : World} (hb : Below W.heap.size W w1) (b o : Nat) (h : b < W.heap.size) : w1.frozen? ⟨b, o, none⟩ = W.frozen? ⟨b, o, none⟩ := hb.frozen (p := ⟨b, o, none⟩) h

theorem kept_trans {a b c : World} (h : Below a.heap.size a b) (k : Below b.heap.size b c) : Below a.heap.size a c := h.trans (k.mono h.size)

theorem kept_at {W w1 : World} (hb : Below W.heap.size W w1) (b : Nat) {G : Prop} (h : b < W.heap.size)
    (k : (∀ o, w1.cell? ⟨b, o, none⟩ = W.cell? ⟨b, o, none⟩) → (∀ o, w1.frozen? ⟨b, o, none⟩ = W.frozen? ⟨b, o, none⟩) → G) : G :=
  k (fun o => kept_cell hb b o h) (fun o => kept_frozen hb b o h)

def inB (n low high : Int) : Bool := decide (low ≤ n) && decide (n ≤ high)

theorem in_any (n low high : Int) (w : World) :
    Calls Try.prog 24 #[.int .i64 n, .int .i64 low, .int .i64 high] w fun e w' => e = .returned (.bool (inB n low high)) ∧ w = w' := by
  unfold inB
  by_cases h1 : low ≤ n <;> by_cases h2 : n ≤ high <;>
  · go_enter Try.func24, Try.ntmps24
    go_wp2
    go_ret
    exact ⟨by simp [*], rfl⟩

theorem inB_true {n a b : Int} (h : inB n a b = true) : a ≤ n ∧ n ≤ b := by simpa [inB] using h

theorem sq_bd (a k : Int) (h1 : -k ≤ a) (h2 : a ≤ k) : 0 ≤ a * a ∧ a * a ≤ k * k := by
  refine ⟨by rcases Int.le_total 0 a with h | h; exact Int.mul_nonneg h h; exact Int.mul_nonneg_of_nonpos_of_nonpos h h, ?_⟩
  rcases Int.le_total 0 a with h | h
  · exact Int.mul_le_mul h2 h2 h (by omega)
  · have := Int.mul_le_mul (show -a ≤ k by omega) (show -a ≤ k by omega) (by omega) (by omega)
    rwa [Int.neg_mul_neg] at this

def IsRoot (n r : Int) : Prop := 0 ≤ r ∧ n ≤ r * r ∧ ∀ q, 0 ≤ q → q < r → q * q < n

open Classical in
noncomputable def rootL (n : Int) : Int := if h : ∃ r, IsRoot n r then Classical.choose h else 0

theorem rootL_eq {n r : Int} (h : IsRoot n r) : rootL n = r := by
  have hex : ∃ r, IsRoot n r := ⟨r, h⟩
  unfold rootL
  rw [dif_pos hex]
  obtain ⟨a1, a2, a3⟩ := Classical.choose_spec hex
  obtain ⟨b1, b2, b3⟩ := h
  rcases Int.lt_trichotomy (Classical.choose hex) r with h | h | h
  · have := b3 _ a1 h; omega
  · exact h
  · have := a3 _ b1 h; omega

theorem sq_lt {q m n : Int} (h0 : 0 ≤ q) (h1 : q ≤ m) (h2 : m * m < n) : q * q < n := by
  have := Int.mul_le_mul h1 h1 h0 (by omega)
  omega

theorem closure_any (i n : Int) (b : Nat) (w : World) (h0 : 0 ≤ i) (h1 : i ≤ 1000000) (hc : w.cell? ⟨b, 0, none⟩ = some (.int .i64 n)) :
    Calls Try.prog 30 #[.int .i64 i, .pointer (some ⟨b, 0, none⟩)] w fun e w' => e = .returned (.bool (decide (n ≤ i * i))) ∧ w = w' := by
  have hs := sq_bd i 1000000 (by omega) h1
  go_enter Try.func30, Try.ntmps30
  go_wp2
  go_ret
  exact ⟨by simp [IntWalk.wrap64_in (i * i) (by omega)], rfl⟩

theorem search_any (n : Int) (b : Nat) (w : World) (h0 : 0 ≤ n) (h1 : n ≤ 1000000000000) (hc : w.cell? ⟨b, 0, none⟩ = some (.int .i64 n)) :
    Calls Try.prog 29 #[.int .i64 1000000, .func (Fn.func 30) #[] #[.pointer (some ⟨b, 0, none⟩)]] w fun e w' => e = .returned (.int .i64 (rootL n)) ∧ w = w' := by
  go_enter Try.func29, Try.ntmps29
  go_wp2_with fail
  go_loop [5, 6] (fun i j => ∃ lo hi : Int, 0 ≤ lo ∧ lo ≤ hi ∧ hi ≤ 1000000 ∧ i = .int .i64 lo ∧ j = .int .i64 hi ∧ (∀ q, 0 ≤ q → q < lo → q * q < n) ∧ n ≤ hi * hi) (fun i j => (intOf j - intOf i).toNat)
  case atStart => exact ⟨0, 1000000, by omega, by omega, by omega, rfl, rfl, fun q h1 h2 => by omega, by omega⟩
  case round =>
    obtain ⟨lo, hi, h2, h3, h4, rfl, rfl, h5, h6⟩ := hrel
    have H5 := Lib.hid h5; clear h5
    by_cases hlt : lo < hi
    · have g1 : lo ≤ (lo + hi) / 2 := by omega
      have g2 : (lo + hi) / 2 < hi := by omega
      cases hp : decide (n ≤ (lo + hi) / 2 * ((lo + hi) / 2))
      all_goals
        have hp' : Hid (_ = _) := hp
        go_wp2_with (go_at_call 30; refine (closure_any _ n _ _ (by omega) (by omega) hc).mono ?_; rintro e w' ⟨rfl, rfl⟩)
        go_round
        case rel => first
          | exact ⟨(lo + hi) / 2 + 1, hi, by omega, by omega, h4, rfl, rfl, fun q a c => sq_lt a (by omega) (Int.not_le.mp (of_decide_eq_false hp)), h6⟩
          | exact ⟨lo, (lo + hi) / 2, h2, g1, by omega, rfl, rfl, H5.out, of_decide_eq_true hp⟩
        case measure => simp [intOf]; omega
    · have : lo = hi := by omega
      subst this
      have e := rootL_eq (n := n) ⟨h2, h6, H5.out⟩
      go_wp2
      go_ret
      exact ⟨by simp [e], rfl⟩

theorem implRootUp_any (n : Int) (w : World) :
    Calls Try.prog 18 #[.int .i64 n] w fun e w' => e = .returned (.tuple #[.int .i64 (if inB n 0 1000000000000 then rootL n else 0), .int .i64 (if inB n 0 1000000000000 then 0 else 2)]) ∧ Below w.heap.size w w' := by
  by_cases h0 : 0 ≤ n
  · by_cases h1 : n ≤ 1000000000000
    · rw [show inB n 0 1000000000000 = true by simp [inB, *]]
      go_enter Try.func18, Try.ntmps18
      go_wp2_with (go_at_call 29; refine (search_any n _ _ h0 h1 (by simp)).mono ?_; rintro e w1 ⟨rfl, rfl⟩)
      go_ret2
      exact ⟨rfl, by go_grown⟩
    · rw [show inB n 0 1000000000000 = false by simp [inB, *]]
      go_enter Try.func18, Try.ntmps18
      go_wp2
      go_ret2
      exact ⟨rfl, by go_grown⟩
  · rw [show inB n 0 1000000000000 = false by simp [inB, *]]
    go_enter Try.func18, Try.ntmps18
    go_wp2
    go_ret2
    exact ⟨rfl, by go_grown⟩

theorem l02Root_any (n : Int) (w : World) (h0 : 0 ≤ n) (h1 : n ≤ 1000000000000) :
    Calls Try.prog 20 #[.int .i64 n] w fun e w' => e = .returned (.int .i64 (rootL n)) ∧ w = w' := by
  go_enter Try.func20, Try.ntmps20
  go_wp2_with fail
  go_loop [3, 4] (fun i j => ∃ lo hi : Int, 0 ≤ lo ∧ lo ≤ hi ∧ hi ≤ 2000000 ∧ i = .int .i64 lo ∧ j = .int .i64 hi ∧ (∀ q, 0 ≤ q → q < lo → q * q < n) ∧ n ≤ hi * hi) (fun i j => (intOf j - intOf i).toNat)
  case atStart => exact ⟨0, 2000000, by omega, by omega, by omega, rfl, rfl, fun q h1 h2 => by omega, by omega⟩
  case round =>
    obtain ⟨lo, hi, h2, h3, h4, rfl, rfl, h5, h6⟩ := hrel
    have H5 := Lib.hid h5; clear h5
    by_cases hlt : lo < hi
    · have g1 : lo ≤ (lo + hi) / 2 := by omega
      have g2 : (lo + hi) / 2 < hi := by omega
      have hs := sq_bd ((lo + hi) / 2) 2000000 (by omega) (by omega)
      by_cases hp : n ≤ (lo + hi) / 2 * ((lo + hi) / 2)
      all_goals
        go_wp2
        go_round
        case rel => first
          | exact ⟨(lo + hi) / 2 + 1, hi, by omega, by omega, h4, rfl, rfl, fun q a c => sq_lt a (by omega) (Int.not_le.mp hp), h6⟩
          | exact ⟨lo, (lo + hi) / 2, h2, g1, by omega, rfl, rfl, H5.out, hp⟩
        case measure => simp [intOf]; omega
    · have : lo = hi := by omega
      subst this
      have e := rootL_eq (n := n) ⟨h2, h6, H5.out⟩
      go_wp2
      go_ret
      exact ⟨by simp [e], rfl⟩

theorem specRootUp_any (n : Int) (w : World) :
    Calls Try.prog 17 #[.int .i64 n] w fun e w' => e = .returned (.tuple #[.int .i64 (if inB n 0 1000000000000 then rootL n else 0), .int .i64 (if inB n 0 1000000000000 then 0 else 2)]) ∧ w = w' := by
  cases h : inB n 0 1000000000000
  · go_enter Try.func17, Try.ntmps17
    go_wp2_with (go_at_call 24; refine (in_any _ _ _ _).mono ?_; rintro e w1 ⟨rfl, rfl⟩)
    go_ret2
    exact ⟨by simp, rfl⟩
  · have g := inB_true h
    go_enter Try.func17, Try.ntmps17
    go_wp2_with (first | (go_at_call 24; refine (in_any _ _ _ _).mono ?_; rintro e w1 ⟨rfl, rfl⟩) | (go_at_call 20; refine (l02Root_any _ _ g.1 g.2).mono ?_; rintro e w1 ⟨rfl, rfl⟩))
    go_ret2
    exact ⟨by simp, rfl⟩

theorem walk_FnExactRootUp (n : Int) (w0 : (Lit.int .i64 n).wf = true) (w : World) :
    Calls Try.prog 6 #[.int .i64 n] w fun e w' => e = .returned (.bool true) ∧ Below w.heap.size w w' := by
  go_enter Try.func6, Try.ntmps6
  go_wp2_with (first | (go_at_call 17; refine (specRootUp_any _ _).mono ?_; rintro e w1 ⟨rfl, rfl⟩) | (go_at_call 18; refine (implRootUp_any _ _).mono ?_; rintro e w1 ⟨rfl, hb⟩; have hs := hb.size; (try simp at hs); (try (refine kept_at hb (w.heap.size) ?_ (fun hc0 hz0 => ?_); focus go_size)); (try (refine kept_at hb (w.heap.size + 1) ?_ (fun hc1 hz1 => ?_); focus go_size)); (try (refine kept_at hb (w.heap.size + 2) ?_ (fun hc2 hz2 => ?_); focus go_size)); (try (refine kept_at hb (w.heap.size + 3) ?_ (fun hc3 hz3 => ?_); focus go_size)); (try (refine kept_at hb (w.heap.size + 4) ?_ (fun hc4 hz4 => ?_); focus go_size)); (try (refine kept_at hb (w.heap.size + 5) ?_ (fun hc5 hz5 => ?_); focus go_size)); replace hb := kept_trans (a := w) (by go_grown) hb; have hcl := kept_cell hb; have hzl := kept_frozen hb))
  all_goals
    go_ret
    exact ⟨rfl, by go_grown⟩

end Go.Proofs.Ytjddpbpambnlgab
namespace Go.Proofs.Ytjddpbpambnlgab.fnExactRootUp
open Go.ChangeShapes Go.WideShapes Go.ChangeAt Go.RowKit
set_option linter.unusedVariables false
set_option linter.unusedSimpArgs false
open Go.Joins
set_option maxRecDepth 100000 in
theorem lifted (os : Os) (started : os.Started) (H : Type) (enc : TypeId × Value → H) :
    ReturnsInHanded {} Try.checked os 6 .any (Rows.fnExactRootUpSpec.pre6 enc Try.prog Try.f6 Rows.fnExactRootUpRow.domain false) (Rows.fnExactRootUpSpec.post enc Try.prog Try.f6 false true false false) := by
  refine returnsInHanded_of_change (C := Try.checked) (show ownKnob Try.prog.godebug = none by kernel_rfl) started (by kernel_rfl) Try.func6
    (ChangeSpec.witness6 (enc := enc) (C := Try.checked) false ⟨#[], #[.int .i64 0], []⟩ 8 (by kernel_rfl) (by kernel_rfl) (by kernel_rfl) (by kernel_rfl)) ?_
  intro W base args ds gs before hval0 hW hcnd _
  have hval : ∀ (j : Nat) t v, Try.f6.params[j]? = some t → args[j]? = some v → Value.okWide Try.prog W .any base t v := hval0
  have hW' := hW
  obtain ⟨p, q, hA0, hV, rfl, hfz, hnd⟩ := hW
  have hA : DataW.TrodAll enc Try.prog W 0 (fun _ => true) true Try.f6.params.toList args.toList ds p := hA0
  rw [Try.params6] at hA hval
  obtain ⟨v0, vs0, d0, ds0, p0, q0, hargs, rfl, rfl, h0, r0⟩ := trodAll_cons hA
  obtain ⟨rfl, rfl, rfl⟩ := trodAll_nil r0
  obtain rfl : args = #[v0] := by cases args; simp_all
  obtain ⟨rfl, rfl⟩ := trodVars_none hV
  obtain ⟨a0, rfl, rfl, rfl, w0⟩ := open_int Try.underlying2 (hval 0 2 v0 rfl rfl) h0
  clear hA0 hval0
  refine (walk_FnExactRootUp a0 w0 W).mono fun e W' ⟨he, hb⟩ => ?_
  subst he
  exact ⟨_, rfl, law_post (B := 4) (by kernel_rfl) (by kernel_rfl) rfl Try.underlying4 rfl hW' rfl hb⟩

/-- The statement: for every input the law returns true, and the arguments read afterwards as before. -/
theorem proved : Rows.FnExactRootUpSaid :=
  OpenClaim.holds_of_wide 6 Try.f6 rfl rfl rfl rfl rfl rfl rfl ⟨rfl, rfl, rfl, rfl, rfl⟩ rfl rfl rfl rfl rfl (by kernel_rfl) Try.func6 (by kernel_rfl)
    (of_decide_eq_true (by kernel_rfl)) (by unfold Func.isWrapper; first | (rw [if_pos (by decide +kernel)]; kernel_rfl) | (rw [if_neg (by decide +kernel)]; exact ⟨rfl, rfl⟩))
    (fun os started H enc _ => lifted os started H enc)
end Go.Proofs.Ytjddpbpambnlgab.fnExactRootUp
