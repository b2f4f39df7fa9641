/- Proved: for every input the law FnExactLiftMargin returns true, and each argument reads afterwards as it read before; no condition beside those of the given row. -/
import Derived.Test.YtnflaeimiegepaaRows
import Derived.WalkKit
import Derived.ProofKit
import Derived.OpenShut
import Derived.Lib.Hide
import Derived.Handy
import Derived.BigQuiet
import Derived.Carry
import Derived.Deep.QuietTactic
import Derived.Deep.RegionHeld3
import Derived.Deep.SlicePairs
import Derived.Laws.RangeAny
import Derived.Lib.SmallJoins
import Derived.Shelf.Abstract
import Derived.Lib.SmallJoins
import Derived.ChangeMaps5
namespace Go.Proofs.Ytnflaeimiegepaa
open Go.ChangeShapes Go.WideShapes Go.ChangeAt Go.RowKit
set_option linter.unusedVariables false
set_option linter.unusedSimpArgs false

theorem tmod_pos (n k : Int) (h : 0 ≤ n) : n.tmod k = n % k := Int.tmod_eq_emod_of_nonneg h

theorem trodAll_stay {H : Type} {enc : TypeId × Value → H} {P : Program} (hl : laidOutB P = true) {W W' : World} (hb : Below W.heap.size W W') :
    ∀ (ts : List TypeId) (vs : List Value) (ds : List (DataW H)) (ps : List MemPlace), ts.all (fun t => P.readableRec t && decide (t < P.types.size)) = true →
      DataW.TrodAll enc P W 0 (fun _ => true) true ts vs ds ps → (∀ x ∈ ps, x.block < W.heap.size) →
      DataW.TrodAll enc P W' 0 (fun b => decide (b < W.heap.size)) true ts vs ds ps := by
  intro ts
  induction ts with
  | nil => intro vs ds ps _ h _; obtain ⟨rfl, rfl, rfl⟩ := trodAll_nil h; exact rfl
  | cons t ts ih =>
    intro vs ds ps hr h hlt
    simp only [List.all_cons, Bool.and_eq_true, decide_eq_true_eq] at hr
    obtain ⟨v, vs', d, ds', p, q, rfl, rfl, rfl, h0, h1⟩ := trodAll_cons h
    exact ⟨p, q, Below.trod hl hr.1.1 hr.1.2 h0 hb (fun x hx => hlt x (by simp [hx])), ih _ _ _ hr.2 h1 (fun x hx => hlt x (by simp [hx])), rfl⟩

/-- A law's row at its end: it returned true, and of what was there nothing has turned. -/
theorem law_post {H : Type} {enc : TypeId × Value → H} {P : Program} {f : Func} {s : ChangeSpec} {W W' : World} {args : Array Value} {ds gs : List (DataW H)} {before : List MemPlace} {B : TypeId}
    (hl : laidOutB P = true) (hr : f.params.toList.all (fun t => P.readableRec t && decide (t < P.types.size)) = true)
    (hres : f.resultTypes = #[B]) (hB : P.underlying B = some .bool) (hv : s.vars = [])
    (hW : DataW.Whole enc P f.params.toList s.vars false W args.toList ds gs before)
    (hfn : s.fn H (ds ++ gs) = { results := [.lit (.bool true)], args := ds }) (hb : Below W.heap.size W W') :
    s.post enc P f false true false false W args (.bool true) W' := by
  have hlt : ∀ p ∈ before, p.block < W.heap.size := fun p hp => hW.lt p hp
  have hW' := hW
  obtain ⟨p, q, hA, hV, rfl, _, _⟩ := hW'
  rw [hv] at hV
  obtain ⟨rfl, rfl⟩ := trodVars_none hV
  refine ⟨ds, [], p ++ [], [], p, [], hW, ?_, ?_, ?_, hb.frame _, fun h => by cases h⟩
  · rw [hfn, hres]
    exact trodAll_cons_mk (shut_bool hB _) trodAll_mk0
  · rw [hfn]
    exact trodAll_stay hl hb _ _ _ _ hr hA (fun x hx => hlt x (by simp [hx]))
  · rw [hfn, hv]
    exact rfl

theorem kept_cell {W w1 : World} (hb : Below W.heap.size W w1) (b o : Nat) (h : b < W.heap.size) : w1.cell? ⟨b, o, none⟩ = W.cell? ⟨b, o, none⟩ := hb.cell (p := ⟨b, o, none⟩) h

theorem kept_frozen {W w1 : World} (hb : Below W.heap.size W w1) (b o : Nat) (h : b < W.heap.size) : w1.frozen? ⟨b, o, none⟩ = W.frozen? ⟨b, o, none⟩ := hb.frozen (p := ⟨b, o, none⟩) h

theorem kept {W w1 : World} (hb : Below W.heap.size W w1) :
    (∀ b o, b < W.heap.size → w1.cell? ⟨b, o, none⟩ = W.cell? ⟨b, o, none⟩) ∧ (∀ b o, b < W.heap.size → w1.frozen? ⟨b, o, none⟩ = W.frozen? ⟨b, o, none⟩) ∧ W.heap.size ≤ w1.heap.size :=
  ⟨kept_cell hb, kept_frozen hb, hb.size⟩

theorem kept_trans {a b c : World} (h : Below a.heap.size a b) (k : Below b.heap.size b c) : Below a.heap.size a c := h.trans (k.mono h.size)

theorem kept_at {W w1 : World} (hb : Below W.heap.size W w1) (b : Nat) {G : Prop} (h : b < W.heap.size)
    (k : (∀ o, w1.cell? ⟨b, o, none⟩ = W.cell? ⟨b, o, none⟩) → (∀ o, w1.frozen? ⟨b, o, none⟩ = W.frozen? ⟨b, o, none⟩) → b < w1.heap.size → G) : G :=
  k (fun o => kept_cell hb b o h) (fun o => kept_frozen hb b o h) (Nat.lt_of_lt_of_le h hb.size)

theorem kept_drewN {B : Nat} {a w : World} (h : Below B a w) (n : Nat) : Below B a (w.drewN n) := { os := h.os, tape := h.tape, output := h.output, size := h.size, block := h.block }

theorem grown_step {a b c : World} {row : Option Nat} (h : a.grownBy b row) (k : b.grownBy c row) : a.grownBy c row :=
  ⟨k.os.trans h.os, k.tape.trans h.tape, k.output.trans h.output, Nat.le_trans h.size k.size, fun i hi hne => (k.block i (Nat.lt_of_lt_of_le hi h.size) hne).trans (h.block i hi hne)⟩

theorem grown_below {a b c : World} {row : Option Nat} (h : Below a.heap.size a b) (k : b.grownBy c row) (hr : ∀ g, row = some g → a.heap.size ≤ g) : Below a.heap.size a c := h.grown k h.size hr

theorem results_cell1 {fn : Func} {p : Tmp} {ty : TypeId} (h : fn.results = #[.cell p ty]) (tmps : Array Value) (P : Program) (w : World) :
    (results fn tmps).run P w = ((asAddr (tmps.getD p undef)).run P w).andThen fun a w₁ => (loadVar ty a).run P w₁ := by
  simp only [results, h]
  simp [Sem.run_bind, Result.andThen]

theorem grown_set (w : World) (a : Addr) (u : Value) : w.grownBy (w.setCell a u) (some a.block) :=
  ⟨rfl, rfl, rfl, by simp, fun k _ hk => heap_setCell_other w a k u (fun e => hk (by rw [e]))⟩

def inB (n low high : Int) : Bool := decide (low ≤ n) && decide (n ≤ high)

theorem in_any (n low high : Int) (w : World) :
    Calls Try.prog 81 #[.int .i64 n, .int .i64 low, .int .i64 high] w fun e w' => e = .returned (.bool (inB n low high)) ∧ w = w' := by
  unfold inB
  by_cases h1 : low ≤ n <;> by_cases h2 : n ≤ high <;>
  · go_enter Try.func81, Try.ntmps81
    go_wp2
    go_ret
    exact ⟨by simp [*], rfl⟩

theorem inB_true {n a b : Int} (h : inB n a b = true) : a ≤ n ∧ n ≤ b := by simpa [inB] using h

theorem inB_false {n a b : Int} (h : inB n a b = false) : ¬ (a ≤ n ∧ n ≤ b) := by simpa [inB] using h

def okP (x y : Int) : Bool := inB x (-10000) 10000 && inB y (-10000) 10000

theorem okP_true {x y : Int} (h : okP x y = true) : (-10000 ≤ x ∧ x ≤ 10000) ∧ -10000 ≤ y ∧ y ≤ 10000 := by
  simp only [okP, Bool.and_eq_true] at h
  exact ⟨inB_true h.1, inB_true h.2⟩

theorem specOk_any (x y : Int) (w : World) :
    Calls Try.prog 99 #[.agg #[.int .i64 x, .int .i64 y]] w fun e w' => e = .returned (.bool (okP x y)) ∧ Below w.heap.size w w' := by
  unfold okP
  cases h1 : inB x (-10000) 10000 <;>
  · go_enter Try.func99, Try.ntmps99
    go_wp2_with (go_at_call 81; refine (in_any _ _ _ _).mono ?_; rintro e w' ⟨rfl, rfl⟩)
    go_ret
    exact ⟨by simp, by go_grown⟩

theorem validPlace_any (x y : Int) (w : World) :
    Calls Try.prog 75 #[.agg #[.int .i64 x, .int .i64 y]] w fun e w' => e = .returned (.bool (okP x y)) ∧ Below w.heap.size w w' := by
  unfold okP inB
  rcases (show ¬ -10000 ≤ x ∨ (-10000 ≤ x ∧ ¬ x ≤ 10000) ∨ (-10000 ≤ x ∧ x ≤ 10000 ∧ ¬ -10000 ≤ y) ∨ (-10000 ≤ x ∧ x ≤ 10000 ∧ -10000 ≤ y ∧ ¬ y ≤ 10000) ∨ (-10000 ≤ x ∧ x ≤ 10000 ∧ -10000 ≤ y ∧ y ≤ 10000) from by omega) with h1 | ⟨h1, h2⟩ | ⟨h1, h2, h3⟩ | ⟨h1, h2, h3, h4⟩ | ⟨h1, h2, h3, h4⟩
  all_goals
    go_enter Try.func75, Try.ntmps75
    go_wp2
    go_ret
    exact ⟨by simp [*] <;> omega, by go_grown⟩

theorem toPoint_any (x y : Int) (w : World) :
    Calls Try.prog 38 #[.agg #[.int .i64 x, .int .i64 y]] w fun e w' => e = .returned (.agg #[.int .i64 x, .int .i64 y]) ∧ Below w.heap.size w w' := by
  go_enter Try.func38, Try.ntmps38
  go_wp2
  go_returns
  exact ⟨rfl, by go_grown⟩

theorem minus_any (x y u v : Int) (h1 : -20000 ≤ x ∧ x ≤ 20000) (h2 : -20000 ≤ y ∧ y ≤ 20000) (h3 : -20000 ≤ u ∧ u ≤ 20000) (h4 : -20000 ≤ v ∧ v ≤ 20000) (w : World) :
    Calls Try.prog 117 #[.agg #[.int .i64 x, .int .i64 y], .agg #[.int .i64 u, .int .i64 v]] w fun e w' => e = .returned (.agg #[.int .i64 (x - u), .int .i64 (y - v)]) ∧ Below w.heap.size w w' := by
  go_enter Try.func117, Try.ntmps117
  go_wp2
  go_returns
  exact ⟨rfl, by go_grown⟩

theorem scalar_any (x y u v : Int) (w : World) :
    Calls Try.prog 118 #[.agg #[.int .i64 x, .int .i64 y], .agg #[.int .i64 u, .int .i64 v]] w fun e w' => e = .returned (.int .i64 (wrap64 (wrap64 (x * u) + wrap64 (y * v)))) ∧ Below w.heap.size w w' := by
  go_enter Try.func118, Try.ntmps118
  go_wp2
  go_returns
  exact ⟨rfl, by go_grown⟩

theorem l02Square_any (x y u v : Int) (h1 : -20000 ≤ x ∧ x ≤ 20000) (h2 : -20000 ≤ y ∧ y ≤ 20000) (h3 : -20000 ≤ u ∧ u ≤ 20000) (h4 : -20000 ≤ v ∧ v ≤ 20000) (w : World) :
    Calls Try.prog 62 #[.agg #[.int .i64 x, .int .i64 y], .agg #[.int .i64 u, .int .i64 v]] w fun e w' => e = .returned (.int .i64 (wrap64 (wrap64 ((x - u) * (x - u)) + wrap64 ((y - v) * (y - v))))) ∧ Below w.heap.size w w' := by
  go_enter Try.func62, Try.ntmps62
  go_wp2
  go_returns
  exact ⟨rfl, by go_grown⟩

theorem sq_bd (a k : Int) (h1 : -k ≤ a) (h2 : a ≤ k) : 0 ≤ a * a ∧ a * a ≤ k * k := by
  refine ⟨by rcases Int.le_total 0 a with h | h; exact Int.mul_nonneg h h; exact Int.mul_nonneg_of_nonpos_of_nonpos h h, ?_⟩
  rcases Int.le_total 0 a with h | h
  · exact Int.mul_le_mul h2 h2 h (by omega)
  · have := Int.mul_le_mul (show -a ≤ k by omega) (show -a ≤ k by omega) (by omega) (by omega)
    rwa [Int.neg_mul_neg] at this

def sqL (x y u v : Int) : Int × Int := if okP x y && okP u v then ((u - x) * (u - x) + (v - y) * (v - y), 0) else (0, 1)

theorem sq_sym (a b : Int) : (a - b) * (a - b) = (b - a) * (b - a) := by
  rw [show a - b = -(b - a) by omega, Int.neg_mul_neg]

theorem sq_wrap (a b : Int) (h1 : -20000 ≤ a ∧ a ≤ 20000) (h2 : -20000 ≤ b ∧ b ≤ 20000) : wrap64 (wrap64 (a * a) + wrap64 (b * b)) = a * a + b * b := by
  have p := sq_bd a 20000 h1.1 h1.2
  have q := sq_bd b 20000 h2.1 h2.2
  rw [IntWalk.wrap64_in (a * a) (by omega), IntWalk.wrap64_in (b * b) (by omega), IntWalk.wrap64_in _ (by omega)]

theorem implSquare_any (x y u v : Int) (w : World) :
    Calls Try.prog 108 #[.agg #[.int .i64 x, .int .i64 y], .agg #[.int .i64 u, .int .i64 v]] w fun e w' => e = .returned (.tuple #[.int .i64 (sqL x y u v).1, .int .i64 (sqL x y u v).2]) ∧ Below w.heap.size w w' := by
  cases h1 : okP x y <;> cases h2 : okP u v
  case true.true =>
    have g1 := okP_true h1
    have g2 := okP_true h2
    have E := sq_wrap (u - x) (v - y) (by omega) (by omega)
    have F : sqL x y u v = (wrap64 (wrap64 ((u - x) * (u - x)) + wrap64 ((v - y) * (v - y))), 0) := by rw [E]; simp [sqL, *]
    rw [F]
    clear E F
    go_enter Try.func108, Try.ntmps108
    go_wp2_with (first | (go_at_call 75; refine (validPlace_any _ _ _).mono ?_; rintro e w1 ⟨rfl, hb⟩; have hs := hb.size; (try simp at hs); (try (refine kept_at hb (w.heap.size) ?_ (fun hc0 hz0 hs0 => ?_); focus go_size)); (try (refine kept_at hb (w.heap.size + 1) ?_ (fun hc1 hz1 hs1 => ?_); focus go_size)); (try (refine kept_at hb (w.heap.size + 2) ?_ (fun hc2 hz2 hs2 => ?_); focus go_size)); (try (refine kept_at hb (w.heap.size + 3) ?_ (fun hc3 hz3 hs3 => ?_); focus go_size)); (try (refine kept_at hb (w.heap.size + 4) ?_ (fun hc4 hz4 hs4 => ?_); focus go_size)); (try (refine kept_at hb (w.heap.size + 5) ?_ (fun hc5 hz5 hs5 => ?_); focus go_size)); replace hb := kept_trans (a := w) (by go_grown) hb; have hcl := kept_cell hb; have hzl := kept_frozen hb) | (go_at_call 117; refine (minus_any _ _ _ _ (by omega) (by omega) (by omega) (by omega) _).mono ?_; rintro e w1 ⟨rfl, hb⟩; have hs := hb.size; (try simp at hs); (try (refine kept_at hb (w.heap.size) ?_ (fun hc0 hz0 hs0 => ?_); focus go_size)); (try (refine kept_at hb (w.heap.size + 1) ?_ (fun hc1 hz1 hs1 => ?_); focus go_size)); (try (refine kept_at hb (w.heap.size + 2) ?_ (fun hc2 hz2 hs2 => ?_); focus go_size)); (try (refine kept_at hb (w.heap.size + 3) ?_ (fun hc3 hz3 hs3 => ?_); focus go_size)); (try (refine kept_at hb (w.heap.size + 4) ?_ (fun hc4 hz4 hs4 => ?_); focus go_size)); (try (refine kept_at hb (w.heap.size + 5) ?_ (fun hc5 hz5 hs5 => ?_); focus go_size)); replace hb := kept_trans (a := w) (by go_grown) hb; have hcl := kept_cell hb; have hzl := kept_frozen hb) | (go_at_call 118; refine (scalar_any _ _ _ _ _).mono ?_; rintro e w1 ⟨rfl, hb⟩; have hs := hb.size; (try simp at hs); (try (refine kept_at hb (w.heap.size) ?_ (fun hc0 hz0 hs0 => ?_); focus go_size)); (try (refine kept_at hb (w.heap.size + 1) ?_ (fun hc1 hz1 hs1 => ?_); focus go_size)); (try (refine kept_at hb (w.heap.size + 2) ?_ (fun hc2 hz2 hs2 => ?_); focus go_size)); (try (refine kept_at hb (w.heap.size + 3) ?_ (fun hc3 hz3 hs3 => ?_); focus go_size)); (try (refine kept_at hb (w.heap.size + 4) ?_ (fun hc4 hz4 hs4 => ?_); focus go_size)); (try (refine kept_at hb (w.heap.size + 5) ?_ (fun hc5 hz5 hs5 => ?_); focus go_size)); replace hb := kept_trans (a := w) (by go_grown) hb; have hcl := kept_cell hb; have hzl := kept_frozen hb))
    go_ret2
    exact ⟨rfl, by go_grown⟩
  all_goals
    rw [show sqL x y u v = (0, 1) by simp [sqL, *]]
    go_enter Try.func108, Try.ntmps108
    go_wp2_with (go_at_call 75; refine (validPlace_any _ _ _).mono ?_; rintro e w1 ⟨rfl, hb⟩; have hs := hb.size; (try simp at hs); (try (refine kept_at hb (w.heap.size) ?_ (fun hc0 hz0 hs0 => ?_); focus go_size)); (try (refine kept_at hb (w.heap.size + 1) ?_ (fun hc1 hz1 hs1 => ?_); focus go_size)); (try (refine kept_at hb (w.heap.size + 2) ?_ (fun hc2 hz2 hs2 => ?_); focus go_size)); (try (refine kept_at hb (w.heap.size + 3) ?_ (fun hc3 hz3 hs3 => ?_); focus go_size)); (try (refine kept_at hb (w.heap.size + 4) ?_ (fun hc4 hz4 hs4 => ?_); focus go_size)); (try (refine kept_at hb (w.heap.size + 5) ?_ (fun hc5 hz5 hs5 => ?_); focus go_size)); replace hb := kept_trans (a := w) (by go_grown) hb; have hcl := kept_cell hb; have hzl := kept_frozen hb)
    go_ret2
    exact ⟨rfl, by go_grown⟩

def IsRoot (n r : Int) : Prop := 0 ≤ r ∧ n ≤ r * r ∧ ∀ q, 0 ≤ q → q < r → q * q < n

open Classical in
noncomputable def rootL (n : Int) : Int := if h : ∃ r, IsRoot n r then Classical.choose h else 0

theorem rootL_eq {n r : Int} (h : IsRoot n r) : rootL n = r := by
  have hex : ∃ r, IsRoot n r := ⟨r, h⟩
  unfold rootL
  rw [dif_pos hex]
  obtain ⟨a1, a2, a3⟩ := Classical.choose_spec hex
  obtain ⟨b1, b2, b3⟩ := h
  rcases Int.lt_trichotomy (Classical.choose hex) r with h | h | h
  · have := b3 _ a1 h; omega
  · exact h
  · have := a3 _ b1 h; omega

theorem sq_lt {q m n : Int} (h0 : 0 ≤ q) (h1 : q ≤ m) (h2 : m * m < n) : q * q < n := by
  have := Int.mul_le_mul h1 h1 h0 (by omega)
  omega

theorem closure_any (i n : Int) (b : Nat) (w : World) (h0 : 0 ≤ i) (h1 : i ≤ 1000000) (hc : w.cell? ⟨b, 0, none⟩ = some (.int .i64 n)) :
    Calls Try.prog 120 #[.int .i64 i, .pointer (some ⟨b, 0, none⟩)] w fun e w' => e = .returned (.bool (decide (n ≤ i * i))) ∧ w = w' := by
  have hs := sq_bd i 1000000 (by omega) h1
  go_enter Try.func120, Try.ntmps120
  go_wp2
  go_ret
  exact ⟨by simp [IntWalk.wrap64_in (i * i) (by omega)], rfl⟩

theorem search_any (n : Int) (b : Nat) (w : World) (h0 : 0 ≤ n) (h1 : n ≤ 1000000000000) (hc : w.cell? ⟨b, 0, none⟩ = some (.int .i64 n)) :
    Calls Try.prog 119 #[.int .i64 1000000, .func (Fn.func 120) #[] #[.pointer (some ⟨b, 0, none⟩)]] w fun e w' => e = .returned (.int .i64 (rootL n)) ∧ w = w' := by
  go_enter Try.func119, Try.ntmps119
  go_wp2_with fail
  go_loop [5, 6] (fun i j => ∃ lo hi : Int, 0 ≤ lo ∧ lo ≤ hi ∧ hi ≤ 1000000 ∧ i = .int .i64 lo ∧ j = .int .i64 hi ∧ (∀ q, 0 ≤ q → q < lo → q * q < n) ∧ n ≤ hi * hi) (fun i j => (intOf j - intOf i).toNat)
  case atStart => exact ⟨0, 1000000, by omega, by omega, by omega, rfl, rfl, fun q h1 h2 => by omega, by omega⟩
  case round =>
    obtain ⟨lo, hi, h2, h3, h4, rfl, rfl, h5, h6⟩ := hrel
    have H5 := Lib.hid h5; clear h5
    by_cases hlt : lo < hi
    · have g1 : lo ≤ (lo + hi) / 2 := by omega
      have g2 : (lo + hi) / 2 < hi := by omega
      cases hp : decide (n ≤ (lo + hi) / 2 * ((lo + hi) / 2))
      all_goals
        have hp' : Hid (_ = _) := hp
        go_wp2_with (go_at_call 120; refine (closure_any _ n _ _ (by omega) (by omega) hc).mono ?_; rintro e w' ⟨rfl, rfl⟩)
        go_round
        case rel => first
          | exact ⟨(lo + hi) / 2 + 1, hi, by omega, by omega, h4, rfl, rfl, fun q a c => sq_lt a (by omega) (Int.not_le.mp (of_decide_eq_false hp)), h6⟩
          | exact ⟨lo, (lo + hi) / 2, h2, g1, by omega, rfl, rfl, H5.out, of_decide_eq_true hp⟩
        case measure => simp [intOf]; omega
    · have : lo = hi := by omega
      subst this
      have e := rootL_eq (n := n) ⟨h2, h6, H5.out⟩
      go_wp2
      go_ret
      exact ⟨by simp [e], rfl⟩

theorem implRootUp_any (n : Int) (w : World) :
    Calls Try.prog 109 #[.int .i64 n] w fun e w' => e = .returned (.tuple #[.int .i64 (if inB n 0 1000000000000 then rootL n else 0), .int .i64 (if inB n 0 1000000000000 then 0 else 2)]) ∧ Below w.heap.size w w' := by
  by_cases h0 : 0 ≤ n
  · by_cases h1 : n ≤ 1000000000000
    · rw [show inB n 0 1000000000000 = true by simp [inB, *]]
      go_enter Try.func109, Try.ntmps109
      go_wp2_with (go_at_call 119; refine (search_any n _ _ h0 h1 (by simp)).mono ?_; rintro e w1 ⟨rfl, rfl⟩)
      go_ret2
      exact ⟨rfl, by go_grown⟩
    · rw [show inB n 0 1000000000000 = false by simp [inB, *]]
      go_enter Try.func109, Try.ntmps109
      go_wp2
      go_ret2
      exact ⟨rfl, by go_grown⟩
  · rw [show inB n 0 1000000000000 = false by simp [inB, *]]
    go_enter Try.func109, Try.ntmps109
    go_wp2
    go_ret2
    exact ⟨rfl, by go_grown⟩

theorem l02Root_any (n : Int) (w : World) (h0 : 0 ≤ n) (h1 : n ≤ 1000000000000) :
    Calls Try.prog 61 #[.int .i64 n] w fun e w' => e = .returned (.int .i64 (rootL n)) ∧ w = w' := by
  go_enter Try.func61, Try.ntmps61
  go_wp2_with fail
  go_loop [3, 4] (fun i j => ∃ lo hi : Int, 0 ≤ lo ∧ lo ≤ hi ∧ hi ≤ 2000000 ∧ i = .int .i64 lo ∧ j = .int .i64 hi ∧ (∀ q, 0 ≤ q → q < lo → q * q < n) ∧ n ≤ hi * hi) (fun i j => (intOf j - intOf i).toNat)
  case atStart => exact ⟨0, 2000000, by omega, by omega, by omega, rfl, rfl, fun q h1 h2 => by omega, by omega⟩
  case round =>
    obtain ⟨lo, hi, h2, h3, h4, rfl, rfl, h5, h6⟩ := hrel
    have H5 := Lib.hid h5; clear h5
    by_cases hlt : lo < hi
    · have g1 : lo ≤ (lo + hi) / 2 := by omega
      have g2 : (lo + hi) / 2 < hi := by omega
      have hs := sq_bd ((lo + hi) / 2) 2000000 (by omega) (by omega)
      by_cases hp : n ≤ (lo + hi) / 2 * ((lo + hi) / 2)
      all_goals
        go_wp2
        go_round
        case rel => first
          | exact ⟨(lo + hi) / 2 + 1, hi, by omega, by omega, h4, rfl, rfl, fun q a c => sq_lt a (by omega) (Int.not_le.mp hp), h6⟩
          | exact ⟨lo, (lo + hi) / 2, h2, g1, by omega, rfl, rfl, H5.out, hp⟩
        case measure => simp [intOf]; omega
    · have : lo = hi := by omega
      subst this
      have e := rootL_eq (n := n) ⟨h2, h6, H5.out⟩
      go_wp2
      go_ret
      exact ⟨by simp [e], rfl⟩

noncomputable def radL (x y u v : Int) : Int × Int := if okP x y && okP u v then (rootL ((u - x) * (u - x) + (v - y) * (v - y)), 0) else (0, 1)

theorem implRadius_any (x y u v : Int) (w : World) :
    Calls Try.prog 93 #[.agg #[.int .i64 x, .int .i64 y], .agg #[.int .i64 u, .int .i64 v]] w fun e w' => e = .returned (.tuple #[.int .i64 (radL x y u v).1, .int .i64 (radL x y u v).2]) ∧ Below w.heap.size w w' := by
  cases h : okP x y && okP u v
  · have E : sqL x y u v = (0, 1) := by simp [sqL, h]
    rw [show radL x y u v = (0, 1) by simp [radL, h]]
    have hQ := fun W => E ▸ implSquare_any x y u v W
    clear E
    go_enter Try.func93, Try.ntmps93
    go_wp2_with (go_at_call 108; refine (hQ _).mono ?_; rintro e w1 ⟨rfl, hb⟩; have hs := hb.size; (try simp at hs); (try (refine kept_at hb (w.heap.size) ?_ (fun hc0 hz0 hs0 => ?_); focus go_size)); (try (refine kept_at hb (w.heap.size + 1) ?_ (fun hc1 hz1 hs1 => ?_); focus go_size)); (try (refine kept_at hb (w.heap.size + 2) ?_ (fun hc2 hz2 hs2 => ?_); focus go_size)); (try (refine kept_at hb (w.heap.size + 3) ?_ (fun hc3 hz3 hs3 => ?_); focus go_size)); (try (refine kept_at hb (w.heap.size + 4) ?_ (fun hc4 hz4 hs4 => ?_); focus go_size)); (try (refine kept_at hb (w.heap.size + 5) ?_ (fun hc5 hz5 hs5 => ?_); focus go_size)); replace hb := kept_trans (a := w) (by go_grown) hb; have hcl := kept_cell hb; have hzl := kept_frozen hb)
    go_ret2
    exact ⟨rfl, by go_grown⟩
  · obtain ⟨g1, g2⟩ := Bool.and_eq_true_iff.mp h
    have g1 := okP_true g1
    have g2 := okP_true g2
    have p := sq_bd (u - x) 20000 (by omega) (by omega)
    have q := sq_bd (v - y) 20000 (by omega) (by omega)
    generalize hN : (u - x) * (u - x) + (v - y) * (v - y) = N at *
    have E : sqL x y u v = (N, 0) := by simp [sqL, h, hN]
    rw [show radL x y u v = (rootL N, 0) by simp [radL, h, hN]]
    have hR : inB N 0 1000000000000 = true := by simp [inB]; omega
    have hQ := fun W => E ▸ implSquare_any x y u v W
    have hT := fun W => implRootUp_any N W
    simp only [hR, if_true] at hT
    clear E hN hR p q
    go_enter Try.func93, Try.ntmps93
    go_wp2_with (first | (go_at_call 108; refine (hQ _).mono ?_; rintro e w1 ⟨rfl, hb⟩; have hs := hb.size; (try simp at hs); (try (refine kept_at hb (w.heap.size) ?_ (fun hc0 hz0 hs0 => ?_); focus go_size)); (try (refine kept_at hb (w.heap.size + 1) ?_ (fun hc1 hz1 hs1 => ?_); focus go_size)); (try (refine kept_at hb (w.heap.size + 2) ?_ (fun hc2 hz2 hs2 => ?_); focus go_size)); (try (refine kept_at hb (w.heap.size + 3) ?_ (fun hc3 hz3 hs3 => ?_); focus go_size)); (try (refine kept_at hb (w.heap.size + 4) ?_ (fun hc4 hz4 hs4 => ?_); focus go_size)); (try (refine kept_at hb (w.heap.size + 5) ?_ (fun hc5 hz5 hs5 => ?_); focus go_size)); replace hb := kept_trans (a := w) (by go_grown) hb; have hcl := kept_cell hb; have hzl := kept_frozen hb) | (go_at_call 109; refine (hT _).mono ?_; rintro e w1 ⟨rfl, hb⟩; have hs := hb.size; (try simp at hs); (try (refine kept_at hb (w.heap.size) ?_ (fun hc0 hz0 hs0 => ?_); focus go_size)); (try (refine kept_at hb (w.heap.size + 1) ?_ (fun hc1 hz1 hs1 => ?_); focus go_size)); (try (refine kept_at hb (w.heap.size + 2) ?_ (fun hc2 hz2 hs2 => ?_); focus go_size)); (try (refine kept_at hb (w.heap.size + 3) ?_ (fun hc3 hz3 hs3 => ?_); focus go_size)); (try (refine kept_at hb (w.heap.size + 4) ?_ (fun hc4 hz4 hs4 => ?_); focus go_size)); (try (refine kept_at hb (w.heap.size + 5) ?_ (fun hc5 hz5 hs5 => ?_); focus go_size)); replace hb := kept_trans (a := w) (by go_grown) hb; have hcl := kept_cell hb; have hzl := kept_frozen hb))
    go_ret2
    exact ⟨rfl, by go_grown⟩

theorem info_int64 : (Try.prog.info? 2).map (fun i => (i.zero, i.size, i.bytes)) = some (some (.int .i64 0), 1, 8) := by kernel_rfl

theorem own_kept {W w1 : World} {base : Nat} {e : TypeId} {size : Nat} {v : Value} {n : Nat} {xs : List Value} (h : W.ownsRow base e size v n xs) (hb : Below W.heap.size W w1) : w1.ownsRow base e size v n xs := by
  refine ⟨h.1, ?_⟩
  rcases h.2 with h2 | ⟨g, cap, cur, hv, hg, hh, r⟩
  · exact Or.inl h2
  · refine Or.inr ⟨g, cap, cur, hv, hg, ?_, r⟩
    rw [hb.block g (h.lt g (by rw [hv]; rfl)).2]
    exact hh

/-- The slice value reads as a list of numbers. -/
def RdI (w : World) (v : Value) (zs : List Int) : Prop :=
  zs.length ≤ 9223372036854775807 ∧ ∃ A c, v = .slice A zs.length c ∧ ∀ k, (hk : k < zs.length) → ∃ b off, A = some ⟨b, off, none⟩ ∧ b < w.heap.size ∧ w.cell? ⟨b, off + k, none⟩ = some (.int .i64 zs[k])

theorem RdI_kept {W w1 : World} {v : Value} {zs : List Int} (h : RdI W v zs) (hb : Below W.heap.size W w1) : RdI w1 v zs := by
  obtain ⟨hl, A, c, rfl, hr⟩ := h
  refine ⟨hl, A, c, rfl, fun k hk => ?_⟩
  obtain ⟨b, off, e, hlt, hc⟩ := hr k hk
  exact ⟨b, off, e, Nat.lt_of_lt_of_le hlt hb.size, by rw [kept_cell hb b _ hlt]; exact hc⟩

/-- A row of numbers of the call's own, in a block from lo on and below hi. -/
def RowI (w : World) (lo hi : Nat) (v : Value) (zs : List Int) : Prop :=
  w.ownsRow lo 2 1 v zs.length (zs.map (Value.int .i64)) ∧ ∀ g, v.ownBlock = some g → lo ≤ g ∧ g < hi

theorem RowI_nil (w : World) (lo hi : Nat) : RowI w lo hi (.slice none 0 0) [] := ⟨World.ownsRow_nil _ _ _ _, fun g h => by simp [Value.ownBlock] at h⟩

theorem RowI_form {w : World} {lo hi : Nat} {v : Value} {zs : List Int} (h : RowI w lo hi v zs) :
    (zs = [] ∧ v = .slice none 0 0) ∨ ∃ g cap, v = .slice (some ⟨g, 0, none⟩) zs.length cap ∧ lo ≤ g ∧ g < hi ∧ g < w.heap.size ∧ zs.length ≤ cap ∧ cap ≤ maxLen := by
  rcases h.1.2 with ⟨h1, h2⟩ | ⟨g, cap, cur, rfl, hg, hh, h3, h4, _⟩
  · exact Or.inl ⟨List.eq_nil_of_length_eq_zero h2, h1⟩
  · exact Or.inr ⟨g, cap, rfl, hg, (h.2 g rfl).2, (h.1.lt g rfl).2, h3, h4⟩

theorem RowI_rd {w : World} {lo hi : Nat} {v : Value} {zs : List Int} (h : RowI w lo hi v zs) : RdI w v zs := by
  rcases RowI_form h with ⟨rfl, rfl⟩ | ⟨g, cap, rfl, _, _, hlt, h3, h4⟩
  · exact ⟨by simp, none, 0, rfl, fun k hk => by simp at hk⟩
  · unfold maxLen at h4
    refine ⟨by omega, some ⟨g, 0, none⟩, cap, rfl, fun k hk => ⟨g, 0, rfl, hlt, ?_⟩⟩
    rw [Nat.zero_add, h.1.cellAt k (by simpa using hk)]
    simp [hk]

theorem RowI_kept {W w1 : World} {lo hi : Nat} {v : Value} {zs : List Int} (h : RowI W lo hi v zs) (hb : Below W.heap.size W w1) : RowI w1 lo hi v zs := ⟨own_kept h.1 hb, h.2⟩

theorem RowI_far {W w1 : World} {lo hi : Nat} {v : Value} {zs : List Int} {row : Option Nat} (h : RowI W lo hi v zs) (hg : W.grownBy w1 row) (hr : ∀ g, row = some g → g < lo ∨ hi ≤ g) : RowI w1 lo hi v zs := by
  refine ⟨h.1.kept hg ?_, h.2⟩
  rcases hv : v.ownBlock with _ | g
  · exact Or.inl rfl
  · refine Or.inr (fun e => ?_)
    have h1 := h.2 g hv
    have h2 := hr g e.symm
    omega

theorem eqInts_same (v1 v2 : Value) (zs : List Int) (w : World) (h1 : RdI w v1 zs) (h2 : RdI w v2 zs) :
    Calls Try.prog 80 #[v1, v2] w fun e w' => e = .returned (.bool true) ∧ Below w.heap.size w w' := by
  obtain ⟨hl, A, c, rfl, r1⟩ := h1
  obtain ⟨_, A2, c2, rfl, r2⟩ := h2
  have R1 := Lib.hid r1; clear r1
  have R2 := Lib.hid r2; clear r2
  go_enter Try.func80, Try.ntmps80
  go_wp2_with fail
  go_loopw [5] (fun i wr => ∃ k : Nat, k ≤ zs.length ∧ i = .int .i64 k ∧ Below w.heap.size w wr) (fun i _ => zs.length - (intOf i).toNat)
  case atStart => exact ⟨0, by omega, rfl, Below.refl _ _⟩
  case round =>
    obtain ⟨k, hk, rfl, hb⟩ := hrel
    by_cases hlt : k < zs.length
    · obtain ⟨b, off, rfl, hbl, hc⟩ := R1.out k hlt
      obtain ⟨b2, off2, rfl, hbl2, hc2⟩ := R2.out k hlt
      rw [← kept_cell hb b _ hbl] at hc
      rw [← kept_cell hb b2 _ hbl2] at hc2
      go_wp2_with fail
      go_quiet (fail)
      go_wp2
      go_roundw
      case rel => exact ⟨k + 1, by omega, by go_num, kept_drewN hb _⟩
      case measure => simp [intOf]; omega
    · have : k = zs.length := by omega
      subst this
      go_wp2
      go_ret
      exact ⟨rfl, hb⟩

theorem eqPoint_same (x y : Int) (w : World) :
    Calls Try.prog 46 #[.agg #[.int .i64 x, .int .i64 y], .agg #[.int .i64 x, .int .i64 y]] w fun e w' => e = .returned (.bool true) ∧ Below w.heap.size w w' := by
  go_enter Try.func46, Try.ntmps46
  go_wp2
  go_ret
  exact ⟨rfl, by go_grown⟩

def smallI (c : Int) : Bool := decide (97 ≤ c) && decide (c ≤ 122)

def digitI (c : Int) : Bool := decide (48 ≤ c) && decide (c ≤ 57)

def okI (c : Int) : Bool := smallI c || digitI c || decide (c = 45)

def NameP (s : ByteArray) : Prop := 1 ≤ s.size ∧ s.size ≤ 12 ∧ (∀ h : 0 < s.size, smallI (s[0]'h).toNat = true) ∧ ∀ i, (h : i < s.size) → okI (s[i]'h).toNat = true

noncomputable def nameB (s : ByteArray) : Bool := @decide (NameP s) (Classical.propDecidable _)

theorem nameB_true {s : ByteArray} (h : NameP s) : nameB s = true := by unfold nameB; exact @decide_eq_true _ (Classical.propDecidable _) h

theorem nameB_false {s : ByteArray} (h : ¬ NameP s) : nameB s = false := by unfold nameB; exact @decide_eq_false _ (Classical.propDecidable _) h

theorem small_any (c : Int) (w : World) :
    Calls Try.prog 114 #[.int .u8 c] w fun e w' => e = .returned (.bool (smallI c)) ∧ w = w' := by
  unfold smallI
  rcases (show ¬ 97 ≤ c ∨ (97 ≤ c ∧ ¬ c ≤ 122) ∨ (97 ≤ c ∧ c ≤ 122) from by omega) with h1 | ⟨h1, h2⟩ | ⟨h1, h2⟩
  all_goals
    go_enter Try.func114, Try.ntmps114
    go_wp2
    go_ret
    exact ⟨by simp [*] <;> omega, rfl⟩

theorem digit_any (c : Int) (w : World) :
    Calls Try.prog 115 #[.int .u8 c] w fun e w' => e = .returned (.bool (digitI c)) ∧ w = w' := by
  unfold digitI
  rcases (show ¬ 48 ≤ c ∨ (48 ≤ c ∧ ¬ c ≤ 57) ∨ (48 ≤ c ∧ c ≤ 57) from by omega) with h1 | ⟨h1, h2⟩ | ⟨h1, h2⟩
  all_goals
    go_enter Try.func115, Try.ntmps115
    go_wp2
    go_ret
    exact ⟨by simp [*] <;> omega, rfl⟩

theorem isLetter_any (c : Int) (w : World) :
    Calls Try.prog 101 #[.int .i32 c] w fun e w' => e = .returned (.bool (smallI c)) ∧ w = w' := by
  unfold smallI
  rcases (show ¬ 97 ≤ c ∨ (97 ≤ c ∧ ¬ c ≤ 122) ∨ (97 ≤ c ∧ c ≤ 122) from by omega) with h1 | ⟨h1, h2⟩ | ⟨h1, h2⟩
  all_goals
    go_enter Try.func101, Try.ntmps101
    go_wp2
    go_ret
    exact ⟨by simp [*] <;> omega, rfl⟩

theorem isDigit_any (c : Int) (w : World) :
    Calls Try.prog 102 #[.int .i32 c] w fun e w' => e = .returned (.bool (digitI c)) ∧ w = w' := by
  unfold digitI
  rcases (show ¬ 48 ≤ c ∨ (48 ≤ c ∧ ¬ c ≤ 57) ∨ (48 ≤ c ∧ c ≤ 57) from by omega) with h1 | ⟨h1, h2⟩ | ⟨h1, h2⟩
  all_goals
    go_enter Try.func102, Try.ntmps102
    go_wp2
    go_ret
    exact ⟨by simp [*] <;> omega, rfl⟩

theorem specIsName_any (s : ByteArray) (w : World) (hs : s.size ≤ 1000000) :
    Calls Try.prog 98 #[.string s] w fun e w' => e = .returned (.bool (nameB s)) ∧ w = w' := by
  by_cases h0 : s.size = 0
  · have hE := nameB_false (s := s) (fun h => by have := h.1; omega)
    have hs0 : s = ByteArray.empty := by cases s with | mk d => simp [ByteArray.size] at h0; subst h0; rfl
    subst hs0
    rw [hE]
    go_enter Try.func98, Try.ntmps98
    go_wp2
    go_ret
    exact ⟨rfl, rfl⟩
  · have hne : s.toList.isEmpty = false := by
      rw [ByteArray.toList_eq]
      have : s.data.toList.length = s.size := Array.length_toList
      cases hl : s.data.toList with
      | nil => rw [hl] at this; simp at this; omega
      | cons a l => rfl
    have h0' : 0 < s.size := by omega
    by_cases h12 : s.size ≤ 12
    · cases hc : smallI (s[0]'h0').toNat
      · have hE := nameB_false (s := s) (fun h => by have := h.2.2.1 h0'; rw [hc] at this; cases this)
        rw [hE]
        have HC := Lib.hid hc; clear hc
        go_enter Try.func98, Try.ntmps98
        go_wp2_with (go_at_call 114; refine (small_any _ _).mono ?_; rw [HC.out]; rintro e w' ⟨rfl, rfl⟩)
        go_ret
        exact ⟨rfl, rfl⟩
      · have HC := Lib.hid hc; clear hc
        go_enter Try.func98, Try.ntmps98
        go_wp2_with (go_at_call 114; refine (small_any _ _).mono ?_; rw [HC.out]; rintro e w' ⟨rfl, rfl⟩)
        go_loop [3] (fun i => ∃ k : Nat, k ≤ s.size ∧ i = .int .i64 k ∧ ∀ j, (h : j < s.size) → j < k → okI (s[j]'h).toNat = true) (fun i => s.size - (intOf i).toNat)
        case atStart => exact ⟨0, by omega, rfl, fun j _ h => by omega⟩
        case round =>
          obtain ⟨k, hk, rfl, hall⟩ := hrel
          have HALL := Lib.hid hall; clear hall
          by_cases hlt : k < s.size
          · cases h1 : smallI (s[k]'hlt).toNat <;> cases h2 : digitI (s[k]'hlt).toNat <;> cases h3 : ((s[k]'hlt).toNat : Int) == 45
            all_goals
              have H1 := Lib.hid h1
              have H2 := Lib.hid h2
              have H3 := Lib.hid h3
              have h3' : (((s[k]'hlt).toNat : Int) != 45) = !(((s[k]'hlt).toNat : Int) == 45) := rfl
              rw [h3] at h3'
              clear h1 h2
              go_wp2_with (first | (go_at_call 114; refine (small_any _ _).mono ?_; rw [H1.out]; rintro e w' ⟨rfl, rfl⟩) | (go_at_call 115; refine (digit_any _ _).mono ?_; rw [H2.out]; rintro e w' ⟨rfl, rfl⟩))
              first
                | (go_ret
                   have hE := nameB_false (s := s) (fun h => by have := h.2.2.2 k hlt; simp [okI, H1.out, H2.out] at this; simp [this] at h3)
                   exact ⟨by rw [hE]; rfl, rfl⟩)
                | (go_round
                   case rel => exact ⟨k + 1, by omega, by go_num, fun j hj hjk => by
                     rcases Nat.lt_or_ge j k with h | h
                     · exact HALL.out j hj h
                     · have : j = k := by omega
                       subst this
                       simp [okI, H1.out, H2.out]
                       try simpa using h3⟩
                   case measure => simp [intOf]; omega)
          · have hE := nameB_true (s := s) ⟨by omega, h12, fun _ => HC.out, fun i hi => HALL.out i hi (by omega)⟩
            have HE := Lib.hid hE; clear hE
            go_wp2
            go_ret
            exact ⟨by rw [HE.out]; rfl, rfl⟩
    · have hE := nameB_false (s := s) (fun h => by have := h.2.1; omega)
      rw [hE]
      go_enter Try.func98, Try.ntmps98
      go_wp2
      go_ret
      exact ⟨rfl, rfl⟩

theorem implIsName_any (s : ByteArray) (w : World) (hs : s.size ≤ 1000000) :
    Calls Try.prog 73 #[.string s] w fun e w' => e = .returned (.bool (nameB s)) ∧ Below w.heap.size w w' := by
  by_cases h0 : s.size < 1
  · have hE := nameB_false (s := s) (fun h => by have := h.1; omega)
    rw [hE]
    go_enter Try.func73, Try.ntmps73
    go_wp2
    go_ret
    exact ⟨rfl, by go_grown⟩
  · by_cases h12 : s.size ≤ 12
    · go_enter Try.func73, Try.ntmps73
      go_wp2_with fail
      go_loopw [] (fun wr => ∃ k : Nat, k ≤ s.size ∧ wr = w.iter s k ∧ ∀ j, (h : j < s.size) → j < k → okI (s[j]'h).toNat = true ∧ (j = 0 → smallI (s[j]'h).toNat = true)) (fun wr => s.size - wr.iterPos w.heap.size)
      case atStart => exact ⟨0, by omega, rfl, fun j _ h => by omega⟩
      case round =>
        obtain ⟨k, hk, rfl, hall⟩ := hrel
        have HALL := Lib.hid hall; clear hall
        by_cases hlt : k < s.size
        · by_cases ha : (s[k]'hlt).toNat < 128
          · have hnx := fun ty => run_next_ascii (P := Try.prog) w s k ty hlt ha
            generalize hcg : (s[k]'hlt).toNat = c at *
            have HCG := Lib.hid hcg; clear hcg
            have hwrap : (c : Int) < 128 := by omega
            have next_ok : okI c = true → (k = 0 → smallI c = true) → ∀ j, (h : j < s.size) → j < k + 1 → okI (s[j]'h).toNat = true ∧ (j = 0 → smallI (s[j]'h).toNat = true) := by
              intro g1 g2 j hj hjk
              rcases Nat.lt_or_ge j k with h | h
              · exact HALL.out j hj h
              · have : j = k := by omega
                subst this
                rw [HCG.out]
                exact ⟨g1, g2⟩
            have NOK := Lib.hid next_ok; clear next_ok
            have bad0 : k = 0 → smallI c = false → nameB s = false := fun e g => nameB_false (fun h => by
              have h1 := h.2.2.1 (by omega)
              subst e
              rw [HCG.out, g] at h1
              cases h1)
            have badk : okI c = false → nameB s = false := fun g => nameB_false (fun h => by
              have h1 := h.2.2.2 k hlt
              rw [HCG.out, g] at h1
              cases h1)
            have BAD0 := Lib.hid bad0; clear bad0
            have BADK := Lib.hid badk; clear badk
            cases h1 : smallI c
            · by_cases hk0 : k = 0
              · have e0 : ((k : Int) == 0) = true := by simp [hk0]
                have H1 := Lib.hid h1; clear h1
                have HK0 := Lib.hid hk0; clear hk0
                go_wp2_with (go_at_call 101; refine (isLetter_any _ _).mono ?_; rw [H1.out]; rintro e w' ⟨rfl, rfl⟩)
                go_ret
                exact ⟨by rw [BAD0.out HK0.out H1.out]; rfl, by unfold World.iter; go_grown⟩
              · have e0 : ((k : Int) == 0) = false := by simp [hk0]
                cases h2 : digitI c <;> cases h3 : (c : Int) == 45
                all_goals
                  have h3' : ((c : Int) != 45) = !((c : Int) == 45) := rfl
                  rw [h3] at h3'
                  have H1 := Lib.hid h1; clear h1
                  have H2 := Lib.hid h2; clear h2
                  have H3 := Lib.hid h3
                  go_wp2_with (first | (go_at_call 101; refine (isLetter_any _ _).mono ?_; rw [H1.out]; rintro e w' ⟨rfl, rfl⟩) | (go_at_call 102; refine (isDigit_any _ _).mono ?_; rw [H2.out]; rintro e w' ⟨rfl, rfl⟩))
                  first
                    | (go_ret
                       exact ⟨by rw [BADK.out (by simp [okI, H1.out, H2.out]; simpa using H3.out)]; rfl, by unfold World.iter; go_grown⟩)
                    | (go_roundw
                       case rel => exact ⟨k + 1, by omega, rfl, NOK.out (by simp [okI, H1.out, H2.out]; try simpa using H3.out) (fun e => absurd e hk0)⟩
                       case measure => simp; omega)
            · have H1 := Lib.hid h1; clear h1
              go_wp2_with (go_at_call 101; refine (isLetter_any _ _).mono ?_; rw [H1.out]; rintro e w' ⟨rfl, rfl⟩)
              go_roundw
              case rel => exact ⟨k + 1, by omega, rfl, NOK.out (by simp [okI, H1.out]) (fun _ => H1.out)⟩
              case measure => simp; omega
          · have hhi := decode_high s k hlt (by omega)
            have hnx := fun ty => run_next_any (P := Try.prog) w s k ty hlt
            have hbad : nameB s = false := nameB_false (fun h => by
              have h1 := h.2.2.2 k hlt
              simp [okI, smallI, digitI] at h1
              omega)
            have HBAD := Lib.hid hbad; clear hbad
            generalize Utf8.decode s k = rn at *
            obtain ⟨r, n⟩ := rn
            simp only [] at hhi hnx
            have H1 : Hid (smallI (r : Int) = false) := Lib.hid (by simp [smallI]; omega)
            have H2 : Hid (digitI (r : Int) = false) := Lib.hid (by simp [digitI]; omega)
            have h3 : ((r : Int) != 45) = true := by simp; omega
            by_cases hk0 : k = 0
            all_goals
              first
                | (have e0 : ((k : Int) == 0) = true := by simp [hk0])
                | (have e0 : ((k : Int) == 0) = false := by simp [hk0])
              clear hk0
              go_wp2_with (first | (go_at_call 101; refine (isLetter_any _ _).mono ?_; rw [H1.out]; rintro e w' ⟨rfl, rfl⟩) | (go_at_call 102; refine (isDigit_any _ _).mono ?_; rw [H2.out]; rintro e w' ⟨rfl, rfl⟩))
              go_ret
              exact ⟨by rw [HBAD.out]; rfl, by unfold World.iter; go_grown⟩
        · have hnx := fun ty => run_next_end (P := Try.prog) w s k ty hlt
          have hE := nameB_true (s := s) ⟨by omega, h12, fun h => (HALL.out 0 h (by omega)).2 rfl, fun i hi => (HALL.out i hi (by omega)).1⟩
          have HE := Lib.hid hE; clear hE
          go_wp2
          go_ret
          exact ⟨by rw [HE.out]; rfl, by unfold World.iter; go_grown⟩
    · have hE := nameB_false (s := s) (fun h => by have := h.2.1; omega)
      rw [hE]
      go_enter Try.func73, Try.ntmps73
      go_wp2
      go_ret
      exact ⟨rfl, by go_grown⟩

theorem flat_len {α : Type} {enc : α → List Value} {sz : Nat} (h : ∀ z, (enc z).length = sz) (zs : List α) : (zs.flatMap enc).length = zs.length * sz := by
  induction zs with
  | nil => simp
  | cons z zs ih => rw [List.flatMap_cons, List.length_append, ih, h, List.length_cons, Nat.add_mul]; omega

theorem flat_at {α : Type} {enc : α → List Value} {sz : Nat} (h : ∀ z, (enc z).length = sz) (zs : List α) (k j : Nat) (hk : k < zs.length) (hj : j < sz) : (zs.flatMap enc)[k * sz + j]? = (enc zs[k])[j]? := by
  induction zs generalizing k with
  | nil => simp at hk
  | cons z zs ih =>
    cases k with
    | zero => rw [List.flatMap_cons, List.getElem?_append_left (by rw [h]; omega)]; simp
    | succ k =>
      have e : (k + 1) * sz + j - (enc z).length = k * sz + j := by rw [h, Nat.add_mul]; omega
      rw [List.flatMap_cons, List.getElem?_append_right (by rw [h, Nat.add_mul]; omega), e, ih k (by simpa using hk)]
      simp

/-- The slice value reads as n elements of sz cells each, cell for cell. -/
def RdF (w : World) (v : Value) (n sz : Nat) (xs : List Value) : Prop :=
  n ≤ 9223372036854775807 ∧ xs.length = n * sz ∧ ∃ A c, v = .slice A n c ∧ ∀ i, i < n * sz → ∃ b off, A = some ⟨b, off, none⟩ ∧ b < w.heap.size ∧ w.cell? ⟨b, off + i, none⟩ = xs[i]?

theorem RdF_kept {W w1 : World} {v : Value} {n sz : Nat} {xs : List Value} (h : RdF W v n sz xs) (hb : Below W.heap.size W w1) : RdF w1 v n sz xs := by
  obtain ⟨hl, hx, A, c, rfl, hr⟩ := h
  refine ⟨hl, hx, A, c, rfl, fun k hk => ?_⟩
  obtain ⟨b, off, e, hlt, hc⟩ := hr k hk
  exact ⟨b, off, e, Nat.lt_of_lt_of_le hlt hb.size, by rw [kept_cell hb b _ hlt]; exact hc⟩

/-- A row of elements of the call's own (type e, sz cells each), in a block from lo on and below hi. -/
def RowF (e sz : Nat) (w : World) (lo hi : Nat) (v : Value) (n : Nat) (xs : List Value) : Prop :=
  w.ownsRow lo e sz v n xs ∧ ∀ g, v.ownBlock = some g → lo ≤ g ∧ g < hi

theorem RowF_nil (e sz : Nat) (w : World) (lo hi : Nat) : RowF e sz w lo hi (.slice none 0 0) 0 [] := ⟨World.ownsRow_nil _ _ _ _, fun g h => by simp [Value.ownBlock] at h⟩

theorem RowF_form {e sz : Nat} {w : World} {lo hi : Nat} {v : Value} {n : Nat} {xs : List Value} (h : RowF e sz w lo hi v n xs) :
    (n = 0 ∧ xs = [] ∧ v = .slice none 0 0) ∨ ∃ g cap, v = .slice (some ⟨g, 0, none⟩) n cap ∧ lo ≤ g ∧ g < hi ∧ g < w.heap.size ∧ n ≤ cap ∧ cap ≤ maxLen := by
  rcases h.1.2 with ⟨h1, h2⟩ | ⟨g, cap, cur, rfl, hg, hh, h3, h4, _⟩
  · exact Or.inl ⟨h2, List.eq_nil_of_length_eq_zero (by rw [h.1.1, h2, Nat.zero_mul]), h1⟩
  · exact Or.inr ⟨g, cap, rfl, hg, (h.2 g rfl).2, (h.1.lt g rfl).2, h3, h4⟩

theorem RowF_rd {e sz : Nat} {w : World} {lo hi : Nat} {v : Value} {n : Nat} {xs : List Value} (h : RowF e sz w lo hi v n xs) : RdF w v n sz xs := by
  rcases RowF_form h with ⟨rfl, rfl, rfl⟩ | ⟨g, cap, rfl, _, _, hlt, h3, h4⟩
  · exact ⟨by simp, by simp, none, 0, rfl, fun k hk => by simp at hk⟩
  · unfold maxLen at h4
    refine ⟨by omega, h.1.1, some ⟨g, 0, none⟩, cap, rfl, fun k hk => ⟨g, 0, rfl, hlt, ?_⟩⟩
    rw [Nat.zero_add, h.1.cellAt k hk]

theorem RowF_kept {e sz : Nat} {W w1 : World} {lo hi : Nat} {v : Value} {n : Nat} {xs : List Value} (h : RowF e sz W lo hi v n xs) (hb : Below W.heap.size W w1) : RowF e sz w1 lo hi v n xs := ⟨own_kept h.1 hb, h.2⟩

theorem RowF_far {e sz : Nat} {W w1 : World} {lo hi : Nat} {v : Value} {n : Nat} {xs : List Value} {row : Option Nat} (h : RowF e sz W lo hi v n xs) (hg : W.grownBy w1 row) (hr : ∀ g, row = some g → g < lo ∨ hi ≤ g) : RowF e sz w1 lo hi v n xs := by
  refine ⟨h.1.kept hg ?_, h.2⟩
  rcases hv : v.ownBlock with _ | g
  · exact Or.inl rfl
  · refine Or.inr (fun e => ?_)
    have h1 := h.2 g hv
    have h2 := hr g e.symm
    omega

/-- The first elements of a row. -/
theorem RowF_short {e sz : Nat} {w : World} {lo hi g cap m n : Nat} {xs : List Value} (h : RowF e sz w lo hi (.slice (some ⟨g, 0, none⟩) m cap) m xs) (hn : n ≤ m) :
    RowF e sz w lo hi (.slice (some ⟨g, 0, none⟩) n cap) n (xs.take (n * sz)) := by
  refine ⟨⟨?_, ?_⟩, fun g' hg' => h.2 g' hg'⟩
  · rw [List.length_take, h.1.1]
    have := Nat.mul_le_mul_right sz hn
    omega
  · rcases h.1.2 with ⟨h1, h2⟩ | ⟨g', cap', cur, h1, hg, hh, h3, h4, h5, h6⟩
    · simp at h1
    · simp only [Value.slice.injEq, Option.some.injEq, Addr.mk.injEq, and_true, true_and] at h1
      obtain ⟨rfl, rfl⟩ := h1
      refine Or.inr ⟨g, cap, cur, rfl, hg, hh, by omega, h4, h5, ?_⟩
      rw [← h6, List.take_take]
      congr 1
      have := Nat.mul_le_mul_right sz hn
      omega

theorem RowF_lo {e sz : Nat} {w : World} {lo lo' hi hi' : Nat} {v : Value} {n : Nat} {xs : List Value} (h : RowF e sz w lo hi v n xs) (hl : lo' ≤ lo) (hh : hi ≤ hi') : RowF e sz w lo' hi' v n xs :=
  ⟨Joins.ownsRow_le h.1 hl, fun g hg => ⟨by have := (h.2 g hg).1; omega, by have := (h.2 g hg).2; omega⟩⟩

theorem RowF_set {e sz : Nat} {w : World} {lo hi b o n : Nat} {v u : Value} {xs : List Value} (h : RowF e sz w lo hi v n xs) (hb : b < lo) : RowF e sz (w.setCell ⟨b, o, none⟩ u) lo hi v n xs :=
  RowF_far h (grown_set _ _ _) (fun g hg => by simp at hg; omega)

/-- A pair of numbers, cell by cell. -/
def encP (z : Int × Int) : List Value := [.int .i64 z.1, .int .i64 z.2]

def flatP (zs : List (Int × Int)) : List Value := zs.flatMap encP

theorem flatP_len (zs : List (Int × Int)) : (flatP zs).length = zs.length * 2 := flat_len (enc := encP) (fun _ => rfl) zs

theorem flatP_at (zs : List (Int × Int)) (k : Nat) (h : k < zs.length) : (flatP zs)[k * 2]? = some (.int .i64 zs[k].1) ∧ (flatP zs)[k * 2 + 1]? = some (.int .i64 zs[k].2) :=
  ⟨flat_at (enc := encP) (sz := 2) (fun _ => rfl) zs k 0 h (by omega), flat_at (enc := encP) (sz := 2) (fun _ => rfl) zs k 1 h (by omega)⟩

/-- The slice value reads as a list of pairs of numbers. -/
def RdP (w : World) (v : Value) (zs : List (Int × Int)) : Prop := RdF w v zs.length 2 (flatP zs)

theorem RdP_kept {W w1 : World} {v : Value} {zs : List (Int × Int)} (h : RdP W v zs) (hb : Below W.heap.size W w1) : RdP w1 v zs := RdF_kept h hb

theorem RdP_slice {w : World} {v : Value} {zs : List (Int × Int)} (h : RdP w v zs) : ∃ A c, v = .slice A zs.length c ∧ zs.length ≤ 9223372036854775807 ∧
    ∀ k, (hk : k < zs.length) → ∃ b off, A = some ⟨b, off, none⟩ ∧ b < w.heap.size ∧ w.cell? ⟨b, off + k * 2, none⟩ = some (.int .i64 zs[k].1) ∧ w.cell? ⟨b, off + k * 2 + 1, none⟩ = some (.int .i64 zs[k].2) := by
  obtain ⟨hl, hx, A, c, rfl, hr⟩ := h
  refine ⟨A, c, rfl, hl, fun k hk => ?_⟩
  obtain ⟨b, off, rfl, hlt, h0⟩ := hr (k * 2) (by omega)
  obtain ⟨b', off', e, _, h1⟩ := hr (k * 2 + 1) (by omega)
  simp only [Option.some.injEq, Addr.mk.injEq, and_true] at e
  obtain ⟨rfl, rfl⟩ := e
  rw [(flatP_at zs k hk).1] at h0
  rw [(flatP_at zs k hk).2, ← Nat.add_assoc] at h1
  exact ⟨b, off, rfl, hlt, h0, h1⟩

def roomL (n : Nat) : Nat := if n % 6 = 5 then 0 else if n % 3 = 0 then 1 else n

theorem roomL_le (n : Nat) : roomL n ≤ n + 1 := by
  unfold roomL
  split
  · omega
  · split <;> omega

theorem room_any (n : Nat) (hn : n ≤ 9223372036854775807) (w : World) :
    Calls Try.prog 36 #[.int .i64 n] w fun e w' => e = .returned (.int .i64 (roomL n : Nat)) ∧ w = w' := by
  unfold roomL
  have e6 : (n : Int).tmod 6 = ((n % 6 : Nat) : Int) := by rw [tmod_pos _ _ (by omega)]; omega
  have e3 : (n : Int).tmod 3 = ((n % 3 : Nat) : Int) := by rw [tmod_pos _ _ (by omega)]; omega
  by_cases h6 : n % 6 = 5
  · rw [h6] at e6
    go_enter Try.func36, Try.ntmps36
    go_wp2
    go_ret
    exact ⟨by simp [h6], rfl⟩
  · have d6 : ((n : Int).tmod 6 == 5) = false := by rw [e6]; simp; omega
    by_cases h3 : n % 3 = 0
    · rw [h3] at e3
      go_enter Try.func36, Try.ntmps36
      go_wp2
      go_ret
      exact ⟨by simp [h6, h3], rfl⟩
    · have d3 : ((n : Int).tmod 3 == 0) = false := by rw [e3]; simp; omega
      go_enter Try.func36, Try.ntmps36
      go_wp2
      go_ret
      exact ⟨by simp [h6, h3], rfl⟩

theorem szC_any (A : Option Addr) (n c : Nat) (left : Int) (h : 0 ≤ left ∧ left ≤ 1000000) (hn : n ≤ 9223372036854775807) (w : World) :
    Calls Try.prog 59 #[.slice A n c, .int .i64 left] w fun e w' => e = .returned (.int .i64 (if (n : Int) ≤ left then left - n else -1)) ∧ w = w' := by
  by_cases h1 : (n : Int) ≤ left
  · rw [if_pos h1]
    go_enter Try.func59, Try.ntmps59
    go_wp2
    go_ret
    exact ⟨rfl, rfl⟩
  · rw [if_neg h1]
    go_enter Try.func59, Try.ntmps59
    go_wp2
    go_ret
    exact ⟨rfl, rfl⟩

theorem toStep_any (x y : Int) (w : World) :
    Calls Try.prog 89 #[.agg #[.int .i64 x, .int .i64 y]] w fun e w' => e = .returned (.agg #[.int .i64 x, .int .i64 y]) ∧ Below w.heap.size w w' := by
  go_enter Try.func89, Try.ntmps89
  go_wp2
  go_returns
  exact ⟨rfl, by go_grown⟩

def fillP : Int × Int := (-7000000000000000101, -7000000000000000101)

theorem fillStep_any (w : World) :
    Calls Try.prog 90 #[] w fun e w' => e = .returned (.agg #[.int .i64 fillP.1, .int .i64 fillP.2]) ∧ Below w.heap.size w w' := by
  unfold fillP
  go_enter Try.func90, Try.ntmps90
  go_wp2
  go_returns
  exact ⟨rfl, by go_grown⟩

theorem eqStep_same (x y : Int) (w : World) :
    Calls Try.prog 110 #[.agg #[.int .i64 x, .int .i64 y], .agg #[.int .i64 x, .int .i64 y]] w fun e w' => e = .returned (.bool true) ∧ Below w.heap.size w w' := by
  go_enter Try.func110, Try.ntmps110
  go_wp2
  go_ret
  exact ⟨rfl, by go_grown⟩

theorem info_step : (Try.prog.info? 115).map (fun i => (i.zero, i.size, i.bytes)) = some (some (.agg #[.int .i64 0, .int .i64 0]), 2, 16) := by kernel_rfl

theorem eqC_same (v1 v2 : Value) (zs : List (Int × Int)) (w : World) (h1 : RdP w v1 zs) (h2 : RdP w v2 zs) :
    Calls Try.prog 94 #[v1, v2] w fun e w' => e = .returned (.bool true) ∧ Below w.heap.size w w' := by
  obtain ⟨A, c, rfl, hl, r1⟩ := RdP_slice h1
  obtain ⟨A2, c2, rfl, _, r2⟩ := RdP_slice h2
  clear h1 h2
  have R1 := Lib.hid r1; clear r1
  have R2 := Lib.hid r2; clear r2
  go_enter Try.func94, Try.ntmps94
  go_wp2_with fail
  go_loopw [5] (fun i wr => ∃ k : Nat, k ≤ zs.length ∧ i = .int .i64 k ∧ Below w.heap.size w wr) (fun i _ => zs.length - (intOf i).toNat)
  case atStart => exact ⟨0, by omega, rfl, Below.refl _ _⟩
  case round =>
    obtain ⟨k, hk, rfl, hb⟩ := hrel
    by_cases hlt : k < zs.length
    · obtain ⟨b, off, rfl, hbl, hc0, hc1⟩ := R1.out k hlt
      obtain ⟨b2, off2, rfl, hbl2, hd0, hd1⟩ := R2.out k hlt
      rw [← kept_cell hb b _ hbl] at hc0 hc1
      rw [← kept_cell hb b2 _ hbl2] at hd0 hd1
      generalize zs[k].1 = x at *
      generalize zs[k].2 = y at *
      have hsz := hb.size
      have hbl' := Nat.lt_of_lt_of_le hbl hsz
      have hbl2' := Nat.lt_of_lt_of_le hbl2 hsz
      go_wp2_with fail
      go_region_held3 (fun w' => w'.cell? ⟨b, off + k * 2, none⟩ = some (.int .i64 x) ∧ w'.cell? ⟨b, off + k * 2 + 1, none⟩ = some (.int .i64 y) ∧ w'.cell? ⟨b2, off2 + k * 2, none⟩ = some (.int .i64 x) ∧ w'.cell? ⟨b2, off2 + k * 2 + 1, none⟩ = some (.int .i64 y)) (go_keep)
        ((go_at_call 110; refine (eqStep_same _ _ _).mono ?_; rintro e w1 ⟨rfl, hb1⟩; replace hb1 := kept_trans (a := wr) (by go_grown) hb1; have hcl := kept_cell hb1))
      go_wp2
      go_roundw
      case rel => exact ⟨k + 1, by omega, by go_num, kept_trans hb (by assumption)⟩
      case measure => simp [intOf]; omega
    · have : k = zs.length := by omega
      subst this
      go_wp2
      go_ret
      exact ⟨rfl, hb⟩

theorem flatP_set (l : List (Int × Int)) (j : Nat) (x y : Int) : ((flatP l).set (j * 2) (.int .i64 x)).set (j * 2 + 1) (.int .i64 y) = flatP (l.set j (x, y)) := by
  induction l generalizing j with
  | nil => simp [flatP]
  | cons z l ih =>
    cases j with
    | zero => simp [flatP, encP]
    | succ j =>
      have := ih j
      simp only [flatP, encP, List.flatMap_cons, List.cons_append, List.nil_append, Nat.succ_mul, List.set_cons_succ] at this ⊢
      rw [this]

theorem fill_step {α : Type} (T : List α) (z : α) (j : Nat) (h : j < T.length) : (T.take j ++ List.replicate (T.length - j) z).set j T[j] = T.take (j + 1) ++ List.replicate (T.length - (j + 1)) z := by
  obtain ⟨m, hm⟩ : ∃ m, T.length - j = m + 1 := ⟨T.length - j - 1, by omega⟩
  rw [hm, show T.length - (j + 1) = m by omega, List.replicate_succ, List.set_append, if_neg (by simp; omega), List.length_take, Nat.min_eq_left (by omega), Nat.sub_self, List.set_cons_zero, ← List.take_append_getElem h, List.append_assoc]
  rfl

/-- What a copy's block holds: the list, and behind it the filler. -/
def copyT (zs : List (Int × Int)) : List (Int × Int) := zs ++ List.replicate (roomL zs.length) fillP

theorem copyT_len (zs : List (Int × Int)) : (copyT zs).length = zs.length + roomL zs.length := by simp [copyT]

/-- A copy of a list of steps that the law made: the whole block is a row of the call's own. -/
def CopyC (w : World) (lo hi : Nat) (v : Value) (zs : List (Int × Int)) : Prop :=
  zs.length ≤ 1000000 ∧ ∃ g, v = .slice (some ⟨g, 0, none⟩) zs.length (copyT zs).length ∧ RowF 115 2 w lo hi (.slice (some ⟨g, 0, none⟩) (copyT zs).length (copyT zs).length) (copyT zs).length (flatP (copyT zs))

theorem CopyC_kept {W w1 : World} {lo hi : Nat} {v : Value} {zs : List (Int × Int)} (h : CopyC W lo hi v zs) (hb : Below W.heap.size W w1) : CopyC w1 lo hi v zs := by
  obtain ⟨hl, g, e, hr⟩ := h
  exact ⟨hl, g, e, RowF_kept hr hb⟩

theorem CopyC_row {w : World} {lo hi : Nat} {v : Value} {zs : List (Int × Int)} (h : CopyC w lo hi v zs) : RowF 115 2 w lo hi v zs.length (flatP zs) := by
  obtain ⟨hl, g, rfl, hr⟩ := h
  have := RowF_short hr (n := zs.length) (by rw [copyT_len]; omega)
  have e : (flatP (copyT zs)).take (zs.length * 2) = flatP zs := by
    rw [show flatP (copyT zs) = flatP zs ++ flatP (List.replicate (roomL zs.length) fillP) by simp [flatP, copyT]]
    rw [← flatP_len, List.take_left]
  rwa [e] at this

theorem CopyC_rd {w : World} {lo hi : Nat} {v : Value} {zs : List (Int × Int)} (h : CopyC w lo hi v zs) : RdP w v zs := RowF_rd (CopyC_row h)

theorem make_steps (n : Nat) (h : n ≤ 4000000) (w : World) :
    (Instr.makeSlice 54 (.int .i64 (n : Int)) (.int .i64 (n : Int))).run Try.prog w = .ok (.slice (some ⟨w.heap.size, 0, none⟩) n n) (w.alloc (.cells (madeCells #[.int .i64 0, .int .i64 0] (n * 2)) 115)) := by
  obtain ⟨i, hi, hz, hs, hb⟩ := info_parts info_step
  have hb' : (i.bytes : Int) * (n : Int) ≤ 281474976710656 := by rw [hb]; omega
  have hr := run_make (P := Try.prog) w 54 115 i (.agg #[.int .i64 0, .int .i64 0]) Try.underlying54 hi hz .i64 .i64 n n (by omega) (Int.le_refl _) hb' (by omega)
  simp only [Int.toNat_natCast, hs] at hr
  exact hr

theorem made_flat (n : Nat) : (madeCells #[.int .i64 0, .int .i64 0] (n * 2)).toList = flatP (List.replicate n (0, 0)) := by
  apply List.ext_getElem?
  intro j
  by_cases hj : j < n * 2
  · have h := flatP_at (List.replicate n ((0 : Int), (0 : Int))) (j / 2) (by simp; omega)
    simp only [List.getElem_replicate] at h
    rcases Nat.mod_two_eq_zero_or_one j with hp | hp
    · rw [show j / 2 * 2 = j by omega] at h
      rw [h.1]
      simp [madeCells, hj, hp]
    · rw [show j / 2 * 2 + 1 = j by omega] at h
      rw [h.2]
      simp [madeCells, hj, hp]
  · rw [List.getElem?_eq_none (by rw [Array.length_toList, size_madeCells]; omega), List.getElem?_eq_none (by rw [flatP_len]; simp; omega)]

theorem copyT_at (zs : List (Int × Int)) (j : Nat) : (h : j < zs.length) → (copyT zs)[j]'(by rw [copyT_len]; omega) = zs[j] := by
  intro h
  simp [copyT, h]

theorem copyT_fill (zs : List (Int × Int)) (j : Nat) (h : zs.length ≤ j) : (h2 : j < (copyT zs).length) → (copyT zs)[j] = fillP := by
  intro h2
  simp [copyT, h]

theorem toC_row (v : Value) (zs : List (Int × Int)) (bare : Bool) (w : World) (h : RdP w v zs) (hn : zs.length ≤ 1000000) (hbare : bare = false ∨ zs ≠ []) :
    Calls Try.prog 63 #[v, .bool bare] w fun e w' => ∃ v', e = .returned v' ∧ CopyC w' w.heap.size w'.heap.size v' zs ∧ Below w.heap.size w w' := by
  obtain ⟨A, c, rfl, hl, r1⟩ := RdP_slice h
  clear h
  have R := Lib.hid r1; clear r1
  have hN := copyT_len zs
  have hr := roomL_le zs.length
  have hmk : ∀ w : World, (Instr.makeSlice 54 (.int .i64 ((zs.length : Int) + (roomL zs.length : Int))) (.int .i64 ((zs.length : Int) + (roomL zs.length : Int)))).run Try.prog w = .ok (.slice (some ⟨w.heap.size, 0, none⟩) (copyT zs).length (copyT zs).length) (w.alloc (.cells (madeCells #[.int .i64 0, .int .i64 0] ((copyT zs).length * 2)) 115)) := by
    intro w
    have := make_steps (copyT zs).length (by omega) w
    rwa [show (((copyT zs).length : Nat) : Int) = (zs.length : Int) + (roomL zs.length : Int) by omega] at this
  have hcap : (copyT zs).length ≤ maxLen := by unfold maxLen; omega
  have hrow0 : ∀ wa : World, w.heap.size ≤ wa.heap.size → (wa.alloc (.cells (madeCells #[.int .i64 0, .int .i64 0] ((copyT zs).length * 2)) 115)).ownsRow w.heap.size 115 2 (.slice (some ⟨wa.heap.size, 0, none⟩) (copyT zs).length (copyT zs).length) (copyT zs).length (flatP ((copyT zs).take 0 ++ List.replicate ((copyT zs).length - 0) (0, 0))) := by
    intro wa hwa
    have := World.ownsRow_lit wa (e := 115) (size := 2) (madeCells #[.int .i64 0, .int .i64 0] ((copyT zs).length * 2)) (copyT zs).length hwa hcap (size_madeCells _ _)
    rw [made_flat] at this
    simpa using this
  have Hrow := Lib.hid hrow0; clear hrow0
  have hb0 : bare = true → ((zs.length : Int) == 0) = false := by
    intro hb
    have : zs.length ≠ 0 := fun h => by
      rcases hbare with h1 | h1
      · rw [hb] at h1; cases h1
      · exact h1 (List.eq_nil_of_length_eq_zero h)
    simpa using this
  clear hbare
  generalize hNN : (copyT zs).length = N at *
  have HNN := Lib.hid hNN; clear hNN
  have hNb : N ≤ 2000002 ∧ zs.length ≤ N := by omega
  have HN := Lib.hid hN; clear hN
  cases bare
  all_goals
    have hbn := hb0
    simp only [forall_const, reduceCtorEq, false_implies, Bool.false_eq_true] at hbn
    clear hb0
    go_enter Try.func63, Try.ntmps63
    go_wp2_with (go_at_call 36; refine (room_any _ (by omega) _).mono ?_; rintro e w1 ⟨rfl, rfl⟩)
    go_loopw [6] (fun i wr => ∃ j : Nat, j ≤ zs.length ∧ i = .int .i64 j ∧ wr.ownsRow w.heap.size 115 2 (.slice (some ⟨w.heap.size, 0, none⟩) N N) N (flatP ((copyT zs).take j ++ List.replicate (N - j) (0, 0))) ∧ Below w.heap.size w wr) (fun i _ => zs.length - (intOf i).toNat)
    case atStart => exact ⟨0, by omega, rfl, Hrow.out w (Nat.le_refl _), by go_grown⟩
    case round =>
      obtain ⟨j, hj, rfl, hown, hb⟩ := hrel
      have hsz := hb.size
      by_cases hlt : j < zs.length
      · obtain ⟨b, off, rfl, hbl, hc0, hc1⟩ := R.out j hlt
        rw [← kept_cell hb b _ hbl] at hc0 hc1
        go_wp2_with fail
        refine (toStep_any _ _ _).mono ?_
        rintro e w1 ⟨rfl, hb1⟩
        have hown1 := own_kept hown hb1
        have hlen : (flatP ((copyT zs).take j ++ List.replicate (N - j) (0, 0))).length = N * 2 := hown.1
        obtain ⟨u0, hu0⟩ : ∃ u, w1.cell? ⟨w.heap.size, j * 2, none⟩ = some u := by
          rw [hown1.cellAt _ (by omega)]
          exact ⟨_, List.getElem?_eq_getElem (by omega)⟩
        obtain ⟨u1, hu1⟩ : ∃ u, w1.cell? ⟨w.heap.size, j * 2 + 1, none⟩ = some u := by
          rw [hown1.cellAt _ (by omega)]
          exact ⟨_, List.getElem?_eq_getElem (by omega)⟩
        have hz0 := hown1.frozenAt (j * 2)
        have hz1 := hown1.frozenAt (j * 2 + 1)
        have hs0 := hown1.stored (j * 2) (.int .i64 zs[j].1)
        have hs1 := hs0.1.stored (j * 2 + 1) (.int .i64 zs[j].2)
        rw [flatP_set] at hs1
        have hstep := fill_step (copyT zs) (0, 0) j (by rw [HNN.out]; omega)
        rw [copyT_at zs j hlt, HNN.out] at hstep
        rw [show ((zs[j].1, zs[j].2) : Int × Int) = zs[j] from rfl, hstep] at hs1
        have Hs := Lib.hid hs1.1
        have Hg := Lib.hid (grown_step hs0.2 hs1.2)
        clear hs0 hs1 hstep hown hown1 hlen
        go_wp2
        go_roundw
        case rel => exact ⟨j + 1, by omega, by go_num, Hs.out, grown_below (kept_trans hb hb1) Hg.out (fun g hg => by simp at hg; omega)⟩
        case measure => simp [intOf]; omega
      · have : j = zs.length := by omega
        subst this
        go_wp2_with fail
        go_loopw [7] (fun i wr => ∃ j : Nat, zs.length ≤ j ∧ j ≤ N ∧ i = .int .i64 j ∧ wr.ownsRow w.heap.size 115 2 (.slice (some ⟨w.heap.size, 0, none⟩) N N) N (flatP ((copyT zs).take j ++ List.replicate (N - j) (0, 0))) ∧ Below w.heap.size w wr) (fun i _ => N - (intOf i).toNat)
        case atStart => exact ⟨zs.length, by omega, by omega, rfl, hown, hb⟩
        case round =>
          obtain ⟨j, hj0, hj, rfl, hown, hb⟩ := hrel
          have hsz := hb.size
          by_cases hlt : j < N
          · go_wp2_with fail
            refine (fillStep_any _).mono ?_
            rintro e w1 ⟨rfl, hb1⟩
            have hown1 := own_kept hown hb1
            have hlen : (flatP ((copyT zs).take j ++ List.replicate (N - j) (0, 0))).length = N * 2 := hown.1
            obtain ⟨u0, hu0⟩ : ∃ u, w1.cell? ⟨w.heap.size, j * 2, none⟩ = some u := by
              rw [hown1.cellAt _ (by omega)]
              exact ⟨_, List.getElem?_eq_getElem (by omega)⟩
            obtain ⟨u1, hu1⟩ : ∃ u, w1.cell? ⟨w.heap.size, j * 2 + 1, none⟩ = some u := by
              rw [hown1.cellAt _ (by omega)]
              exact ⟨_, List.getElem?_eq_getElem (by omega)⟩
            have hz0 := hown1.frozenAt (j * 2)
            have hz1 := hown1.frozenAt (j * 2 + 1)
            have hs0 := hown1.stored (j * 2) (.int .i64 fillP.1)
            have hs1 := hs0.1.stored (j * 2 + 1) (.int .i64 fillP.2)
            rw [flatP_set] at hs1
            have hstep := fill_step (copyT zs) (0, 0) j (by rw [HNN.out]; omega)
            rw [copyT_fill zs j hj0 (by rw [HNN.out]; omega), HNN.out] at hstep
            rw [show ((fillP.1, fillP.2) : Int × Int) = fillP from rfl, hstep] at hs1
            have Hs := Lib.hid hs1.1
            have Hg := Lib.hid (grown_step hs0.2 hs1.2)
            clear hs0 hs1 hstep hown hown1 hlen
            go_wp2
            go_roundw
            case rel => exact ⟨j + 1, by omega, by omega, by go_num, Hs.out, grown_below (kept_trans hb hb1) Hg.out (fun g hg => by simp at hg; omega)⟩
            case measure => simp [intOf]; omega
          · have : j = N := by omega
            subst this
            have Hown := Lib.hid hown; clear hown
            go_wp2
            go_ret
            have hT : (copyT zs).take j ++ List.replicate (j - j) (0, 0) = copyT zs := by rw [List.take_of_length_le (by rw [HNN.out]; exact Nat.le_refl _)]; simp
            refine ⟨_, rfl, ⟨hn, w.heap.size, by rw [HNN.out]; rfl, ?_⟩, hb⟩
            rw [HNN.out, ← hT]
            exact ⟨Hown.out, fun g hg => by simp [Value.ownBlock] at hg; subst hg; exact ⟨Nat.le_refl _, (Hown.out.lt _ rfl).2⟩⟩

theorem toC_false (v : Value) (zs : List (Int × Int)) (w : World) (h : RdP w v zs) (hn : zs.length ≤ 1000000) :
    Calls Try.prog 63 #[v, .bool false] w fun e w' => ∃ v', e = .returned v' ∧ CopyC w' w.heap.size w'.heap.size v' zs ∧ Below w.heap.size w w' := toC_row v zs false w h hn (Or.inl rfl)

theorem intactC_same (v1 v2 : Value) (zs : List (Int × Int)) (lo1 hi1 lo2 hi2 : Nat) (w : World) (h1 : CopyC w lo1 hi1 v1 zs) (h2 : CopyC w lo2 hi2 v2 zs) :
    Calls Try.prog 67 #[v1, v2] w fun e w' => e = .returned (.bool true) ∧ Below w.heap.size w w' := by
  obtain ⟨hn, g1, rfl, r1⟩ := h1
  obtain ⟨_, g2, rfl, r2⟩ := h2
  have q1 : RdP w _ (copyT zs) := RowF_rd r1
  have q2 : RdP w _ (copyT zs) := RowF_rd r2
  clear r1 r2
  have hN := copyT_len zs
  have hr := roomL_le zs.length
  generalize hT : copyT zs = T at *
  clear hT
  have Q1 := Lib.hid q1; clear q1
  have Q2 := Lib.hid q2; clear q2
  generalize hTl : T.length = N at *
  have hN' : (zs.length : Int) + (roomL zs.length : Int) = (N : Int) := by omega
  have hcap : zs.length ≤ N := by omega
  clear hN
  go_enter Try.func67, Try.ntmps67
  go_wp2_with (go_at_call 36; refine (room_any _ (by omega) _).mono ?_; rintro e w1 ⟨rfl, rfl⟩)
  go_region_held3 (fun _ => True) (trivial)
    ((go_at_call 94; refine (eqC_same _ _ T _ (by exact Q1.out) (by exact Q2.out)).mono ?_; rintro e w1 ⟨rfl, hb1⟩; replace hb1 := kept_trans (a := w) (by go_grown) hb1))
  go_wp2
  go_ret
  exact ⟨rfl, by assumption⟩

/-- The step i of a list is in order. -/
def OkAt (zs : List (Int × Int)) (i : Nat) (h : i < zs.length) : Prop :=
  (1 ≤ zs[i].1 ∧ zs[i].1 ≤ 1000 ∧ 0 ≤ zs[i].2 ∧ zs[i].2 ≤ 50000) ∧ (0 < i → zs[i - 1].1 < zs[i].1 ∧ zs[i].2 ≤ zs[i - 1].2)

def OkAll (zs : List (Int × Int)) (n : Nat) : Prop := ∀ i, (h : i < zs.length) → i < n → OkAt zs i h

theorem OkAll_step {zs : List (Int × Int)} {n : Nat} (h : OkAll zs n) (hn : n < zs.length) (h1 : OkAt zs n hn) : OkAll zs (n + 1) := by
  intro i hi hlt
  rcases Nat.lt_or_ge i n with h2 | h2
  · exact h i hi h2
  · obtain rfl : i = n := by omega
    exact h1

/-- The list is a load chart. -/
def ChartP (zs : List (Int × Int)) : Prop := OkAll zs zs.length ∧ 1 ≤ zs.length ∧ zs.length ≤ 20

open Classical in
/-- .. as a bool. -/
noncomputable def chartB (zs : List (Int × Int)) : Bool := decide (ChartP zs)

theorem chartB_true {zs : List (Int × Int)} (h : ChartP zs) : chartB zs = true := by simp [chartB, h]

theorem chartB_false {zs : List (Int × Int)} (h : ¬ ChartP zs) : chartB zs = false := by simp [chartB, h]

theorem chartB_iff {zs : List (Int × Int)} : chartB zs = true ↔ ChartP zs := by simp [chartB]

theorem drew_more {w a : World} (h : ∃ q, a = w.drewN q) (n : Nat) : ∃ q, a.drewN n = w.drewN q := by
  obtain ⟨q, rfl⟩ := h
  exact ⟨q + n, World.drewN_drewN _ _ _⟩

theorem specChart_quiet (v : Value) (zs : List (Int × Int)) (w : World) (h : RdP w v zs) :
    Calls Try.prog 106 #[v] w fun e w' => e = .returned (.bool (chartB zs)) ∧ ∃ q, w' = w.drewN q := by
  obtain ⟨A, c, rfl, hl, r1⟩ := RdP_slice h
  clear h
  have R := Lib.hid r1; clear r1
  go_enter Try.func106, Try.ntmps106
  go_wp2_with fail
  go_loopw [3] (fun i wr => ∃ k : Nat, k ≤ zs.length ∧ i = .int .i64 k ∧ OkAll zs k ∧ ∃ q, wr = w.drewN q) (fun i _ => zs.length - (intOf i).toNat)
  case atStart => exact ⟨0, by omega, rfl, fun i _ h => by omega, 0, World.drewN_zero w⟩
  case round =>
    obtain ⟨k, hk, rfl, hall, hq⟩ := hrel
    have hb : Below w.heap.size w wr := by obtain ⟨q, rfl⟩ := hq; exact kept_drewN (Below.refl _ _) _
    have HQ := Lib.hid hq; clear hq
    by_cases hlt : k < zs.length
    · obtain ⟨b, off, rfl, hbl, hc0, hc1⟩ := R.out k hlt
      rw [← kept_cell hb b _ hbl] at hc0 hc1
      have hbad : ¬ OkAt zs k hlt → chartB zs = false := fun hn => chartB_false fun hc => hn (hc.1 k hlt hlt)
      have hgood : OkAt zs k hlt → OkAll zs (k + 1) := OkAll_step hall hlt
      unfold OkAt at hbad hgood
      generalize hx : zs[k].1 = x at *
      generalize hy : zs[k].2 = y at *
      have Hall := Lib.hid hall; clear hall
      have Hbad := Lib.hid hbad; clear hbad
      have Hgood := Lib.hid hgood; clear hgood
      cases i1 : inB x 1 1000
      · go_wp2_with (go_at_call 81; refine (in_any _ _ _ _).mono ?_; rintro e w1 ⟨rfl, rfl⟩)
        go_ret
        exact ⟨by rw [Hbad.out (fun h => inB_false i1 ⟨h.1.1, h.1.2.1⟩)]; rfl, HQ.out⟩
      · have j1 := inB_true i1
        cases i2 : inB y 0 50000
        · go_wp2_with (go_at_call 81; refine (in_any _ _ _ _).mono ?_; rintro e w1 ⟨rfl, rfl⟩)
          go_ret
          exact ⟨by rw [Hbad.out (fun h => inB_false i2 ⟨h.1.2.2.1, h.1.2.2.2⟩)]; rfl, HQ.out⟩
        · have j2 := inB_true i2
          by_cases h0 : k = 0
          · subst h0
            simp only [Nat.zero_mul, Nat.add_zero] at hc0 hc1
            go_wp2_with (go_at_call 81; refine (in_any _ _ _ _).mono ?_; rintro e w1 ⟨rfl, rfl⟩)
            go_quiet (fail)
            go_wp2
            go_roundw
            case rel => exact ⟨1, by omega, by go_num, Hgood.out ⟨by omega, fun h => by omega⟩, drew_more HQ.out _⟩
            case measure => simp [intOf]; omega
          · obtain ⟨m, hm⟩ : ∃ m, k - 1 = m := ⟨k - 1, rfl⟩
            have hkm : (k : Int) - 1 = (m : Int) := by omega
            have hkd : decide (0 < k) = true := by simp; omega
            obtain ⟨b', off', e', _, hd0, hd1⟩ := R.out m (by omega)
            simp only [Option.some.injEq, Addr.mk.injEq, and_true] at e'
            obtain ⟨rfl, rfl⟩ := e'
            rw [← kept_cell hb b _ hbl] at hd0 hd1
            simp only [hm] at Hbad Hgood
            generalize zs[m].1 = x' at *
            generalize zs[m].2 = y' at *
            by_cases h1 : x ≤ x'
            · go_wp2_with (go_at_call 81; refine (in_any _ _ _ _).mono ?_; rintro e w1 ⟨rfl, rfl⟩)
              go_quiet (fail)
              go_wp2
              go_ret
              exact ⟨by rw [Hbad.out (fun h => by omega)]; rfl, drew_more HQ.out _⟩
            · have hd1 : decide (x ≤ x') = false := by simp; omega
              by_cases h2 : y' < y
              · go_wp2_with (go_at_call 81; refine (in_any _ _ _ _).mono ?_; rintro e w1 ⟨rfl, rfl⟩)
                go_quiet (fail)
                go_wp2
                go_ret
                exact ⟨by rw [Hbad.out (fun h => by omega)]; rfl, drew_more HQ.out _⟩
              · go_wp2_with (go_at_call 81; refine (in_any _ _ _ _).mono ?_; rintro e w1 ⟨rfl, rfl⟩)
                go_quiet (fail)
                go_wp2
                go_roundw
                case rel => exact ⟨k + 1, by omega, by go_num, Hgood.out ⟨by omega, fun h => by omega⟩, drew_more HQ.out _⟩
                case measure => simp [intOf]; omega
    · have : k = zs.length := by omega
      subst this
      have E : inB (zs.length : Int) 1 20 = chartB zs := by
        by_cases hc : 1 ≤ zs.length ∧ zs.length ≤ 20
        · rw [chartB_true ⟨hall, hc⟩]
          simp [inB]
          omega
        · rw [chartB_false fun h => hc h.2]
          simp only [inB]
          simp
          omega
      go_wp2_with (go_at_call 81; refine (in_any _ _ _ _).mono ?_; rintro e w1 ⟨rfl, rfl⟩)
      go_ret
      exact ⟨rfl, HQ.out⟩

/-- The step before the step k; ahead of the first one, what no step can fail. -/
def prevP (zs : List (Int × Int)) : Nat → Int × Int
  | 0 => (0, 50000)
  | m + 1 => zs.getD m (0, 50000)

theorem prevP_succ (zs : List (Int × Int)) (k : Nat) (h : k < zs.length) : prevP zs (k + 1) = zs[k] := by simp [prevP, h]

theorem OkAt_prev {zs : List (Int × Int)} {k : Nat} (hall : OkAll zs k) (h : k < zs.length) :
    OkAt zs k h ↔ (prevP zs k).1 < zs[k].1 ∧ zs[k].1 ≤ 1000 ∧ 0 ≤ zs[k].2 ∧ zs[k].2 ≤ (prevP zs k).2 := by
  cases k with
  | zero => simp only [OkAt, prevP]; omega
  | succ m =>
    have h1 := hall m (by omega) (by omega)
    rw [prevP_succ zs m (by omega)]
    simp only [OkAt, Nat.add_sub_cancel] at h1 ⊢
    omega

theorem implChart_any (v : Value) (zs : List (Int × Int)) (w : World) (h : RdP w v zs) :
    Calls Try.prog 91 #[v] w fun e w' => e = .returned (.bool (chartB zs)) ∧ Below w.heap.size w w' := by
  obtain ⟨A, c, rfl, hl, r1⟩ := RdP_slice h
  clear h
  have R := Lib.hid r1; clear r1
  by_cases g1 : zs.length < 1
  · have hc : chartB zs = false := chartB_false fun h => by have := h.2; omega
    rw [hc]
    go_enter Try.func91, Try.ntmps91
    go_wp2
    go_ret
    exact ⟨rfl, Below.refl _ _⟩
  by_cases g2 : 20 < zs.length
  · have hc : chartB zs = false := chartB_false fun h => by have := h.2; omega
    rw [hc]
    go_enter Try.func91, Try.ntmps91
    go_wp2
    go_ret
    exact ⟨rfl, Below.refl _ _⟩
  go_enter Try.func91, Try.ntmps91
  go_wp2_with fail
  go_loopw [17] (fun i wr => ∃ k : Nat, k ≤ zs.length ∧ i = .int .i64 k ∧ OkAll zs k ∧ Below w.heap.size w wr ∧ w.heap.size < wr.heap.size ∧ wr.cell? ⟨w.heap.size, 0, none⟩ = some (.int .i64 (prevP zs k).1) ∧ wr.cell? ⟨w.heap.size, 1, none⟩ = some (.int .i64 (prevP zs k).2) ∧ wr.frozen? ⟨w.heap.size, 0, none⟩ = false ∧ wr.frozen? ⟨w.heap.size, 1, none⟩ = false) (fun i _ => zs.length - (intOf i).toNat)
  case atStart => exact ⟨0, by omega, rfl, fun i _ h => by omega, by go_grown, by simp, by simp [prevP], by simp [prevP], by simp, by simp⟩
  case round =>
    obtain ⟨k, hk, rfl, hall, hb, hlw, hp0, hp1, hz0, hz1⟩ := hrel
    by_cases hlt : k < zs.length
    · obtain ⟨b, off, rfl, hbl, hc0, hc1⟩ := R.out k hlt
      rw [← kept_cell hb b _ hbl] at hc0 hc1
      have hiff := OkAt_prev hall hlt
      have hbad : ¬ OkAt zs k hlt → chartB zs = false := fun hn => chartB_false fun hc => hn (hc.1 k hlt hlt)
      have hgood : OkAt zs k hlt → OkAll zs (k + 1) := OkAll_step hall hlt
      have hnext := prevP_succ zs k hlt
      rw [hiff] at hbad hgood
      clear hiff
      rw [show zs[k] = (zs[k].1, zs[k].2) from rfl] at hnext
      generalize zs[k].1 = x at *
      generalize zs[k].2 = y at *
      generalize (prevP zs k).1 = x' at *
      generalize (prevP zs k).2 = y' at *
      have Hall := Lib.hid hall; clear hall
      have Hbad := Lib.hid hbad; clear hbad
      have Hgood := Lib.hid hgood; clear hgood
      have Hnext := Lib.hid hnext; clear hnext
      by_cases h1 : x ≤ x'
      · go_wp2
        go_ret
        exact ⟨by rw [Hbad.out (fun h => by omega)]; rfl, by go_grown⟩
      · have hd1 : decide (x ≤ x') = false := by simp; omega
        by_cases h2 : 1000 < x
        · go_wp2
          go_ret
          exact ⟨by rw [Hbad.out (fun h => by omega)]; rfl, by go_grown⟩
        · by_cases h3 : y < 0
          · go_wp2
            go_ret
            exact ⟨by rw [Hbad.out (fun h => by omega)]; rfl, by go_grown⟩
          · by_cases h4 : y' < y
            · go_wp2
              go_ret
              exact ⟨by rw [Hbad.out (fun h => by omega)]; rfl, by go_grown⟩
            · go_wp2
              go_roundw
              case rel => exact ⟨k + 1, by omega, by go_num, Hgood.out (by omega), by go_grown, by simp; omega, by rw [Hnext.out]; simp [World.cell?_alloc_past, World.cell?_setCell_same', World.cell?_setCell_other, hlw, hp0, hp1], by rw [Hnext.out]; simp [World.cell?_alloc_past, World.cell?_setCell_same', World.cell?_setCell_other, hlw, hp0, hp1], by simp [World.frozen?_alloc_past, hlw, hz0], by simp [World.frozen?_alloc_past, hlw, hz1]⟩
              case measure => simp [intOf]; omega
    · have : k = zs.length := by omega
      subst this
      go_wp2
      go_ret
      exact ⟨by rw [chartB_true ⟨hall, by omega, by omega⟩]; rfl, hb⟩

/-- The index of the first step whose radius is not less; the length if there is none. -/
def findL (zs : List (Int × Int)) (r : Int) : Nat := zs.findIdx fun z => decide (r ≤ z.1)

theorem findL_le (zs : List (Int × Int)) (r : Int) : findL zs r ≤ zs.length := List.findIdx_le_length

theorem findL_before (zs : List (Int × Int)) (r : Int) (k : Nat) (h : k < findL zs r) (h1 : k < zs.length) : zs[k].1 < r := by
  have := List.not_of_lt_findIdx h
  simpa using this

theorem findL_at (zs : List (Int × Int)) (r : Int) (h : findL zs r < zs.length) : r ≤ (zs[findL zs r]).1 := by
  have := List.findIdx_getElem (w := h)
  exact of_decide_eq_true this

theorem findL_is (zs : List (Int × Int)) (r : Int) (k : Nat) (hk : k ≤ zs.length) (hb : ∀ i, (h : i < zs.length) → i < k → zs[i].1 < r) (ha : (h : k < zs.length) → r ≤ zs[k].1) : findL zs r = k := by
  rcases Nat.lt_trichotomy (findL zs r) k with h | h | h
  · have h1 := findL_at zs r (by omega)
    have h2 := hb (findL zs r) (by omega) h
    omega
  · exact h
  · have hl := findL_le zs r
    have h1 := findL_before zs r k h (by omega)
    have h2 := ha (by omega)
    omega

theorem specFind_any (v : Value) (zs : List (Int × Int)) (r : Int) (w : World) (h : RdP w v zs) :
    Calls Try.prog 121 #[v, .int .i64 r] w fun e w' => e = .returned (.int .i64 (if findL zs r < zs.length then (findL zs r : Int) else -1)) ∧ w = w' := by
  obtain ⟨A, c, rfl, hl, r1⟩ := RdP_slice h
  clear h
  have R := Lib.hid r1; clear r1
  generalize hF : (if findL zs r < zs.length then (findL zs r : Int) else -1) = F
  have HF := Lib.hid hF; clear hF
  go_enter Try.func121, Try.ntmps121
  go_wp2_with fail
  go_loop [5] (fun i => ∃ k : Nat, k ≤ zs.length ∧ i = .int .i64 k ∧ ∀ i, (h : i < zs.length) → i < k → zs[i].1 < r) (fun i => zs.length - (intOf i).toNat)
  case atStart => exact ⟨0, by omega, rfl, fun i _ h => by omega⟩
  case round =>
    obtain ⟨k, hk, rfl, hall⟩ := hrel
    by_cases hlt : k < zs.length
    · obtain ⟨b, off, rfl, hbl, hc0, hc1⟩ := R.out k hlt
      have his := findL_is zs r k hk hall
      have Hall := Lib.hid hall; clear hall
      have hgood : zs[k].1 < r → ∀ i, (h : i < zs.length) → i < k + 1 → zs[i].1 < r := by
        intro hg i h hi
        rcases Nat.lt_or_ge i k with h2 | h2
        · exact Hall.out i h h2
        · obtain rfl : i = k := by omega
          exact hg
      have hnot : r ≤ zs[k].1 → findL zs r = k := fun h => his fun _ => h
      clear his
      have Hgood := Lib.hid hgood; clear hgood
      have Hnot := Lib.hid hnot; clear hnot
      generalize zs[k].1 = x at *
      by_cases hx : r ≤ x
      · go_wp2
        go_ret
        exact ⟨by rw [← HF.out, Hnot.out hx, if_pos hlt]; rfl, rfl⟩
      · go_wp2
        go_round
        case rel => exact ⟨k + 1, by omega, by go_num, Hgood.out (by omega)⟩
        case measure => simp [intOf]; omega
    · have : k = zs.length := by omega
      subst this
      have his := findL_is zs r zs.length (Nat.le_refl _) hall (fun h => by omega)
      have Hall := Lib.hid hall; clear hall
      have His := Lib.hid his; clear his
      go_wp2
      go_ret
      exact ⟨by rw [← HF.out, His.out, if_neg (by omega)]; rfl, rfl⟩

set_option maxRecDepth 20000 in
/-- A search in a list of answers that are first false and then true, the answers by a function that makes memory alone. -/
theorem sortSearch_any (n : Nat) (hn : n ≤ 1000000000) (g : FuncId) (he : Enters Try.prog g) (cap : Array Value) (p : Nat → Bool) (hmono : ∀ i j, i ≤ j → j < n → p i = true → p j = true) (w : World)
    (hf : ∀ i, i < n → ∀ w1, Below w.heap.size w w1 → Calls Try.prog g (#[.int .i64 (i : Nat)] ++ cap) w1 fun e w2 => e = .returned (.bool (p i)) ∧ Below w1.heap.size w1 w2) :
    Calls Try.prog 119 #[.int .i64 n, .func (.func g) #[] cap] w fun e w' => ∃ k : Nat, k ≤ n ∧ (∀ i, i < k → p i = false) ∧ (∀ i, k ≤ i → i < n → p i = true) ∧ e = .returned (.int .i64 k) ∧ Below w.heap.size w w' := by
  have Hf := Lib.hid hf; clear hf
  have Hm := Lib.hid hmono; clear hmono
  go_enter Try.func119, Try.ntmps119
  go_wp2_with fail
  go_loopw [5, 6] (fun i j wr => ∃ a b : Nat, a ≤ b ∧ b ≤ n ∧ i = .int .i64 a ∧ j = .int .i64 b ∧ (∀ i, i < a → p i = false) ∧ (∀ i, b ≤ i → i < n → p i = true) ∧ Below w.heap.size w wr) (fun i j _ => (intOf j).toNat - (intOf i).toNat)
  case atStart => exact ⟨0, n, by omega, Nat.le_refl _, rfl, rfl, fun i h => by omega, fun i h h2 => by omega, Below.refl _ _⟩
  case round =>
    obtain ⟨a, b, hab, hbn, rfl, rfl, hlo, hhi, hb⟩ := hrel
    have Hlo := Lib.hid hlo; clear hlo
    have Hhi := Lib.hid hhi; clear hhi
    by_cases hlt : a < b
    · have hm : ((a : Int) + (b : Int)) / 2 = (((a + b) / 2 : Nat) : Int) := by omega
      have hm1 : (a + b) / 2 < b ∧ a ≤ (a + b) / 2 := by omega
      generalize (a + b) / 2 = m at *
      have hc := Hf.out m (by omega) wr hb
      cases hp : p m
      all_goals
        rw [hp] at hc
        have Hp := Lib.hid hp; clear hp
        have Hc := Lib.hid hc; clear hc
        go_wp2_with fail
        rw [he, Oper.upon_enter]
        refine Hc.out.mono ?_
        rintro e w1 ⟨rfl, hb1⟩
        go_wp2
        go_roundw
        case rel => first
          | exact ⟨m + 1, b, by omega, hbn, by go_num, rfl, fun i hi => (by
              cases hq : p i
              · rfl
              · have := Hm.out i m (by omega) (by omega) hq
                rw [Hp.out] at this
                cases this), Hhi.out, kept_trans hb hb1⟩
          | exact ⟨a, m, by omega, by omega, rfl, rfl, Hlo.out, fun i h1 h2 => Hm.out m i h1 h2 Hp.out, kept_trans hb hb1⟩
        case measure => simp [intOf]; omega
    · have : a = b := by omega
      subst this
      go_wp2
      go_ret
      exact ⟨a, by omega, Hlo.out, Hhi.out, rfl, hb⟩

/-- The radii increase. -/
def Incr (zs : List (Int × Int)) : Prop := ∀ i j, (hi : i < zs.length) → (hj : j < zs.length) → i ≤ j → zs[i].1 ≤ zs[j].1

theorem ChartP_incr {zs : List (Int × Int)} (h : ChartP zs) : Incr zs := by
  intro i j hi hj hij
  induction j with
  | zero =>
    obtain rfl : i = 0 := by omega
    exact Int.le_refl _
  | succ j ih =>
    rcases Nat.lt_or_ge i (j + 1) with h1 | h1
    · have h2 := ih (by omega) (by omega)
      have h3 := (h.1 (j + 1) hj hj).2 (by omega)
      simp only [Nat.add_sub_cancel] at h3
      omega
    · obtain rfl : i = j + 1 := by omega
      exact Int.le_refl _

theorem stepClosure_any (v : Value) (zs : List (Int × Int)) (r : Int) (i : Nat) (hi : i < zs.length) (b1 b2 : Nat) (w : World) (h : RdP w v zs) (h1 : w.cell? ⟨b1, 0, none⟩ = some v) (h2 : w.cell? ⟨b2, 0, none⟩ = some (.int .i64 r)) :
    Calls Try.prog 127 #[.int .i64 (i : Nat), .pointer (some ⟨b1, 0, none⟩), .pointer (some ⟨b2, 0, none⟩)] w fun e w' => e = .returned (.bool (decide (r ≤ zs[i].1))) ∧ Below w.heap.size w w' := by
  obtain ⟨A, c, rfl, hl, r1⟩ := RdP_slice h
  clear h
  obtain ⟨b, off, rfl, hbl, hc0, hc1⟩ := r1 i hi
  clear r1
  generalize zs[i].1 = x at *
  cases hx : decide (r ≤ x)
  all_goals
    go_enter Try.func127, Try.ntmps127
    go_wp2_with fail
    go_quiet (fail)
    go_wp2
    go_ret
    exact ⟨rfl, kept_drewN (Below.refl _ _) _⟩

theorem stepFor_any (v : Value) (zs : List (Int × Int)) (r : Int) (w : World) (h : RdP w v zs) (hs : Incr zs) (hn : zs.length ≤ 1000000) :
    Calls Try.prog 125 #[v, .int .i64 r] w fun e w' => e = .returned (.int .i64 (findL zs r)) ∧ Below w.heap.size w w' := by
  obtain ⟨A, c, rfl, hl, _⟩ := RdP_slice h
  have H := Lib.hid h; clear h
  have hmf : ∀ (fn : Fn) (first cap : Array Value) (w : World), (Instr.makeFunc fn first cap).run Try.prog w = .ok (.func fn first cap) w := fun _ _ _ _ => rfl
  go_enter Try.func125, Try.ntmps125
  go_wp2_with fail
  refine (sortSearch_any zs.length (by omega) 127 (enters_of Try.func127 (by kernel_rfl) rfl) _ (fun i => decide (r ≤ (zs.getD i (0, 0)).1)) ?_ _ ?_).mono ?_
  · intro i j hij hj hp
    have := hs i j (by omega) hj hij
    simp only [List.getD_eq_getElem?_getD, List.getElem?_eq_getElem hj, List.getElem?_eq_getElem (show i < zs.length by omega), Option.getD_some, decide_eq_true_eq] at hp ⊢
    omega
  · intro i hi w1 hb1
    have hb2 : Below w.heap.size w w1 := kept_trans (a := w) (by go_grown) hb1
    have e1 := kept_cell hb1 w.heap.size 0 (by simp; omega)
    have e2 := kept_cell hb1 (w.heap.size + 1) 0 (by simp)
    have := stepClosure_any _ zs r i hi w.heap.size (w.heap.size + 1) w1 (RdP_kept H.out hb2) (by rw [e1]; simp) (by rw [e2]; simp)
    simp only [List.getD_eq_getElem?_getD, List.getElem?_eq_getElem hi, Option.getD_some]
    exact this
  · rintro e w1 ⟨k, hk, hlo, hhi, rfl, hb1⟩
    have hb2 : Below w.heap.size w w1 := kept_trans (a := w) (by go_grown) hb1
    have hf : findL zs r = k := by
      refine findL_is zs r k hk (fun i hi hik => ?_) (fun hkl => ?_)
      · have := hlo i hik
        simp only [List.getD_eq_getElem?_getD, List.getElem?_eq_getElem hi, Option.getD_some, decide_eq_false_iff_not] at this
        omega
      · have := hhi k (Nat.le_refl _) hkl
        simpa only [List.getD_eq_getElem?_getD, List.getElem?_eq_getElem hkl, Option.getD_some, decide_eq_true_eq] using this
    have Hlo := Lib.hid hlo; clear hlo
    have Hhi := Lib.hid hhi; clear hhi
    have Hff := Lib.hid hf; clear hf
    go_wp2
    go_ret
    exact ⟨by rw [Hff.out]; rfl, hb2⟩

/-- The step k. -/
def atP (zs : List (Int × Int)) (k : Nat) : Int × Int := zs.getD k (0, 0)

theorem atP_is (zs : List (Int × Int)) (k : Nat) (h : k < zs.length) : atP zs k = zs[k] := by simp [atP, h]

theorem rd_at {w : World} {A : Option Addr} {n c : Nat} {zs : List (Int × Int)} (h : RdP w (.slice A n c) zs) (k : Nat) (hk : k < zs.length) :
    n = zs.length ∧ ∃ b off, A = some ⟨b, off, none⟩ ∧ b < w.heap.size ∧ w.cell? ⟨b, off + k * 2, none⟩ = some (.int .i64 (atP zs k).1) ∧ w.cell? ⟨b, off + k * 2 + 1, none⟩ = some (.int .i64 (atP zs k).2) := by
  obtain ⟨A', c', e, hl, r1⟩ := RdP_slice h
  obtain ⟨b, off, rfl, hb, h0, h1⟩ := r1 k hk
  simp only [Value.slice.injEq] at e
  refine ⟨e.2.1, b, off, e.1, hb, ?_, ?_⟩
  · rw [atP_is zs k hk]; exact h0
  · rw [atP_is zs k hk]; exact h1

/-- A quotient, rounded up. -/
def upL (n d : Int) : Int := (n + d - 1) / d

/-- The load of a chart at a radius that it reaches. -/
def loadL (zs : List (Int × Int)) (r : Int) : Int :=
  if findL zs r = 0 then (atP zs 0).2 else
    (atP zs (findL zs r - 1)).2 - upL (((atP zs (findL zs r - 1)).2 - (atP zs (findL zs r)).2) * (r - (atP zs (findL zs r - 1)).1)) ((atP zs (findL zs r)).1 - (atP zs (findL zs r - 1)).1)

theorem mul_bd (a b p q : Int) (h1 : 0 ≤ a ∧ a ≤ p) (h2 : 0 ≤ b ∧ b ≤ q) : 0 ≤ a * b ∧ a * b ≤ p * q :=
  ⟨Int.mul_nonneg h1.1 h2.1, Int.mul_le_mul h1.2 h2.2 h2.1 (by omega)⟩

theorem specUp_any (n d : Int) (h1 : 0 ≤ n ∧ n ≤ 1000000000) (h2 : 1 ≤ d ∧ d ≤ 1000000) (w : World) :
    Calls Try.prog 122 #[.int .i64 n, .int .i64 d] w fun e w' => e = .returned (.int .i64 (upL n d)) ∧ w = w' := by
  have e : (n + d - 1).tdiv d = upL n d := by rw [upL, Int.tdiv_eq_ediv_of_nonneg (by omega)]
  have hd : (d == 0) = false := by simp; omega
  have hd2 : ¬ d = 0 := by omega
  have hd3 : ¬ d = -1 := by omega
  have hb : 0 ≤ upL n d ∧ upL n d ≤ 2000000000 := by
    rw [upL]
    refine ⟨Int.ediv_nonneg (by omega) (by omega), ?_⟩
    have := Int.ediv_le_self (a := n + d - 1) d (by omega)
    omega
  generalize upL n d = q at *
  go_enter Try.func122, Try.ntmps122
  go_wp2
  go_ret
  exact ⟨by first | rfl | rw [e], rfl⟩

theorem implUp_any (n d : Int) (h1 : 0 ≤ n ∧ n ≤ 1000000000) (h2 : 1 ≤ d ∧ d ≤ 1000000) (w : World) :
    Calls Try.prog 126 #[.int .i64 n, .int .i64 d] w fun e w' => e = .returned (.int .i64 (upL n d)) ∧ w = w' := by
  have e : (n + d - 1).tdiv d = upL n d := by rw [upL, Int.tdiv_eq_ediv_of_nonneg (by omega)]
  have hd : (d == 0) = false := by simp; omega
  have hd2 : ¬ d = 0 := by omega
  have hd3 : ¬ d = -1 := by omega
  have hb : 0 ≤ upL n d ∧ upL n d ≤ 2000000000 := by
    rw [upL]
    refine ⟨Int.ediv_nonneg (by omega) (by omega), ?_⟩
    have := Int.ediv_le_self (a := n + d - 1) d (by omega)
    omega
  generalize upL n d = q at *
  go_enter Try.func126, Try.ntmps126
  go_wp2
  go_ret
  exact ⟨by first | rfl | rw [e], rfl⟩

theorem upL_le (m d r : Int) (hm : 0 ≤ m) (hd : 1 ≤ d) (h : r ≤ m * d) (h0 : 0 ≤ r) : 0 ≤ upL r d ∧ upL r d ≤ m := by
  rw [upL]
  refine ⟨Int.ediv_nonneg (by omega) (by omega), ?_⟩
  have : (r + d - 1) / d < m + 1 := Int.ediv_lt_of_lt_mul (by omega) (by rw [Int.add_mul]; omega)
  omega

/-- What is known of the two steps between which a radius lies. -/
def Betw (x0 y0 x1 y1 r : Int) : Prop := (0 ≤ y1 ∧ y1 ≤ y0 ∧ y0 ≤ 50000) ∧ (1 ≤ x0 ∧ x0 < r ∧ r ≤ x1 ∧ x1 ≤ 1000)

theorem betw_of {zs : List (Int × Int)} {r : Int} (h : ChartP zs) (hf : findL zs r < zs.length) (h0 : findL zs r ≠ 0) :
    Betw (atP zs (findL zs r - 1)).1 (atP zs (findL zs r - 1)).2 (atP zs (findL zs r)).1 (atP zs (findL zs r)).2 r := by
  have h1 := findL_at zs r hf
  have h2 := findL_before zs r (findL zs r - 1) (by omega) (by omega)
  have h3 := h.1 (findL zs r) hf hf
  have h4 := h.1 (findL zs r - 1) (by omega) (by omega)
  have h5 := h3.2 (by omega)
  rw [atP_is zs _ hf, atP_is zs (findL zs r - 1) (by omega)]
  have h6 := h3.1
  have h7 := h4.1
  simp only [Betw]
  omega

theorem betw_bd {x0 y0 x1 y1 r : Int} (h : Betw x0 y0 x1 y1 r) :
    (0 ≤ (y0 - y1) * (r - x0) ∧ (y0 - y1) * (r - x0) ≤ 50000000) ∧ 0 ≤ upL ((y0 - y1) * (r - x0)) (x1 - x0) ∧ upL ((y0 - y1) * (r - x0)) (x1 - x0) ≤ y0 - y1 := by
  simp only [Betw] at h
  have m := mul_bd (y0 - y1) (r - x0) 50000 1000 (by omega) (by omega)
  refine ⟨by omega, upL_le (y0 - y1) (x1 - x0) _ (by omega) (by omega) ?_ m.1⟩
  exact Int.mul_le_mul_of_nonneg_left (by omega) (by omega)

theorem specLoad_any (v : Value) (zs : List (Int × Int)) (r : Int) (w : World) (h : RdP w v zs) (hc : ChartP zs) :
    Calls Try.prog 111 #[v, .int .i64 r] w fun e w' => e = .returned (.int .i64 (if findL zs r < zs.length then loadL zs r else -1)) ∧ Below w.heap.size w w' := by
  obtain ⟨A, c, rfl, hl, _⟩ := RdP_slice h
  have H := Lib.hid h
  have hlen := hc.2
  have Hf := specFind_any _ zs r w h
  by_cases hf : findL zs r < zs.length
  · rw [if_pos hf] at Hf ⊢
    by_cases h0 : findL zs r = 0
    · have hE : loadL zs r = (atP zs 0).2 := by rw [loadL, if_pos h0]
      rw [hE]
      obtain ⟨_, b, off, rfl, hbl, hc0, hc1⟩ := rd_at h 0 (by omega)
      rw [h0] at Hf
      have Hf := Lib.hid Hf; clear h hc hE h0 hf
      simp only [Nat.zero_mul, Nat.add_zero] at hc0 hc1
      go_enter Try.func111, Try.ntmps111
      go_wp2_with fail
      refine Hf.out.mono ?_
      rintro e w2 ⟨rfl, rfl⟩
      go_wp2
      go_ret
      exact ⟨rfl, Below.refl _ _⟩
    · have hbt := betw_of hc hf h0
      have hE : loadL zs r = (atP zs (findL zs r - 1)).2 - upL (((atP zs (findL zs r - 1)).2 - (atP zs (findL zs r)).2) * (r - (atP zs (findL zs r - 1)).1)) ((atP zs (findL zs r)).1 - (atP zs (findL zs r - 1)).1) := by rw [loadL, if_neg h0]
      rw [hE]
      obtain ⟨_, b, off, rfl, hbl, hc0, hc1⟩ := rd_at h (findL zs r) hf
      obtain ⟨_, b', off', e', _, hd0, hd1⟩ := rd_at h (findL zs r - 1) (by omega)
      simp only [Option.some.injEq, Addr.mk.injEq, and_true] at e'
      obtain ⟨rfl, rfl⟩ := e'
      generalize hk : findL zs r = k at *
      have hkm : (k : Int) - 1 = ((k - 1 : Nat) : Int) := by omega
      have hk1 : k - 1 < zs.length := by omega
      have hkp : decide ((k : Int) ≤ 0) = false := by simp; omega
      have hkp2 : ¬ (k : Int) ≤ 0 := by omega
      generalize k - 1 = m at *
      have Hf := Lib.hid Hf; clear h hc hE hk
      generalize (atP zs k).1 = x1 at *
      generalize (atP zs k).2 = y1 at *
      generalize (atP zs m).1 = x0 at *
      generalize (atP zs m).2 = y0 at *
      have hbd := betw_bd hbt
      simp only [Betw] at hbt
      have hw1 : IntKind.i64.wrap (y0 - y1) = y0 - y1 := IntWalk.i64_in _ (by omega)
      have hw2 : IntKind.i64.wrap (r - x0) = r - x0 := IntWalk.i64_in _ (by omega)
      have hw3 : IntKind.i64.wrap (x1 - x0) = x1 - x0 := IntWalk.i64_in _ (by omega)
      have hw4 : IntKind.i64.wrap ((y0 - y1) * (r - x0)) = (y0 - y1) * (r - x0) := IntWalk.i64_in _ (by omega)
      have hw5 : IntKind.i64.wrap (y0 - upL ((y0 - y1) * (r - x0)) (x1 - x0)) = y0 - upL ((y0 - y1) * (r - x0)) (x1 - x0) := IntWalk.i64_in _ (by omega)
      go_enter Try.func111, Try.ntmps111
      go_wp2_with fail
      refine Hf.out.mono ?_
      rintro e w2 ⟨rfl, rfl⟩
      go_wp2_with fail
      go_quiet ((go_at_call 122; exact Calls.quiet_of_same ((specUp_any _ _ (by omega) (by omega) _).mono fun e w' h => ⟨h.1, h.2.symm⟩)))
      go_wp2
      go_ret
      exact ⟨rfl, kept_drewN (Below.refl _ _) _⟩
  · rw [if_neg hf] at Hf ⊢
    have Hf := Lib.hid Hf; clear h hc hf
    go_enter Try.func111, Try.ntmps111
    go_wp2_with fail
    refine Hf.out.mono ?_
    rintro e w2 ⟨rfl, rfl⟩
    go_wp2
    go_ret
    exact ⟨rfl, Below.refl _ _⟩

theorem implLoadIn_any (v : Value) (zs : List (Int × Int)) (r : Int) (w : World) (h : RdP w v zs) (hc : ChartP zs) (hf : findL zs r < zs.length) :
    Calls Try.prog 124 #[v, .int .i64 r] w fun e w' => e = .returned (.int .i64 (loadL zs r)) ∧ Below w.heap.size w w' := by
  obtain ⟨A, c, rfl, hl, _⟩ := RdP_slice h
  have H := Lib.hid h
  have hlen := hc.2
  have Hf := fun (w : World) (h : RdP w (.slice A zs.length c) zs) => stepFor_any _ zs r w h (ChartP_incr hc) (by omega)
  by_cases h0 : findL zs r = 0
  · have hE : loadL zs r = (atP zs 0).2 := by rw [loadL, if_pos h0]
    rw [hE]
    rw [h0] at Hf
    have Hf := Lib.hid Hf; clear h hc hE h0 hf
    go_enter Try.func124, Try.ntmps124
    go_wp2_with fail
    refine (Hf.out _ H.out).mono ?_
    rintro e w1 ⟨rfl, hb⟩
    have h1 := RdP_kept H.out hb
    obtain ⟨_, b, off, rfl, hbl, hc0, hc1⟩ := rd_at h1 0 (by omega)
    have H1 := Lib.hid h1; clear h1
    simp only [Nat.zero_mul, Nat.add_zero] at hc0 hc1
    go_wp2
    go_ret
    exact ⟨rfl, hb⟩
  · have hbt := betw_of hc hf h0
    have hE : loadL zs r = (atP zs (findL zs r - 1)).2 - upL (((atP zs (findL zs r - 1)).2 - (atP zs (findL zs r)).2) * (r - (atP zs (findL zs r - 1)).1)) ((atP zs (findL zs r)).1 - (atP zs (findL zs r - 1)).1) := by rw [loadL, if_neg h0]
    rw [hE]
    generalize hk : findL zs r = k at *
    have hk0 : ((k : Int) == 0) = false := by simp; omega
    have hkm : (k : Int) - 1 = ((k - 1 : Nat) : Int) := by omega
    have hk1 : k - 1 < zs.length := by omega
    generalize k - 1 = m at *
    have Hf := Lib.hid Hf; clear h hc hE hk
    generalize hx1 : (atP zs k).1 = x1 at *
    generalize hy1 : (atP zs k).2 = y1 at *
    generalize hx0 : (atP zs m).1 = x0 at *
    generalize hy0 : (atP zs m).2 = y0 at *
    have Hx1 := Lib.hid hx1; clear hx1
    have Hy1 := Lib.hid hy1; clear hy1
    have Hx0 := Lib.hid hx0; clear hx0
    have Hy0 := Lib.hid hy0; clear hy0
    go_enter Try.func124, Try.ntmps124
    go_wp2_with fail
    refine (Hf.out _ H.out).mono ?_
    rintro e w1 ⟨rfl, hb⟩
    have h1 := RdP_kept H.out hb
    obtain ⟨_, b, off, rfl, hbl, hc0, hc1⟩ := rd_at h1 k hf
    obtain ⟨_, b', off', e', _, hd0, hd1⟩ := rd_at h1 m hk1
    simp only [Option.some.injEq, Addr.mk.injEq, and_true] at e'
    obtain ⟨rfl, rfl⟩ := e'
    have H1 := Lib.hid h1; clear h1
    rw [Hx1.out] at hc0
    rw [Hy1.out] at hc1
    rw [Hx0.out] at hd0
    rw [Hy0.out] at hd1
    have hbd := betw_bd hbt
    simp only [Betw] at hbt
    have hU := Lib.hid (fun w => implUp_any ((y0 - y1) * (r - x0)) (x1 - x0) (by omega) (by omega) w)
    have hw1 : IntKind.i64.wrap (y0 - y1) = y0 - y1 := IntWalk.i64_in _ (by omega)
    have hw2 : IntKind.i64.wrap (r - x0) = r - x0 := IntWalk.i64_in _ (by omega)
    have hw3 : IntKind.i64.wrap (x1 - x0) = x1 - x0 := IntWalk.i64_in _ (by omega)
    have hw4 : IntKind.i64.wrap ((y0 - y1) * (r - x0)) = (y0 - y1) * (r - x0) := IntWalk.i64_in _ (by omega)
    have hw5 : IntKind.i64.wrap (y0 - upL ((y0 - y1) * (r - x0)) (x1 - x0)) = y0 - upL ((y0 - y1) * (r - x0)) (x1 - x0) := IntWalk.i64_in _ (by omega)
    go_wp2_with fail
    go_region
    all_goals
      go_wp2_with fail
      go_quiet ((go_at_call 126; exact (hU.out _).mono fun e w' h => ⟨h.1, _, h.2.symm⟩))
      go_wp2
      go_ret
      exact ⟨rfl, kept_drewN (kept_trans (a := w) hb (by go_grown)) _⟩

theorem loadL_bd {zs : List (Int × Int)} {r : Int} (h : ChartP zs) (hf : findL zs r < zs.length) : 0 ≤ loadL zs r ∧ loadL zs r ≤ 50000 := by
  by_cases h0 : findL zs r = 0
  · rw [loadL, if_pos h0]
    have h1 := (h.1 0 (by omega) (by omega)).1
    rw [atP_is zs 0 (by omega)]
    omega
  · have hb := betw_of h hf h0
    have hu := betw_bd hb
    rw [loadL, if_neg h0]
    simp only [Betw] at hb
    omega

/-- The last radius. -/
def lastL (zs : List (Int × Int)) : Int := (atP zs (zs.length - 1)).1

theorem find_last {zs : List (Int × Int)} (h : ChartP zs) (r : Int) : findL zs r < zs.length ↔ r ≤ lastL zs := by
  have hi := ChartP_incr h
  have hn := h.2
  have hle := findL_le zs r
  rw [lastL, atP_is zs _ (by omega)]
  constructor
  · intro hf
    have h1 := findL_at zs r hf
    have h2 := hi (findL zs r) (zs.length - 1) hf (by omega) (by omega)
    omega
  · intro hr
    rcases Nat.lt_or_ge (findL zs r) zs.length with h1 | h1
    · exact h1
    · have := findL_before zs r (zs.length - 1) (by omega) (by omega)
      omega

theorem last_any (v : Value) (zs : List (Int × Int)) (w : World) (h : RdP w v zs) (hn : 1 ≤ zs.length) :
    Calls Try.prog 92 #[v] w fun e w' => e = .returned (.int .i64 (lastL zs)) ∧ w = w' := by
  obtain ⟨A, c, rfl, hl, _⟩ := RdP_slice h
  obtain ⟨_, b, off, rfl, hbl, hc0, hc1⟩ := rd_at h (zs.length - 1) (by omega)
  unfold lastL
  have hkm : (zs.length : Int) - 1 = ((zs.length - 1 : Nat) : Int) := by omega
  have hk1 : zs.length - 1 < zs.length := by omega
  clear h
  generalize zs.length - 1 = m at *
  generalize (atP zs m).1 = x at *
  go_enter Try.func92, Try.ntmps92
  go_wp2
  go_ret
  exact ⟨rfl, rfl⟩

theorem specLast_any (v : Value) (zs : List (Int × Int)) (w : World) (h : RdP w v zs) (hn : 1 ≤ zs.length) :
    Calls Try.prog 107 #[v] w fun e w' => e = .returned (.int .i64 (lastL zs)) ∧ w = w' := by
  obtain ⟨A, c, rfl, hl, _⟩ := RdP_slice h
  obtain ⟨_, b, off, rfl, hbl, hc0, hc1⟩ := rd_at h (zs.length - 1) (by omega)
  unfold lastL
  have hkm : (zs.length : Int) - 1 = ((zs.length - 1 : Nat) : Int) := by omega
  have hk1 : zs.length - 1 < zs.length := by omega
  clear h
  generalize zs.length - 1 = m at *
  generalize (atP zs m).1 = x at *
  go_enter Try.func107, Try.ntmps107
  go_wp2
  go_ret
  exact ⟨rfl, rfl⟩

/-- A crane's fields. -/
structure Cr where
  nm : ByteArray
  x : Int
  y : Int
  h : Int
  j : Int
  b : Int
  ch : List (Int × Int)

/-- A crane, cell by cell; c: its chart's slice. -/
def encK (p : Cr × Value) : List Value := [.string p.1.nm, .int .i64 p.1.x, .int .i64 p.1.y, .int .i64 p.1.h, .int .i64 p.1.j, .int .i64 p.1.b, p.2]

def wfK (k : Cr) : Prop := k.nm.size ≤ maxLen ∧ (Lit.int .i64 k.x).wf = true ∧ (Lit.int .i64 k.y).wf = true ∧ (Lit.int .i64 k.h).wf = true ∧ (Lit.int .i64 k.j).wf = true ∧ (Lit.int .i64 k.b).wf = true

/-- A crane lies at a place. -/
def CrAt (w : World) (b o : Nat) (k : Cr) (c : Value) : Prop :=
  b < w.heap.size ∧ (w.cell? ⟨b, o, none⟩ = some (.string k.nm) ∧ w.cell? ⟨b, o + 1, none⟩ = some (.int .i64 k.x) ∧ w.cell? ⟨b, o + 2, none⟩ = some (.int .i64 k.y) ∧ w.cell? ⟨b, o + 3, none⟩ = some (.int .i64 k.h) ∧ w.cell? ⟨b, o + 4, none⟩ = some (.int .i64 k.j) ∧ w.cell? ⟨b, o + 5, none⟩ = some (.int .i64 k.b) ∧ w.cell? ⟨b, o + 6, none⟩ = some c) ∧ RdP w c k.ch

theorem CrAt_kept {W w1 : World} {b o : Nat} {k : Cr} {c : Value} (h : CrAt W b o k c) (hb : Below W.heap.size W w1) : CrAt w1 b o k c := by
  obtain ⟨hlt, ⟨h0, h1, h2, h3, h4, h5, h6⟩, hr⟩ := h
  refine ⟨Nat.lt_of_lt_of_le hlt hb.size, ⟨?_, ?_, ?_, ?_, ?_, ?_, ?_⟩, RdP_kept hr hb⟩ <;> (rw [kept_cell hb b _ hlt]; assumption)

/-- Cells that read as a slice of structs of two numbers. -/
theorem open_pairsC {H : Type} {enc : TypeId × Value → H} {P : Program} {W : World} {t e : TypeId} {f0 f1 : Field} {base fuel : Nat} {sp : Nat → Bool} {held : Bool} {cs : List Value} {z : DataW H × List MemPlace}
    (ht : P.underlying t = some (.slice e)) (he : P.underlying e = some (.struct #[f0, f1])) (i0 : P.underlying f0.type = some (.int .i64)) (i1 : P.underlying f1.type = some (.int .i64))
    (ce : P.cellsOf e = 2) (o0 : f0.offset = 0) (o1 : f1.offset = 1) (c0 : P.cellsOf f0.type = 1) (c1 : P.cellsOf f1.type = 1)
    (h : DataW.trod enc P W base sp held fuel t cs = some z) :
    ∃ (v : Value) (zs : List (Int × Int)), cs = [v] ∧ RdP W v zs := by
  rcases Deep.open_slice_pairs ht he ce o0 o1 c0 c1 h with ⟨hcs, hx⟩ | ⟨a, len, cap, m, n, V0, V1, D0, D1, P0, P1, hcs, _, hl, hm, hmm, hx, hi⟩
  · exact ⟨_, [], hcs, ⟨by simp, rfl, none, 0, rfl, fun i hi => by simp at hi⟩⟩
  · have hlm : len ≤ m := by rw [hmm]; split <;> omega
    have each : ∀ i, i < len → ∃ q : Int × Int, V0 i = .int .i64 q.1 ∧ V1 i = .int .i64 q.2 := by
      intro i hlt
      obtain ⟨_, _, g0, g1⟩ := hi i (by omega)
      obtain ⟨x, e0, _, w0⟩ := DataW.trod_int i0 g0
      obtain ⟨y, e1, _, w1⟩ := DataW.trod_int i1 g1
      simp at e0 e1
      exact ⟨(x, y), e0, e1⟩
    obtain ⟨q, hq⟩ := Deep.choose_lt each
    obtain ⟨b, off, spot⟩ := a
    refine ⟨_, (List.range len).map q, hcs, ⟨by simp; unfold maxLen at hm; omega, by rw [flatP_len], some ⟨b, off, spot⟩, cap, by simp, fun j hj => ?_⟩⟩
    simp only [List.length_map, List.length_range] at hj
    obtain ⟨h0, h1, _, _⟩ := hi (j / 2) (by omega)
    have hspot : spot = none := by simpa [Addr.add] using World.cell?_spot (hi 0 (by omega)).1
    subst hspot
    rw [add_plain] at h0 h1
    have hat := flatP_at ((List.range len).map q) (j / 2) (by simp; omega)
    simp only [List.getElem_map, List.getElem_range] at hat
    rw [← (hq (j / 2) (by omega)).1, ← (hq (j / 2) (by omega)).2] at hat
    refine ⟨b, off, rfl, World.block_lt_of_cell? _ _ h0, ?_⟩
    rcases Nat.mod_two_eq_zero_or_one j with hp | hp
    · have e : j / 2 * 2 = j := by omega
      rw [e] at hat h0
      rw [hat.1, ← h0]
    · have e : j / 2 * 2 + 1 = j := by omega
      rw [e] at hat h1
      rw [hat.2, ← h1]

set_option maxRecDepth 100000 in
/-- Cells that read as a crane. -/
theorem open_craneC {H : Type} {enc : TypeId × Value → H} {W : World} {base fuel : Nat} {sp : Nat → Bool} {held : Bool} {cs : List Value} {z : DataW H × List MemPlace}
    (h : DataW.trod enc Try.prog W base sp held fuel 50 cs = some z) : ∃ (k : Cr) (c : Value), cs = encK (k, c) ∧ RdP W c k.ch ∧ wfK k := by
  obtain ⟨xs, n, _, _, hl, hlen, hf⟩ := DataW.trod_struct Try.underlying50 h
  have hl7 : cs.length = 7 := hl.trans (by kernel_rfl)
  have h0 : DataW.trod enc Try.prog W base sp held n 9 ((cs.drop 0).take (Try.prog.cellsOf 9)) = xs[0]? := hf 0 _ rfl
  have h1 : DataW.trod enc Try.prog W base sp held n 24 ((cs.drop 1).take (Try.prog.cellsOf 24)) = xs[1]? := hf 1 _ rfl
  have h2 : DataW.trod enc Try.prog W base sp held n 2 ((cs.drop 3).take (Try.prog.cellsOf 2)) = xs[2]? := hf 2 _ rfl
  have h3 : DataW.trod enc Try.prog W base sp held n 2 ((cs.drop 4).take (Try.prog.cellsOf 2)) = xs[3]? := hf 3 _ rfl
  have h4 : DataW.trod enc Try.prog W base sp held n 2 ((cs.drop 5).take (Try.prog.cellsOf 2)) = xs[4]? := hf 4 _ rfl
  have h5 : DataW.trod enc Try.prog W base sp held n 48 ((cs.drop 6).take (Try.prog.cellsOf 48)) = xs[5]? := hf 5 _ rfl
  have z0 : Try.prog.cellsOf 9 = 1 := by kernel_rfl
  have z1 : Try.prog.cellsOf 24 = 2 := by kernel_rfl
  have z2 : Try.prog.cellsOf 2 = 1 := by kernel_rfl
  have z3 : Try.prog.cellsOf 48 = 1 := by kernel_rfl
  match cs, hl7 with
  | [c0, c1, c2, c3, c4, c5, c6], _ =>
    have i0 : xs[0]? = some (xs[0]'(by rw [hlen]; decide)) := List.getElem?_eq_getElem _
    have i1 : xs[1]? = some (xs[1]'(by rw [hlen]; decide)) := List.getElem?_eq_getElem _
    have i2 : xs[2]? = some (xs[2]'(by rw [hlen]; decide)) := List.getElem?_eq_getElem _
    have i3 : xs[3]? = some (xs[3]'(by rw [hlen]; decide)) := List.getElem?_eq_getElem _
    have i4 : xs[4]? = some (xs[4]'(by rw [hlen]; decide)) := List.getElem?_eq_getElem _
    have i5 : xs[5]? = some (xs[5]'(by rw [hlen]; decide)) := List.getElem?_eq_getElem _
    simp only [i0, i1, i2, i3, i4, i5, z0, z1, z2, z3, List.drop_succ_cons, List.drop_zero, List.take_succ_cons, List.take_zero] at h0 h1 h2 h3 h4 h5
    obtain ⟨s, e0, _, ws⟩ := DataW.trod_string Try.underlying9 h0
    obtain ⟨y0, y1, m, _, _, p0', p1'⟩ := trod_struct2 Try.underlying24 h1
    have p0 : DataW.trod enc Try.prog W base sp held m 2 (([c1, c2].drop 0).take (Try.prog.cellsOf 2)) = some y0 := p0'
    have p1 : DataW.trod enc Try.prog W base sp held m 2 (([c1, c2].drop 1).take (Try.prog.cellsOf 2)) = some y1 := p1'
    simp only [z2, List.drop_succ_cons, List.drop_zero, List.take_succ_cons, List.take_zero] at p0 p1
    obtain ⟨ix, e1, _, w1⟩ := DataW.trod_int Try.underlying2 p0
    obtain ⟨iy, e2, _, w2⟩ := DataW.trod_int Try.underlying2 p1
    obtain ⟨ih, e3, _, w3⟩ := DataW.trod_int Try.underlying2 h2
    obtain ⟨ij, e4, _, w4⟩ := DataW.trod_int Try.underlying2 h3
    obtain ⟨ib, e5, _, w5⟩ := DataW.trod_int Try.underlying2 h4
    obtain ⟨c, zs, e6, hr⟩ := open_pairsC Try.underlying48 Try.underlying117 Try.underlying2 Try.underlying2 (by kernel_rfl) rfl rfl (by kernel_rfl) (by kernel_rfl) h5
    simp only [List.cons.injEq, and_true] at e0 e1 e2 e3 e4 e5 e6
    subst e0 e1 e2 e3 e4 e5 e6
    exact ⟨⟨s, ix, iy, ih, ij, ib, zs⟩, _, rfl, hr, ws, w1, w2, w3, w4, w5⟩

set_option maxRecDepth 100000 in
theorem open_crane {H : Type} {enc : TypeId × Value → H} {W : World} {base : Nat} {v : Value} {d : DataW H} {p : List MemPlace}
    (hv : Value.okWide Try.prog W .any base 50 v) (h : DataW.Trod enc Try.prog W 0 (fun _ => true) true 50 v d p) :
    ∃ (k : Cr) (c : Value), v = .agg #[.string k.nm, .int .i64 k.x, .int .i64 k.y, .int .i64 k.h, .int .i64 k.j, .int .i64 k.b, c] ∧ RdP W c k.ch ∧ wfK k := by
  obtain ⟨cs, rfl, hsz⟩ := okWide_struct Try.underlying50 hv
  obtain ⟨fuel, hf⟩ := h
  obtain ⟨k, c, e, hr, wk⟩ := open_craneC (by simpa [Value.cells] using hf)
  refine ⟨k, c, ?_, hr, wk⟩
  rw [show cs = #[.string k.nm, .int .i64 k.x, .int .i64 k.y, .int .i64 k.h, .int .i64 k.j, .int .i64 k.b, c] from Array.toList_inj.1 (by rw [e]; rfl)]

/-- A datum that is a list of n elements. -/
def DataLen {H : Type} (d : DataW H) (n : Nat) : Prop := (d = .nil ∧ n = 0) ∨ ∃ es rs, d = .slice es rs ∧ es.length = n

/-- What is left of a measure behind a crane; less than 0: too much. -/
def szK (k : Cr) (left : Int) : Int := if (k.nm.size : Int) + (k.ch.length : Int) ≤ left then left - k.nm.size - k.ch.length else -1

theorem szK_any (k : Cr) (c : Value) (left : Int) (h : 0 ≤ left ∧ left ≤ 1000000) (hs : k.nm.size ≤ maxLen) (w : World) (hr : RdP w c k.ch) :
    Calls Try.prog 24 #[.agg #[.string k.nm, .int .i64 k.x, .int .i64 k.y, .int .i64 k.h, .int .i64 k.j, .int .i64 k.b, c], .int .i64 left] w fun e w' => e = .returned (.int .i64 (szK k left)) ∧ Below w.heap.size w w' := by
  obtain ⟨A, cp, rfl, hl, _⟩ := RdP_slice hr
  clear hr
  unfold maxLen at hs
  unfold szK
  obtain ⟨s, x, y, hh, j, b, zs⟩ := k
  dsimp only at *
  by_cases h1 : left < (s.size : Int)
  · rw [if_neg (by omega)]
    go_enter Try.func24, Try.ntmps24
    go_wp2
    go_ret
    exact ⟨rfl, by go_grown⟩
  · by_cases h2 : (s.size : Int) + (zs.length : Int) ≤ left
    · rw [if_pos h2]
      have e : (if (zs.length : Int) ≤ left - s.size then left - s.size - zs.length else -1) = left - s.size - zs.length := if_pos (by omega)
      go_enter Try.func24, Try.ntmps24
      go_wp2_with (go_at_call 59; refine ((szC_any _ _ _ _ (by omega) (by omega) _)).mono ?_; rintro e w1 ⟨rfl, rfl⟩)
      go_ret
      exact ⟨rfl, by go_grown⟩
    · rw [if_neg h2]
      go_enter Try.func24, Try.ntmps24
      go_wp2_with (go_at_call 59; refine ((szC_any _ _ _ _ (by omega) (by omega) _)).mono ?_; rintro e w1 ⟨rfl, rfl⟩)
      go_ret
      exact ⟨rfl, by go_grown⟩

theorem CopyC_set {w : World} {lo hi b o : Nat} {v u : Value} {zs : List (Int × Int)} (h : CopyC w lo hi v zs) (hb : b < lo) : CopyC (w.setCell ⟨b, o, none⟩ u) lo hi v zs := by
  obtain ⟨hl, g, e, hr⟩ := h
  exact ⟨hl, g, e, RowF_far hr (grown_set _ _ _) (fun g hg => by simp at hg; omega)⟩

theorem CopyC_lo {w : World} {lo lo' hi hi' : Nat} {v : Value} {zs : List (Int × Int)} (h : CopyC w lo hi v zs) (hl : lo' ≤ lo) (hh : hi ≤ hi') : CopyC w lo' hi' v zs := by
  obtain ⟨hn, g, e, hr⟩ := h
  exact ⟨hn, g, e, RowF_lo hr hl hh⟩

theorem toK_false (k : Cr) (c : Value) (w : World) (hr : RdP w c k.ch) (hn : k.ch.length ≤ 1000000) :
    Calls Try.prog 26 #[.agg #[.string k.nm, .int .i64 k.x, .int .i64 k.y, .int .i64 k.h, .int .i64 k.j, .int .i64 k.b, c], .bool false] w fun e w' => ∃ c', e = .returned (.agg #[.string k.nm, .int .i64 k.x, .int .i64 k.y, .int .i64 k.h, .int .i64 k.j, .int .i64 k.b, c']) ∧ CopyC w' w.heap.size w'.heap.size c' k.ch ∧ Below w.heap.size w w' := by
  obtain ⟨A0, cp0, rfl, _, _⟩ := RdP_slice hr
  have H := Lib.hid hr; clear hr
  obtain ⟨s, x, y, hh, j, b, zs⟩ := k
  dsimp only at *
  go_enter Try.func26, Try.ntmps26
  go_wp2_with fail
  refine (toPoint_any _ _ _).mono ?_
  rintro e w1 ⟨rfl, b1⟩
  refine kept_at b1 (w.heap.size) (by go_size) fun c1_0 z1_0 s1_0 => ?_
  refine kept_at b1 (w.heap.size + 1) (by go_size) fun c1_1 z1_1 s1_1 => ?_
  refine kept_at b1 (w.heap.size + 2) (by go_size) fun c1_2 z1_2 s1_2 => ?_
  replace b1 := kept_trans (a := w) (by go_grown) b1
  have l1 := kept_cell b1
  have zz1 := b1.size
  go_wp2_with fail
  refine (toC_false _ zs _ (RdP_kept H.out (by go_grown)) hn).mono ?_
  rintro e w2 ⟨c', rfl, hc, hb2⟩
  obtain ⟨A1, cp1, rfl, _, _⟩ := RdP_slice (CopyC_rd hc)
  have HC := Lib.hid hc; clear hc
  refine kept_at hb2 (w.heap.size + 1) (by go_size) fun c2_1 z2_1 s2_1 => ?_
  refine kept_at hb2 (w.heap.size + 2) (by go_size) fun c2_2 z2_2 s2_2 => ?_
  have b2 := kept_trans (a := w) (by go_grown) hb2
  go_wp2
  (try simp only [Exit.inBlock, Exit.then])
  refine bodyPost_ret (v := .agg #[.string s, .int .i64 x, .int .i64 y, .int .i64 hh, .int .i64 j, .int .i64 b, .slice A1 zs.length cp1]) ?_ rfl ⟨_, rfl, ?_, ?_⟩
  · rw [results_cell1 rfl]
    go_simp
  · refine CopyC_lo (lo := w1.heap.size) ?_ (by omega) (show w2.heap.size ≤ _ by simp)
    have := HC.out
    simp only [World.size_setCell] at this
    exact CopyC_set (CopyC_set (CopyC_set (CopyC_set (CopyC_set (CopyC_set (CopyC_set (CopyC_set this (by omega)) (by omega)) (by omega)) (by omega)) (by omega)) (by omega)) (by omega)) (by omega)
  · go_grown

theorem toC_bare (v : Value) (zs : List (Int × Int)) (w : World) (h : RdP w v zs) (hn : zs.length ≤ 1000000) :
    Calls Try.prog 63 #[v, .bool true] w fun e w' => ∃ v', e = .returned v' ∧ RowF 115 2 w' w.heap.size w'.heap.size v' zs.length (flatP zs) ∧ Below w.heap.size w w' := by
  by_cases hz : zs = []
  · subst hz
    obtain ⟨A, c, rfl, hl, _⟩ := RdP_slice h
    clear h
    go_enter Try.func63, Try.ntmps63
    go_wp2
    go_ret
    exact ⟨_, rfl, RowF_nil _ _ _ _ _, Below.refl _ _⟩
  · exact (toC_row v zs true w h hn (Or.inr hz)).mono fun e w' ⟨v', he, hc, hb⟩ => ⟨v', he, CopyC_row hc, hb⟩

theorem toK_true (k : Cr) (c : Value) (w : World) (hr : RdP w c k.ch) (hn : k.ch.length ≤ 1000000) :
    Calls Try.prog 26 #[.agg #[.string k.nm, .int .i64 k.x, .int .i64 k.y, .int .i64 k.h, .int .i64 k.j, .int .i64 k.b, c], .bool true] w fun e w' => ∃ c', e = .returned (.agg #[.string k.nm, .int .i64 k.x, .int .i64 k.y, .int .i64 k.h, .int .i64 k.j, .int .i64 k.b, c']) ∧ RowF 115 2 w' w.heap.size w'.heap.size c' k.ch.length (flatP k.ch) ∧ Below w.heap.size w w' := by
  obtain ⟨A0, cp0, rfl, _, _⟩ := RdP_slice hr
  have H := Lib.hid hr; clear hr
  obtain ⟨s, x, y, hh, j, b, zs⟩ := k
  dsimp only at *
  go_enter Try.func26, Try.ntmps26
  go_wp2_with fail
  refine (toPoint_any _ _ _).mono ?_
  rintro e w1 ⟨rfl, b1⟩
  refine kept_at b1 (w.heap.size) (by go_size) fun c1_0 z1_0 s1_0 => ?_
  refine kept_at b1 (w.heap.size + 1) (by go_size) fun c1_1 z1_1 s1_1 => ?_
  refine kept_at b1 (w.heap.size + 2) (by go_size) fun c1_2 z1_2 s1_2 => ?_
  replace b1 := kept_trans (a := w) (by go_grown) b1
  have l1 := kept_cell b1
  have zz1 := b1.size
  go_wp2_with fail
  refine (toC_bare _ zs _ (RdP_kept H.out (by go_grown)) hn).mono ?_
  rintro e w2 ⟨c', rfl, hc, hb2⟩
  obtain ⟨A1, cp1, rfl, _, _⟩ := RdP_slice (RowF_rd hc)
  have HC := Lib.hid hc; clear hc
  refine kept_at hb2 (w.heap.size + 1) (by go_size) fun c2_1 z2_1 s2_1 => ?_
  refine kept_at hb2 (w.heap.size + 2) (by go_size) fun c2_2 z2_2 s2_2 => ?_
  have b2 := kept_trans (a := w) (by go_grown) hb2
  go_wp2
  (try simp only [Exit.inBlock, Exit.then])
  refine bodyPost_ret (v := .agg #[.string s, .int .i64 x, .int .i64 y, .int .i64 hh, .int .i64 j, .int .i64 b, .slice A1 zs.length cp1]) ?_ rfl ⟨_, rfl, ?_, ?_⟩
  · rw [results_cell1 rfl]
    go_simp
  · refine RowF_lo (lo := w1.heap.size) ?_ (by omega) (show w2.heap.size ≤ _ by simp)
    have := HC.out
    simp only [World.size_setCell] at this
    exact RowF_set (RowF_set (RowF_set (RowF_set (RowF_set (RowF_set (RowF_set (RowF_set this (by omega)) (by omega)) (by omega)) (by omega)) (by omega)) (by omega)) (by omega)) (by omega)
  · go_grown

theorem intactK_same (k : Cr) (c1 c2 : Value) (lo1 hi1 lo2 hi2 : Nat) (w : World) (h1 : CopyC w lo1 hi1 c1 k.ch) (h2 : CopyC w lo2 hi2 c2 k.ch) :
    Calls Try.prog 28 #[.agg #[.string k.nm, .int .i64 k.x, .int .i64 k.y, .int .i64 k.h, .int .i64 k.j, .int .i64 k.b, c1], .agg #[.string k.nm, .int .i64 k.x, .int .i64 k.y, .int .i64 k.h, .int .i64 k.j, .int .i64 k.b, c2]] w fun e w' => e = .returned (.bool true) ∧ Below w.heap.size w w' := by
  obtain ⟨A1, cp1, rfl, _, _⟩ := RdP_slice (CopyC_rd h1)
  obtain ⟨A2, cp2, rfl, _, _⟩ := RdP_slice (CopyC_rd h2)
  have H1 := Lib.hid h1; clear h1
  have H2 := Lib.hid h2; clear h2
  obtain ⟨s, x, y, hh, j, b, zs⟩ := k
  dsimp only at *
  go_enter Try.func28, Try.ntmps28
  go_wp2_with fail
  refine (eqPoint_same _ _ _).mono ?_
  rintro e w1 ⟨rfl, b1⟩
  refine kept_at b1 (w.heap.size) (by go_size) fun c1_0 z1_0 s1_0 => ?_
  refine kept_at b1 (w.heap.size + 1) (by go_size) fun c1_1 z1_1 s1_1 => ?_
  replace b1 := kept_trans (a := w) (by go_grown) b1
  have l1 := kept_cell b1
  have zz1 := b1.size
  go_wp2_with fail
  refine (intactC_same _ _ zs _ _ _ _ _ (CopyC_kept H1.out (by go_grown)) (CopyC_kept H2.out (by go_grown))).mono ?_
  rintro e w2 ⟨rfl, hb2⟩
  have b2 := kept_trans (a := w) (by go_grown) hb2
  go_wp2
  go_ret
  exact ⟨rfl, b2⟩

/-- The crane is valid. -/
noncomputable def craneB (k : Cr) : Bool := nameB k.nm && (okP k.x k.y && (inB k.h 1 2000 && (inB k.j 1 1000 && (inB k.b 0 k.j && (chartB k.ch && decide (lastL k.ch ≤ k.j))))))

theorem specCrane_any (b o : Nat) (k : Cr) (c : Value) (w : World) (h : CrAt w b o k c) (hs : k.nm.size ≤ 1000000) :
    Calls Try.prog 87 #[.pointer (some ⟨b, o, none⟩)] w fun e w' => e = .returned (.bool (craneB k)) ∧ Below w.heap.size w w' := by
  obtain ⟨hb, ⟨c0, c1, c2, c3, c4, c5, c6⟩, hr⟩ := h
  obtain ⟨A, cp, rfl, hl, _⟩ := RdP_slice hr
  have H := Lib.hid hr; clear hr
  have HN := Lib.hid (fun u => specIsName_any k.nm u hs)
  have HC := Lib.hid (fun u (q : RdP u (.slice A k.ch.length cp) k.ch) => specChart_quiet _ _ u q)
  have HL := Lib.hid (fun u (q : RdP u (.slice A k.ch.length cp) k.ch) (n : 1 ≤ k.ch.length) => specLast_any _ _ u q n)
  have hlen : chartB k.ch = true → 1 ≤ k.ch.length := fun h => (chartB_iff.1 h).2.1
  unfold craneB
  obtain ⟨s, x, y, hh, j, bb, zs⟩ := k
  dsimp only at *
  generalize nameB s = p1 at *
  generalize chartB zs = p6 at *
  generalize lastL zs = lst at *
  cases p1
  · go_enter Try.func87, Try.ntmps87
    go_wp2_with (go_at_call 98; refine (HN.out _).mono ?_; rintro e w1 ⟨rfl, rfl⟩)
    go_ret
    exact ⟨rfl, by go_grown⟩
  cases p2 : okP x y
  · go_enter Try.func87, Try.ntmps87
    go_wp2_with (first | (go_at_call 98; refine (HN.out _).mono ?_; rintro e w1 ⟨rfl, rfl⟩) | (go_at_call 99; refine (specOk_any _ _ _).mono ?_; rintro e w1 ⟨rfl, hb⟩; have hs := hb.size; (try simp at hs); (try (refine kept_at hb (w.heap.size) ?_ (fun hc0 hz0 hs0 => ?_); focus go_size)); (try (refine kept_at hb (w.heap.size + 1) ?_ (fun hc1 hz1 hs1 => ?_); focus go_size)); (try (refine kept_at hb (w.heap.size + 2) ?_ (fun hc2 hz2 hs2 => ?_); focus go_size)); (try (refine kept_at hb (w.heap.size + 3) ?_ (fun hc3 hz3 hs3 => ?_); focus go_size)); (try (refine kept_at hb (w.heap.size + 4) ?_ (fun hc4 hz4 hs4 => ?_); focus go_size)); (try (refine kept_at hb (w.heap.size + 5) ?_ (fun hc5 hz5 hs5 => ?_); focus go_size)); replace hb := kept_trans (a := w) (by go_grown) hb; have hcl := kept_cell hb; have hzl := kept_frozen hb))
    go_ret
    exact ⟨rfl, by go_grown⟩
  cases p3 : inB hh 1 2000
  · go_enter Try.func87, Try.ntmps87
    go_wp2_with (first | (go_at_call 98; refine (HN.out _).mono ?_; rintro e w1 ⟨rfl, rfl⟩) | (go_at_call 99; refine (specOk_any _ _ _).mono ?_; rintro e w1 ⟨rfl, hb⟩; have hs := hb.size; (try simp at hs); (try (refine kept_at hb (w.heap.size) ?_ (fun hc0 hz0 hs0 => ?_); focus go_size)); (try (refine kept_at hb (w.heap.size + 1) ?_ (fun hc1 hz1 hs1 => ?_); focus go_size)); (try (refine kept_at hb (w.heap.size + 2) ?_ (fun hc2 hz2 hs2 => ?_); focus go_size)); (try (refine kept_at hb (w.heap.size + 3) ?_ (fun hc3 hz3 hs3 => ?_); focus go_size)); (try (refine kept_at hb (w.heap.size + 4) ?_ (fun hc4 hz4 hs4 => ?_); focus go_size)); (try (refine kept_at hb (w.heap.size + 5) ?_ (fun hc5 hz5 hs5 => ?_); focus go_size)); replace hb := kept_trans (a := w) (by go_grown) hb; have hcl := kept_cell hb; have hzl := kept_frozen hb) | (go_at_call 81; refine (in_any _ _ _ _).mono ?_; rintro e w1 ⟨rfl, rfl⟩))
    go_ret
    exact ⟨rfl, by go_grown⟩
  cases p4 : inB j 1 1000
  · go_enter Try.func87, Try.ntmps87
    go_wp2_with (first | (go_at_call 98; refine (HN.out _).mono ?_; rintro e w1 ⟨rfl, rfl⟩) | (go_at_call 99; refine (specOk_any _ _ _).mono ?_; rintro e w1 ⟨rfl, hb⟩; have hs := hb.size; (try simp at hs); (try (refine kept_at hb (w.heap.size) ?_ (fun hc0 hz0 hs0 => ?_); focus go_size)); (try (refine kept_at hb (w.heap.size + 1) ?_ (fun hc1 hz1 hs1 => ?_); focus go_size)); (try (refine kept_at hb (w.heap.size + 2) ?_ (fun hc2 hz2 hs2 => ?_); focus go_size)); (try (refine kept_at hb (w.heap.size + 3) ?_ (fun hc3 hz3 hs3 => ?_); focus go_size)); (try (refine kept_at hb (w.heap.size + 4) ?_ (fun hc4 hz4 hs4 => ?_); focus go_size)); (try (refine kept_at hb (w.heap.size + 5) ?_ (fun hc5 hz5 hs5 => ?_); focus go_size)); replace hb := kept_trans (a := w) (by go_grown) hb; have hcl := kept_cell hb; have hzl := kept_frozen hb) | (go_at_call 81; refine (in_any _ _ _ _).mono ?_; rintro e w1 ⟨rfl, rfl⟩))
    go_ret
    exact ⟨rfl, by go_grown⟩
  have HK : ∀ u, Below w.heap.size w u → u.cell? ⟨b, o + 4, none⟩ = some (.int .i64 j) ∧ u.cell? ⟨b, o + 5, none⟩ = some (.int .i64 bb) ∧ u.cell? ⟨b, o + 6, none⟩ = some (.slice A zs.length cp) ∧ u.cell? ⟨b, o + 3, none⟩ = some (.int .i64 hh) ∧ RdP u (.slice A zs.length cp) zs :=
    fun u q => ⟨by rw [kept_cell q b _ hb]; exact c4, by rw [kept_cell q b _ hb]; exact c5, by rw [kept_cell q b _ hb]; exact c6, by rw [kept_cell q b _ hb]; exact c3, RdP_kept H.out q⟩
  have HK := Lib.hid HK
  go_enter Try.func87, Try.ntmps87
  go_wp2_with (go_at_call 98; refine (HN.out _).mono ?_; rintro e w1 ⟨rfl, rfl⟩)
  refine (specOk_any _ _ _).mono ?_
  rw [p2]
  rintro e w1 ⟨rfl, b1⟩
  obtain ⟨d4, d5, d6, d3, dr⟩ := HK.out w1 b1
  go_wp2_with (go_at_call 81; refine (in_any _ _ _ _).mono ?_; rintro e w1 ⟨rfl, rfl⟩)
  have HI := fun u => in_any bb 0 j u
  have HB := Lib.hid b1
  cases p5 : inB bb 0 j <;> rw [p5] at HI <;> have HI := Lib.hid HI
  · go_quiet (first | (go_at_call 81; exact Calls.quiet_of_same ((HI.out _).mono fun e w' h => ⟨h.1, h.2.symm⟩)) | (go_at_call 106; exact Calls.quiet_of (HC.out _ (RdP_kept dr (kept_drewN (Below.refl _ _) _)))) | (go_at_call 107; exact Calls.quiet_of_same ((HL.out _ (RdP_kept dr (kept_drewN (Below.refl _ _) _)) hlen).mono fun e w' h => ⟨h.1, h.2.symm⟩)))
    go_wp2
    go_ret
    exact ⟨by simp [p5], kept_drewN HB.out _⟩
  cases p6
  · go_quiet (first | (go_at_call 81; exact Calls.quiet_of_same ((HI.out _).mono fun e w' h => ⟨h.1, h.2.symm⟩)) | (go_at_call 106; exact Calls.quiet_of (HC.out _ (RdP_kept dr (kept_drewN (Below.refl _ _) _)))) | (go_at_call 107; exact Calls.quiet_of_same ((HL.out _ (RdP_kept dr (kept_drewN (Below.refl _ _) _)) hlen).mono fun e w' h => ⟨h.1, h.2.symm⟩)))
    go_wp2
    go_ret
    exact ⟨by simp [p5], kept_drewN HB.out _⟩
  have hlen := hlen rfl
  by_cases p7 : lst ≤ j
  · go_quiet (first | (go_at_call 81; exact Calls.quiet_of_same ((HI.out _).mono fun e w' h => ⟨h.1, h.2.symm⟩)) | (go_at_call 106; exact Calls.quiet_of (HC.out _ (RdP_kept dr (kept_drewN (Below.refl _ _) _)))) | (go_at_call 107; exact Calls.quiet_of_same ((HL.out _ (RdP_kept dr (kept_drewN (Below.refl _ _) _)) hlen).mono fun e w' h => ⟨h.1, h.2.symm⟩)))
    go_wp2
    go_ret
    exact ⟨by simp [p5, p7], kept_drewN HB.out _⟩
  · have p8 : decide (lst ≤ j) = false := by simp [p7]
    go_quiet (first | (go_at_call 81; exact Calls.quiet_of_same ((HI.out _).mono fun e w' h => ⟨h.1, h.2.symm⟩)) | (go_at_call 106; exact Calls.quiet_of (HC.out _ (RdP_kept dr (kept_drewN (Below.refl _ _) _)))) | (go_at_call 107; exact Calls.quiet_of_same ((HL.out _ (RdP_kept dr (kept_drewN (Below.refl _ _) _)) hlen).mono fun e w' h => ⟨h.1, h.2.symm⟩)))
    go_wp2
    go_ret
    exact ⟨by simp [p5, p7], kept_drewN HB.out _⟩

set_option maxHeartbeats 4000000 in
theorem implCrane_in (s : ByteArray) (x y hh j bb : Int) (A : Option Addr) (zs : List (Int × Int)) (cp : Nat) (lst : Int) (w : World) (g1 : 1 ≤ hh ∧ hh ≤ 2000) (g2 : 1 ≤ j ∧ j ≤ 1000) (g3 : 0 ≤ bb ∧ bb ≤ j) (hlen : 1 ≤ zs.length)
    (H : Hid (RdP w (.slice A zs.length cp) zs))
    (HN : Hid (∀ u, Calls Try.prog 73 #[.string s] u fun e w' => e = .returned (.bool true) ∧ Below u.heap.size u w'))
    (HP : Hid (∀ u, Calls Try.prog 75 #[.agg #[.int .i64 x, .int .i64 y]] u fun e w' => e = .returned (.bool true) ∧ Below u.heap.size u w'))
    (HC : Hid (∀ u, RdP u (.slice A zs.length cp) zs → Calls Try.prog 91 #[.slice A zs.length cp] u fun e w' => e = .returned (.bool true) ∧ Below u.heap.size u w'))
    (HL : Hid (∀ u, RdP u (.slice A zs.length cp) zs → 1 ≤ zs.length → Calls Try.prog 92 #[.slice A zs.length cp] u fun e w' => e = .returned (.int .i64 lst) ∧ u = w')) :
    Calls Try.prog 64 #[.agg #[.string s, .int .i64 x, .int .i64 y, .int .i64 hh, .int .i64 j, .int .i64 bb, .slice A zs.length cp]] w fun e w' => e = .returned (.bool (decide (lst ≤ j))) ∧ Below w.heap.size w w' := by
  go_enter Try.func64, Try.ntmps64
  go_wp2_with fail
  refine (HN.out _).mono ?_
  rintro e w1 ⟨rfl, b1⟩
  refine kept_at b1 (w.heap.size) (by go_size) fun c1_0 z1_0 s1_0 => ?_
  replace b1 := kept_trans (a := w) (by go_grown) b1
  have l1 := kept_cell b1
  have zz1 := b1.size
  go_wp2_with fail
  refine (HP.out _).mono ?_
  rintro e w2 ⟨rfl, b2⟩
  refine kept_at b2 (w.heap.size) (by go_size) fun c2_0 z2_0 s2_0 => ?_
  replace b2 := kept_trans (a := w) (by go_grown) b2
  have l2 := kept_cell b2
  have zz2 := b2.size
  go_wp2_with fail
  first
    | go_region_with (first | (go_at_call 91; (refine (HC.out _ (RdP_kept H.out (by go_grown))).mono ?_; rintro e w3 ⟨rfl, b3⟩; refine kept_at b3 w.heap.size (by go_size) fun c3_0 z3_0 s3_0 => ?_; have b4 := kept_trans (a := w) (by go_grown) b3)) | (go_at_call 92; (refine (HL.out _ (RdP_kept H.out (by go_grown)) hlen).mono ?_; rintro e w5 ⟨rfl, rfl⟩)))
    | fail
  all_goals
    go_wp2
    go_ret
    exact ⟨rfl, by go_grown⟩

set_option maxHeartbeats 4000000 in
theorem implCrane_any (k : Cr) (c : Value) (w : World) (hr : RdP w c k.ch) (hs : k.nm.size ≤ 1000000) :
    Calls Try.prog 64 #[.agg #[.string k.nm, .int .i64 k.x, .int .i64 k.y, .int .i64 k.h, .int .i64 k.j, .int .i64 k.b, c]] w fun e w' => e = .returned (.bool (craneB k)) ∧ Below w.heap.size w w' := by
  obtain ⟨A, cp, rfl, hl, _⟩ := RdP_slice hr
  have H := Lib.hid hr; clear hr
  have HN := Lib.hid (fun u => implIsName_any k.nm u hs)
  have HC := Lib.hid (fun u (q : RdP u (.slice A k.ch.length cp) k.ch) => implChart_any _ _ u q)
  have HL := Lib.hid (fun u (q : RdP u (.slice A k.ch.length cp) k.ch) (n : 1 ≤ k.ch.length) => last_any _ _ u q n)
  have hlen : chartB k.ch = true → 1 ≤ k.ch.length := fun h => (chartB_iff.1 h).2.1
  unfold craneB
  obtain ⟨s, x, y, hh, j, bb, zs⟩ := k
  dsimp only at *
  generalize nameB s = p1 at *
  generalize chartB zs = p6 at *
  generalize lastL zs = lst at *
  cases p1
  · go_enter Try.func64, Try.ntmps64
    go_wp2_with fail
    refine (HN.out _).mono ?_
    rintro e w1 ⟨rfl, b1⟩
    refine kept_at b1 (w.heap.size) (by go_size) fun c1_0 z1_0 s1_0 => ?_
    replace b1 := kept_trans (a := w) (by go_grown) b1
    have l1 := kept_cell b1
    have zz1 := b1.size
    go_wp2
    go_ret
    exact ⟨rfl, b1⟩
  have HP := fun u => validPlace_any x y u
  cases p2 : okP x y <;> rw [p2] at HP <;> have HP := Lib.hid HP
  · go_enter Try.func64, Try.ntmps64
    go_wp2_with fail
    refine (HN.out _).mono ?_
    rintro e w1 ⟨rfl, b1⟩
    refine kept_at b1 (w.heap.size) (by go_size) fun c1_0 z1_0 s1_0 => ?_
    replace b1 := kept_trans (a := w) (by go_grown) b1
    have l1 := kept_cell b1
    have zz1 := b1.size
    go_wp2_with fail
    refine (HP.out _).mono ?_
    rintro e w2 ⟨rfl, b2⟩
    refine kept_at b2 (w.heap.size) (by go_size) fun c2_0 z2_0 s2_0 => ?_
    replace b2 := kept_trans (a := w) (by go_grown) b2
    have l2 := kept_cell b2
    have zz2 := b2.size
    go_wp2
    go_ret
    exact ⟨rfl, b2⟩
  rcases (show (¬ 1 ≤ hh) ∨ (1 ≤ hh ∧ ¬ hh ≤ 2000) ∨ (1 ≤ hh ∧ hh ≤ 2000 ∧ ¬ 1 ≤ j) ∨ (1 ≤ hh ∧ hh ≤ 2000 ∧ 1 ≤ j ∧ ¬ j ≤ 1000) ∨ (1 ≤ hh ∧ hh ≤ 2000 ∧ 1 ≤ j ∧ j ≤ 1000 ∧ ¬ 0 ≤ bb) ∨ (1 ≤ hh ∧ hh ≤ 2000 ∧ 1 ≤ j ∧ j ≤ 1000 ∧ 0 ≤ bb ∧ ¬ bb ≤ j) ∨ (1 ≤ hh ∧ hh ≤ 2000 ∧ 1 ≤ j ∧ j ≤ 1000 ∧ 0 ≤ bb ∧ bb ≤ j) from by omega) with g | g | g | g | g | g | g
  case inr.inr.inr.inr.inr.inr =>
    obtain ⟨g1, g2, g3, g4, g5, g6⟩ := g
    have E : (true && (true && (inB hh 1 2000 && (inB j 1 1000 && (inB bb 0 j && (p6 && decide (lst ≤ j))))))) = (p6 && decide (lst ≤ j)) := by simp [inB, g1, g2, g3, g4, g5, g6]
    rw [E]
    clear E
    cases p6
    · go_enter Try.func64, Try.ntmps64
      go_wp2_with fail
      refine (HN.out _).mono ?_
      rintro e w1 ⟨rfl, b1⟩
      refine kept_at b1 (w.heap.size) (by go_size) fun c1_0 z1_0 s1_0 => ?_
      replace b1 := kept_trans (a := w) (by go_grown) b1
      have l1 := kept_cell b1
      have zz1 := b1.size
      go_wp2_with fail
      refine (HP.out _).mono ?_
      rintro e w2 ⟨rfl, b2⟩
      refine kept_at b2 (w.heap.size) (by go_size) fun c2_0 z2_0 s2_0 => ?_
      replace b2 := kept_trans (a := w) (by go_grown) b2
      have l2 := kept_cell b2
      have zz2 := b2.size
      go_wp2_with fail
      first
        | go_region_with ((go_at_call 91; refine (HC.out _ (RdP_kept H.out (by go_grown))).mono ?_; rintro e w3 ⟨rfl, b3⟩))
        | fail
      all_goals
        go_wp2
        go_ret
        exact ⟨rfl, kept_trans (a := w) (by go_grown) b3⟩
    · rw [Bool.true_and]
      exact implCrane_in s x y hh j bb A zs cp lst w ⟨g1, g2⟩ ⟨g3, g4⟩ ⟨g5, g6⟩ (hlen rfl) H HN HP HC HL
  all_goals
    have E : (true && (true && (inB hh 1 2000 && (inB j 1 1000 && (inB bb 0 j && (p6 && decide (lst ≤ j))))))) = false := by simp [inB, g]
    rw [E]
    clear E
    go_enter Try.func64, Try.ntmps64
    go_wp2_with fail
    refine (HN.out _).mono ?_
    rintro e w1 ⟨rfl, b1⟩
    refine kept_at b1 (w.heap.size) (by go_size) fun c1_0 z1_0 s1_0 => ?_
    replace b1 := kept_trans (a := w) (by go_grown) b1
    have l1 := kept_cell b1
    have zz1 := b1.size
    go_wp2_with fail
    refine (HP.out _).mono ?_
    rintro e w2 ⟨rfl, b2⟩
    refine kept_at b2 (w.heap.size) (by go_size) fun c2_0 z2_0 s2_0 => ?_
    replace b2 := kept_trans (a := w) (by go_grown) b2
    have l2 := kept_cell b2
    have zz2 := b2.size
    go_wp2
    go_ret
    exact ⟨rfl, b2⟩

theorem szK_fit (k : Cr) (c : Value) (w : World) (hk : k.nm.size ≤ maxLen) (hr : RdP w c k.ch) (h : (k.nm.size : Int) + (k.ch.length : Int) ≤ 1000000) :
    Calls Try.prog 24 #[.agg #[.string k.nm, .int .i64 k.x, .int .i64 k.y, .int .i64 k.h, .int .i64 k.j, .int .i64 k.b, c], .int .i64 1000000] w fun e w' => e = .returned (.int .i64 (1000000 - k.nm.size - k.ch.length)) ∧ Below w.heap.size w w' := by
  have := szK_any k c 1000000 (by omega) hk w hr
  rwa [szK, if_pos h] at this

theorem szK_over (k : Cr) (c : Value) (w : World) (hk : k.nm.size ≤ maxLen) (hr : RdP w c k.ch) (h : ¬ (k.nm.size : Int) + (k.ch.length : Int) ≤ 1000000) :
    Calls Try.prog 24 #[.agg #[.string k.nm, .int .i64 k.x, .int .i64 k.y, .int .i64 k.h, .int .i64 k.j, .int .i64 k.b, c], .int .i64 1000000] w fun e w' => e = .returned (.int .i64 (-1)) ∧ Below w.heap.size w w' := by
  have := szK_any k c 1000000 (by omega) hk w hr
  rwa [szK, if_neg h] at this

theorem craneB_true {k : Cr} (h : craneB k = true) : okP k.x k.y = true ∧ (1 ≤ k.h ∧ k.h ≤ 2000) ∧ (1 ≤ k.j ∧ k.j ≤ 1000) ∧ (0 ≤ k.b ∧ k.b ≤ k.j) ∧ ChartP k.ch ∧ lastL k.ch ≤ k.j ∧ nameB k.nm = true := by
  simp only [craneB, Bool.and_eq_true, decide_eq_true_eq] at h
  obtain ⟨h1, h2, h3, h4, h5, h6, h7⟩ := h
  exact ⟨h2, inB_true h3, inB_true h4, inB_true h5, chartB_iff.1 h6, h7, h1⟩

/-- The distance of a crane from a place, rounded up. -/
noncomputable def distL (k : Cr) (u v : Int) : Int := rootL ((u - k.x) * (u - k.x) + (v - k.y) * (v - k.y))

noncomputable def reachB (k : Cr) (u v : Int) : Bool := decide (distL k u v ≤ lastL k.ch)

set_option maxHeartbeats 4000000 in
theorem specKLoad_any (b o : Nat) (k : Cr) (c : Value) (u v : Int) (w : World) (h : CrAt w b o k c) (hc : craneB k = true) (hp : okP u v = true) :
    Calls Try.prog 96 #[.pointer (some ⟨b, o, none⟩), .agg #[.int .i64 u, .int .i64 v]] w fun e w' => e = .returned (.int .i64 (if reachB k u v then loadL k.ch (distL k u v) else -1)) ∧ Below w.heap.size w w' := by
  have hk := craneB_true hc
  have g1 := okP_true hk.1
  have g2 := okP_true hp
  have E := sq_wrap (k.x - u) (k.y - v) (by omega) (by omega)
  have p := sq_bd (k.x - u) 20000 (by omega) (by omega)
  have q := sq_bd (k.y - v) 20000 (by omega) (by omega)
  have hQ := fun W => l02Square_any k.x k.y u v (by omega) (by omega) (by omega) (by omega) W
  have hD : distL k u v = rootL (wrap64 (wrap64 ((k.x - u) * (k.x - u)) + wrap64 ((k.y - v) * (k.y - v)))) := by rw [E, sq_sym k.x u, sq_sym k.y v]; rfl
  have hR := fun W => l02Root_any (wrap64 (wrap64 ((k.x - u) * (k.x - u)) + wrap64 ((k.y - v) * (k.y - v)))) W (by rw [E]; omega) (by rw [E]; omega)
  rw [← hD] at hR
  clear hD E p q
  generalize wrap64 (wrap64 ((k.x - u) * (k.x - u)) + wrap64 ((k.y - v) * (k.y - v))) = N at *
  have hl := find_last hk.2.2.2.2.1 (distL k u v)
  have hL := fun u' (q : RdP u' c k.ch) => specLoad_any c k.ch (distL k u v) u' q hk.2.2.2.2.1
  have hlast : lastL k.ch ≤ 1000 := by have := hk.2.2.2.2.2.1; have := hk.2.2.1; omega
  have hE : (if findL k.ch (distL k u v) < k.ch.length then loadL k.ch (distL k u v) else -1) = (if reachB k u v then loadL k.ch (distL k u v) else -1) := by
    unfold reachB
    by_cases h1 : distL k u v ≤ lastL k.ch
    · rw [if_pos (hl.2 h1), if_pos (by simp [h1])]
    · rw [if_neg (fun h => h1 (hl.1 h)), if_neg (by simp [h1])]
  simp only [hE] at hL
  have hbig : 1000 < distL k u v → (if reachB k u v then loadL k.ch (distL k u v) else -1) = -1 := by
    intro h1
    rw [if_neg]
    unfold reachB
    simp
    omega
  clear hE hl hlast
  generalize (if reachB k u v then loadL k.ch (distL k u v) else -1) = R at *
  generalize distL k u v = D at *
  obtain ⟨hb, ⟨c0, c1, c2, c3, c4, c5, c6⟩, hr⟩ := h
  obtain ⟨A, cp, rfl, _, _⟩ := RdP_slice hr
  have H := Lib.hid hr; clear hr
  clear hk hc hp c0 c3 c4 c5
  obtain ⟨s, x, y, hh, j, bb, zs⟩ := k
  dsimp only at *
  have HK : ∀ u, Below w.heap.size w u → u.cell? ⟨b, o + 6, none⟩ = some (.slice A zs.length cp) ∧ RdP u (.slice A zs.length cp) zs :=
    fun u q => ⟨by rw [kept_cell q b _ hb]; exact c6, RdP_kept H.out q⟩
  have HK := Lib.hid HK
  have HQ := Lib.hid hQ; clear hQ
  have HR := Lib.hid hR; clear hR
  have HL := Lib.hid hL; clear hL
  by_cases hD : 1000 < D
  · have hb2 := hbig hD
    subst hb2
    go_enter Try.func96, Try.ntmps96
    go_wp2_with fail
    go_region_held3 (fun w' => w'.cell? ⟨b, o + 1, none⟩ = some (.int .i64 x) ∧ w'.cell? ⟨b, o + 2, none⟩ = some (.int .i64 y) ∧ w'.cell? ⟨w.heap.size, 0, none⟩ = some (.int .i64 u) ∧ w'.cell? ⟨w.heap.size, 1, none⟩ = some (.int .i64 v) ∧ Below w.heap.size w w') (refine ⟨?_, ?_, ?_, ?_, ?_⟩ <;> first | (go_grown; done) | (go_keep; done))
      (first | (go_at_call 61; refine (HR.out _).mono ?_; rintro e w1 ⟨rfl, rfl⟩) | (go_at_call 62; refine (HQ.out _).mono ?_; rintro e w1 ⟨rfl, hb⟩; have hs := hb.size; (try simp at hs); (try (refine kept_at hb (w.heap.size) ?_ (fun hc0 hz0 hs0 => ?_); focus go_size)); (try (refine kept_at hb (w.heap.size + 1) ?_ (fun hc1 hz1 hs1 => ?_); focus go_size)); (try (refine kept_at hb (w.heap.size + 2) ?_ (fun hc2 hz2 hs2 => ?_); focus go_size)); (try (refine kept_at hb (w.heap.size + 3) ?_ (fun hc3 hz3 hs3 => ?_); focus go_size)); (try (refine kept_at hb (w.heap.size + 4) ?_ (fun hc4 hz4 hs4 => ?_); focus go_size)); (try (refine kept_at hb (w.heap.size + 5) ?_ (fun hc5 hz5 hs5 => ?_); focus go_size)); replace hb := kept_trans (a := w) (by go_grown) hb; have hcl := kept_cell hb; have hzl := kept_frozen hb))
    go_wp2
    go_ret
    exact ⟨rfl, hb⟩
  · clear hbig
    go_enter Try.func96, Try.ntmps96
    go_wp2_with fail
    go_region_held3 (fun w' => w'.cell? ⟨b, o + 1, none⟩ = some (.int .i64 x) ∧ w'.cell? ⟨b, o + 2, none⟩ = some (.int .i64 y) ∧ w'.cell? ⟨w.heap.size, 0, none⟩ = some (.int .i64 u) ∧ w'.cell? ⟨w.heap.size, 1, none⟩ = some (.int .i64 v) ∧ Below w.heap.size w w') (refine ⟨?_, ?_, ?_, ?_, ?_⟩ <;> first | (go_grown; done) | (go_keep; done))
      (first | (go_at_call 61; refine (HR.out _).mono ?_; rintro e w1 ⟨rfl, rfl⟩) | (go_at_call 62; refine (HQ.out _).mono ?_; rintro e w1 ⟨rfl, hb⟩; have hs := hb.size; (try simp at hs); (try (refine kept_at hb (w.heap.size) ?_ (fun hc0 hz0 hs0 => ?_); focus go_size)); (try (refine kept_at hb (w.heap.size + 1) ?_ (fun hc1 hz1 hs1 => ?_); focus go_size)); (try (refine kept_at hb (w.heap.size + 2) ?_ (fun hc2 hz2 hs2 => ?_); focus go_size)); (try (refine kept_at hb (w.heap.size + 3) ?_ (fun hc3 hz3 hs3 => ?_); focus go_size)); (try (refine kept_at hb (w.heap.size + 4) ?_ (fun hc4 hz4 hs4 => ?_); focus go_size)); (try (refine kept_at hb (w.heap.size + 5) ?_ (fun hc5 hz5 hs5 => ?_); focus go_size)); replace hb := kept_trans (a := w) (by go_grown) hb; have hcl := kept_cell hb; have hzl := kept_frozen hb))
    obtain ⟨d6, dr⟩ := HK.out _ hb
    go_wp2_with fail
    refine (HL.out _ dr).mono ?_
    rintro e w5 ⟨rfl, hb5⟩
    go_wp2
    go_ret
    exact ⟨rfl, kept_trans hb hb5⟩

noncomputable def loadPlaceL (k : Cr) (u v : Int) : Int × Int := if craneB k && okP u v then (if reachB k u v then (loadL k.ch (distL k u v), 0) else (0, 3)) else (0, 1)

set_option maxHeartbeats 4000000 in
theorem implRadTo_any (b o : Nat) (k : Cr) (c : Value) (u v : Int) (w : World) (h : CrAt w b o k c) (hc : craneB k = true) (hp : okP u v = true) :
    Calls Try.prog 123 #[.pointer (some ⟨b, o, none⟩), .agg #[.int .i64 u, .int .i64 v]] w fun e w' => e = .returned (.tuple #[.int .i64 (if reachB k u v then distL k u v else 0), .bool (reachB k u v)]) ∧ Below w.heap.size w w' := by
  have hk := craneB_true hc
  have hR := fun W => implRadius_any k.x k.y u v W
  have hD : radL k.x k.y u v = (distL k u v, 0) := by simp [radL, hk.1, hp, distL]
  simp only [hD] at hR
  have hL := fun u' (q : RdP u' c k.ch) => last_any c k.ch u' q hk.2.2.2.2.1.2.1
  unfold reachB
  clear hD
  generalize distL k u v = D at *
  generalize lastL k.ch = L at *
  obtain ⟨hb, ⟨c0, c1, c2, c3, c4, c5, c6⟩, hr⟩ := h
  obtain ⟨A, cp, rfl, _, _⟩ := RdP_slice hr
  have H := Lib.hid hr; clear hr
  clear hk hc hp c0 c3 c4 c5
  obtain ⟨s, x, y, hh, j, bb, zs⟩ := k
  dsimp only at *
  have HK : ∀ u, Below w.heap.size w u → u.cell? ⟨b, o + 6, none⟩ = some (.slice A zs.length cp) ∧ RdP u (.slice A zs.length cp) zs :=
    fun u q => ⟨by rw [kept_cell q b _ hb]; exact c6, RdP_kept H.out q⟩
  have HK := Lib.hid HK
  have HR := Lib.hid hR; clear hR
  have HL := Lib.hid hL; clear hL
  by_cases hD : D ≤ L
  · have hd2 : decide (L < D) = false := by simp; omega
    have hd3 : decide (D ≤ L) = true := by simp; omega
    go_enter Try.func123, Try.ntmps123
    go_wp2_with fail
    go_region_held3 (fun w' => w'.cell? ⟨b, o + 1, none⟩ = some (.int .i64 x) ∧ w'.cell? ⟨b, o + 2, none⟩ = some (.int .i64 y) ∧ w'.cell? ⟨w.heap.size, 0, none⟩ = some (.int .i64 u) ∧ w'.cell? ⟨w.heap.size, 1, none⟩ = some (.int .i64 v) ∧ Below w.heap.size w w') (refine ⟨?_, ?_, ?_, ?_, ?_⟩ <;> first | (go_grown; done) | (go_keep; done))
      ((go_at_call 93; refine (HR.out _).mono ?_; rintro e w1 ⟨rfl, hb⟩; have hs := hb.size; (try simp at hs); (try (refine kept_at hb (w.heap.size) ?_ (fun hc0 hz0 hs0 => ?_); focus go_size)); (try (refine kept_at hb (w.heap.size + 1) ?_ (fun hc1 hz1 hs1 => ?_); focus go_size)); (try (refine kept_at hb (w.heap.size + 2) ?_ (fun hc2 hz2 hs2 => ?_); focus go_size)); (try (refine kept_at hb (w.heap.size + 3) ?_ (fun hc3 hz3 hs3 => ?_); focus go_size)); (try (refine kept_at hb (w.heap.size + 4) ?_ (fun hc4 hz4 hs4 => ?_); focus go_size)); (try (refine kept_at hb (w.heap.size + 5) ?_ (fun hc5 hz5 hs5 => ?_); focus go_size)); replace hb := kept_trans (a := w) (by go_grown) hb; have hcl := kept_cell hb; have hzl := kept_frozen hb))
    obtain ⟨d6, dr⟩ := HK.out _ hb
    go_wp2_with (go_at_call 92; refine (HL.out _ dr).mono ?_; rintro e w1 ⟨rfl, rfl⟩)
    go_ret2
    exact ⟨by simp [hD], hb⟩
  · have hd2 : L < D := by omega
    have hd3 : decide (D ≤ L) = false := by simp; omega
    go_enter Try.func123, Try.ntmps123
    go_wp2_with fail
    go_region_held3 (fun w' => w'.cell? ⟨b, o + 1, none⟩ = some (.int .i64 x) ∧ w'.cell? ⟨b, o + 2, none⟩ = some (.int .i64 y) ∧ w'.cell? ⟨w.heap.size, 0, none⟩ = some (.int .i64 u) ∧ w'.cell? ⟨w.heap.size, 1, none⟩ = some (.int .i64 v) ∧ Below w.heap.size w w') (refine ⟨?_, ?_, ?_, ?_, ?_⟩ <;> first | (go_grown; done) | (go_keep; done))
      ((go_at_call 93; refine (HR.out _).mono ?_; rintro e w1 ⟨rfl, hb⟩; have hs := hb.size; (try simp at hs); (try (refine kept_at hb (w.heap.size) ?_ (fun hc0 hz0 hs0 => ?_); focus go_size)); (try (refine kept_at hb (w.heap.size + 1) ?_ (fun hc1 hz1 hs1 => ?_); focus go_size)); (try (refine kept_at hb (w.heap.size + 2) ?_ (fun hc2 hz2 hs2 => ?_); focus go_size)); (try (refine kept_at hb (w.heap.size + 3) ?_ (fun hc3 hz3 hs3 => ?_); focus go_size)); (try (refine kept_at hb (w.heap.size + 4) ?_ (fun hc4 hz4 hs4 => ?_); focus go_size)); (try (refine kept_at hb (w.heap.size + 5) ?_ (fun hc5 hz5 hs5 => ?_); focus go_size)); replace hb := kept_trans (a := w) (by go_grown) hb; have hcl := kept_cell hb; have hzl := kept_frozen hb))
    obtain ⟨d6, dr⟩ := HK.out _ hb
    go_wp2_with (go_at_call 92; refine (HL.out _ dr).mono ?_; rintro e w1 ⟨rfl, rfl⟩)
    all_goals first
      | (exfalso; apply hD; apply of_decide_eq_true; assumption)
      | (go_ret2; exact ⟨by simp [hD], hb⟩)

set_option maxHeartbeats 4000000 in
theorem implLoadPlace_any (k : Cr) (c : Value) (u v : Int) (w : World) (hr : RdP w c k.ch) (hs : k.nm.size ≤ 1000000) :
    Calls Try.prog 113 #[.agg #[.string k.nm, .int .i64 k.x, .int .i64 k.y, .int .i64 k.h, .int .i64 k.j, .int .i64 k.b, c], .agg #[.int .i64 u, .int .i64 v]] w fun e w' => e = .returned (.tuple #[.int .i64 (loadPlaceL k u v).1, .int .i64 (loadPlaceL k u v).2]) ∧ Below w.heap.size w w' := by
  obtain ⟨A, cp, rfl, _, _⟩ := RdP_slice hr
  have H := Lib.hid hr; clear hr
  have hA : CrAt (w.alloc (.cells #[.string k.nm, .int .i64 k.x, .int .i64 k.y, .int .i64 k.h, .int .i64 k.j, .int .i64 k.b, .slice A k.ch.length cp] 56)) w.heap.size 0 k (.slice A k.ch.length cp) :=
    ⟨by simp, by simp, RdP_kept H.out (by go_grown)⟩
  have HA := Lib.hid hA; clear hA
  have HC := Lib.hid (fun u (q : RdP u (.slice A k.ch.length cp) k.ch) => implCrane_any k _ u q hs)
  have HP := fun u' => validPlace_any u v u'
  cases h1 : craneB k <;> rw [h1] at HC
  · rw [show loadPlaceL k u v = (0, 1) by simp [loadPlaceL, h1]]
    go_enter Try.func113, Try.ntmps113
    go_wp2_with fail
    refine (HC.out _ (RdP_kept H.out (by go_grown))).mono ?_
    rintro e w1 ⟨rfl, hb1⟩
    have b1 := kept_trans (a := w) (by go_grown) hb1
    go_wp2
    go_ret2
    exact ⟨rfl, b1⟩
  cases h2 : okP u v <;> rw [h2] at HP <;> have HP := Lib.hid HP
  · rw [show loadPlaceL k u v = (0, 1) by simp [loadPlaceL, h1, h2]]
    go_enter Try.func113, Try.ntmps113
    go_wp2_with fail
    refine (HC.out _ (RdP_kept H.out (by go_grown))).mono ?_
    rintro e w1 ⟨rfl, hb1⟩
    refine kept_at hb1 (w.heap.size + 1) (by go_size) fun c1_1 z1_1 s1_1 => ?_
    have b1 := kept_trans (a := w) (by go_grown) hb1
    go_wp2_with fail
    refine (HP.out _).mono ?_
    rintro e w2 ⟨rfl, b2⟩
    replace b2 := kept_trans (a := w) (by go_grown) b2
    have l2 := kept_cell b2
    have zz2 := b2.size
    go_wp2
    go_ret2
    exact ⟨rfl, b2⟩
  have HL := fun b o u' (q : CrAt u' b o k (.slice A k.ch.length cp)) => implRadTo_any b o k _ u v u' q h1 h2
  have hE : loadPlaceL k u v = if reachB k u v then (loadL k.ch (distL k u v), 0) else (0, 3) := by simp [loadPlaceL, h1, h2]
  rw [hE]
  clear hE
  cases h3 : reachB k u v <;> simp only [h3, if_true, if_false, Bool.false_eq_true] at HL ⊢
  · have HL := Lib.hid HL
    go_enter Try.func113, Try.ntmps113
    go_wp2_with fail
    refine (HC.out _ (RdP_kept H.out (by go_grown))).mono ?_
    rintro e w1 ⟨rfl, hb1⟩
    have HA1 := Lib.hid (CrAt_kept (CrAt_kept HA.out (by go_grown)) hb1)
    refine kept_at hb1 (w.heap.size + 1) (by go_size) fun c1_1 z1_1 s1_1 => ?_
    have b1 := kept_trans (a := w) (by go_grown) hb1
    go_wp2_with fail
    refine (HP.out _).mono ?_
    rintro e w2 ⟨rfl, hbx2⟩
    refine kept_at hbx2 (w.heap.size + 1) (by go_size) fun c2_1 z2_1 s2_1 => ?_
    have b2 := kept_trans (a := w) (by go_grown) hbx2
    have HA2 := Lib.hid (CrAt_kept HA1.out hbx2)
    go_wp2_with fail
    refine (HL.out _ _ _ HA2.out).mono ?_
    rintro e w3 ⟨rfl, hb3⟩
    have b3 := kept_trans (a := w) (by go_grown) hb3
    go_wp2
    go_ret2
    exact ⟨rfl, b3⟩
  · have hG := fun u' (q : RdP u' (.slice A k.ch.length cp) k.ch) => implLoadIn_any _ k.ch (distL k u v) u' q (craneB_true h1).2.2.2.2.1 ((find_last (craneB_true h1).2.2.2.2.1 _).2 (by simpa [reachB] using h3))
    generalize loadL k.ch (distL k u v) = D at *
    generalize distL k u v = DD at *
    have HL := Lib.hid HL
    have HG := Lib.hid hG; clear hG
    go_enter Try.func113, Try.ntmps113
    go_wp2_with fail
    refine (HC.out _ (RdP_kept H.out (by go_grown))).mono ?_
    rintro e w1 ⟨rfl, hb1⟩
    have HA1 := Lib.hid (CrAt_kept (CrAt_kept HA.out (by go_grown)) hb1)
    refine kept_at hb1 (w.heap.size + 1) (by go_size) fun c1_1 z1_1 s1_1 => ?_
    refine kept_at hb1 w.heap.size (by go_size) fun c1_0 z1_0 s1_0 => ?_
    have b1 := kept_trans (a := w) (by go_grown) hb1
    go_wp2_with fail
    refine (HP.out _).mono ?_
    rintro e w2 ⟨rfl, hbx2⟩
    refine kept_at hbx2 (w.heap.size + 1) (by go_size) fun c2_1 z2_1 s2_1 => ?_
    refine kept_at hbx2 w.heap.size (by go_size) fun c2_0 z2_0 s2_0 => ?_
    have b2 := kept_trans (a := w) (by go_grown) hbx2
    have HA2 := Lib.hid (CrAt_kept HA1.out hbx2)
    go_wp2_with fail
    refine (HL.out _ _ _ HA2.out).mono ?_
    rintro e w3 ⟨rfl, hb3⟩
    refine kept_at hb3 w.heap.size (by go_size) fun c3_0 z3_0 s3_0 => ?_
    have b3 := kept_trans (a := w) (by go_grown) hb3
    go_wp2_with fail
    refine (HG.out _ (RdP_kept H.out b3)).mono ?_
    rintro e w4 ⟨rfl, hb4⟩
    have b4 := kept_trans b3 hb4
    go_wp2
    go_ret2
    exact ⟨rfl, b4⟩

theorem min_any (x y : Int) (w : World) :
    Calls Try.prog 95 #[.int .i64 x, .int .i64 y] w fun e w' => e = .returned (.int .i64 (min x y)) ∧ w = w' := by
  by_cases h : x < y
  · rw [show min x y = x by omega]
    go_enter Try.func95, Try.ntmps95
    go_wp2
    go_ret
    exact ⟨rfl, rfl⟩
  · rw [show min x y = y by omega]
    go_enter Try.func95, Try.ntmps95
    go_wp2
    go_ret
    exact ⟨rfl, rfl⟩

/-- The first place at which p holds; -1 if there is none. -/
def idxL {α : Type} (p : α → Bool) (zs : List α) : Int := if zs.findIdx p < zs.length then (zs.findIdx p : Int) else -1

theorem idxL_is {α : Type} {p : α → Bool} {zs : List α} {k : Nat} (h : k < zs.length) (hk : p zs[k] = true) (hb : ∀ j (hj : j < zs.length), j < k → p zs[j] = false) : idxL p zs = (k : Int) := by
  unfold idxL
  have e : zs.findIdx p = k := by
    rw [List.findIdx_eq h]
    exact ⟨hk, fun j hj => hb j (by omega) hj⟩
  rw [e, if_pos h]

theorem idxL_none {α : Type} {p : α → Bool} {zs : List α} (hb : ∀ j (hj : j < zs.length), p zs[j] = false) : idxL p zs = -1 := by
  unfold idxL
  have e : zs.findIdx p = zs.length := by
    rw [List.findIdx_eq_length]
    intro x hx
    obtain ⟨i, hi, rfl⟩ := List.mem_iff_getElem.1 hx
    exact hb i hi
  rw [e, if_neg (by omega)]

theorem idxL_any {α : Type} (p : α → Bool) (zs : List α) : decide (0 ≤ idxL p zs) = zs.any p := by
  unfold idxL
  by_cases h : zs.findIdx p < zs.length
  · rw [if_pos h]
    have := List.findIdx_lt_length.1 h
    simp
    obtain ⟨x, hx, hp⟩ := this
    exact ⟨x, hx, hp⟩
  · rw [if_neg h]
    have : ¬ ∃ x ∈ zs, p x = true := fun hx => h (List.findIdx_lt_length.2 hx)
    simp at this ⊢
    exact this

theorem idxL_bd {α : Type} (p : α → Bool) (zs : List α) : -1 ≤ idxL p zs ∧ idxL p zs ≤ zs.length := by
  unfold idxL
  split <;> omega

theorem validHeight_any (h : Int) (w : World) :
    Calls Try.prog 76 #[.int .i64 h] w fun e w' => e = .returned (.bool (inB h 0 2000)) ∧ w = w' := by
  unfold inB
  by_cases h1 : 0 ≤ h <;> by_cases h2 : h ≤ 2000 <;>
  · go_enter Try.func76, Try.ntmps76
    go_wp2
    go_ret
    exact ⟨by simp [*], rfl⟩

theorem RowI_lo {w : World} {lo lo' hi hi' : Nat} {v : Value} {zs : List Int} (h : RowI w lo hi v zs) (hl : lo' ≤ lo) (hh : hi ≤ hi') : RowI w lo' hi' v zs :=
  ⟨Joins.ownsRow_le h.1 hl, fun g hg => ⟨by have := (h.2 g hg).1; omega, by have := (h.2 g hg).2; omega⟩⟩

theorem loadL_reach {k : Cr} {u v : Int} (hc : craneB k = true) (h : reachB k u v = true) : 0 ≤ loadL k.ch (distL k u v) := by
  have hk := (craneB_true hc).2.2.2.2.1
  simp only [reachB, decide_eq_true_eq] at h
  exact (loadL_bd hk ((find_last hk _).2 h)).1

theorem RdI_of (w : World) (g c : Nat) (zs : List Int) (hl : zs.length ≤ 9223372036854775807) (hg : g < w.heap.size) (hc : ∀ k, (hk : k < zs.length) → w.cell? ⟨g, k, none⟩ = some (.int .i64 zs[k])) : RdI w (.slice (some ⟨g, 0, none⟩) zs.length c) zs :=
  ⟨hl, _, _, rfl, fun k hk => ⟨g, 0, rfl, hg, by rw [Nat.zero_add]; exact hc k hk⟩⟩

theorem rdI1 {w : World} {g c : Nat} {x : Int} (hg : g < w.heap.size) (h0 : w.cell? ⟨g, 0, none⟩ = some (.int .i64 x)) : RdI w (.slice (some ⟨g, 0, none⟩) 1 c) [x] :=
  RdI_of w g c [x] (by simp) hg (fun k hk => by simp at hk; subst hk; exact h0)

set_option maxRecDepth 100000 in
theorem indexFuncI_any (v : Value) (zs : List Int) (g : FuncId) (he : Enters Try.prog g) (cap : Array Value) (p : Int → Bool) (w : World) (h : RdI w v zs)
    (hf : ∀ k (hk : k < zs.length) w1, Below w.heap.size w w1 → Calls Try.prog g (#[.int .i64 zs[k]] ++ cap) w1 fun e w2 => e = .returned (.bool (p zs[k])) ∧ Below w1.heap.size w1 w2) :
    Calls Try.prog 116 #[v, .func (.func g) #[] cap] w fun e w' => e = .returned (.int .i64 (idxL p zs)) ∧ Below w.heap.size w w' := by
  obtain ⟨hl, A, c, rfl, r1⟩ := h
  have R := Lib.hid r1; clear r1
  have Hf := Lib.hid hf; clear hf
  have HIS := Lib.hid (fun k (h : k < zs.length) => @idxL_is _ p zs k h)
  have HNO := Lib.hid (@idxL_none _ p zs)
  generalize idxL p zs = G at *
  go_enter Try.func116, Try.ntmps116
  go_wp2_with fail
  go_loopw [8] (fun i wr => ∃ k : Nat, k ≤ zs.length ∧ i = .int .i64 k ∧ (∀ j (hj : j < zs.length), j < k → p zs[j] = false) ∧ Below w.heap.size w wr) (fun i _ => zs.length - (intOf i).toNat)
  case atStart => exact ⟨0, by omega, rfl, fun j _ h => by omega, Below.refl _ _⟩
  case round =>
    obtain ⟨k, hk, rfl, hall, hb⟩ := hrel
    by_cases hlt : k < zs.length
    · obtain ⟨b, off, rfl, hbl, hc0⟩ := R.out k hlt
      rw [← kept_cell hb b _ hbl] at hc0
      have hc := Hf.out k hlt wr hb
      cases hp : p zs[k]
      · have hnx : ∀ j (hj : j < zs.length), j < k + 1 → p zs[j] = false := fun j hj hjk => by
          rcases Nat.lt_or_ge j k with h1 | h1
          · exact hall j hj h1
          · obtain rfl : j = k := by omega
            exact hp
        rw [hp] at hc
        have HNX := Lib.hid hnx; clear hnx hall hp
        have Hc := Lib.hid hc; clear hc
        generalize zs[k] = x at *
        go_wp2_with fail
        rw [he, Oper.upon_enter]
        refine Hc.out.mono ?_
        rintro e w1 ⟨rfl, hb1⟩
        go_wp2
        go_roundw
        case rel => exact ⟨k + 1, by omega, by go_num, HNX.out, kept_trans hb hb1⟩
        case measure => simp [intOf]; omega
      · have hE := HIS.out k hlt hp hall
        subst hE
        rw [hp] at hc
        have Hc := Lib.hid hc; clear hc hall hp
        generalize zs[k] = x at *
        go_wp2_with fail
        rw [he, Oper.upon_enter]
        refine Hc.out.mono ?_
        rintro e w1 ⟨rfl, hb1⟩
        go_wp2
        go_ret
        exact ⟨rfl, kept_trans hb hb1⟩
    · have : k = zs.length := by omega
      subst this
      have hE := HNO.out (fun j hj => hall j hj hj)
      clear hall
      subst hE
      go_wp2
      go_ret
      exact ⟨rfl, hb⟩

theorem containsFuncI_any (v : Value) (zs : List Int) (g : FuncId) (he : Enters Try.prog g) (cap : Array Value) (p : Int → Bool) (w : World) (h : RdI w v zs)
    (hf : ∀ k (hk : k < zs.length) w1, Below w.heap.size w w1 → Calls Try.prog g (#[.int .i64 zs[k]] ++ cap) w1 fun e w2 => e = .returned (.bool (p zs[k])) ∧ Below w1.heap.size w1 w2) :
    Calls Try.prog 103 #[v, .func (.func g) #[] cap] w fun e w' => e = .returned (.bool (zs.any p)) ∧ Below w.heap.size w w' := by
  have H := Lib.hid (indexFuncI_any v zs g he cap p w h hf)
  obtain ⟨hl, A, c, rfl, r1⟩ := h
  clear hf r1
  have hbd := idxL_bd p zs
  rw [← idxL_any]
  generalize idxL p zs = G at *
  go_enter Try.func103, Try.ntmps103
  go_wp2_with fail
  refine H.out.mono ?_
  rintro e w1 ⟨rfl, hb1⟩
  go_wp2
  go_ret
  exact ⟨rfl, hb1⟩

theorem outside_any (n lo hi : Int) (b1 b2 : Nat) (w : World) (h1 : w.cell? ⟨b1, 0, none⟩ = some (.int .i64 lo)) (h2 : w.cell? ⟨b2, 0, none⟩ = some (.int .i64 hi)) :
    Calls Try.prog 104 #[.int .i64 n, .pointer (some ⟨b1, 0, none⟩), .pointer (some ⟨b2, 0, none⟩)] w fun e w' => e = .returned (.bool (!inB n lo hi)) ∧ Below w.heap.size w w' := by
  unfold inB
  by_cases g1 : lo ≤ n <;> by_cases g2 : n ≤ hi
  all_goals
    go_enter Try.func104, Try.ntmps104
    go_wp2
    go_ret
    exact ⟨by simp [*], Below.refl _ _⟩

theorem within_any (lo hi : Int) (v : Value) (zs : List Int) (w : World) (h : RdI w v zs) :
    Calls Try.prog 74 #[.int .i64 lo, .int .i64 hi, v] w fun e w' => e = .returned (.bool (zs.all fun n => inB n lo hi)) ∧ Below w.heap.size w w' := by
  have hall : (zs.all fun n => inB n lo hi) = !(zs.any fun n => !inB n lo hi) := by simp [List.any_eq_not_all_not]
  rw [hall]
  clear hall
  have HC := Lib.hid (fun u (q : RdI u v zs) b1 b2 (l1 : b1 < u.heap.size) (l2 : b2 < u.heap.size) (c1 : u.cell? ⟨b1, 0, none⟩ = some (.int .i64 lo)) (c2 : u.cell? ⟨b2, 0, none⟩ = some (.int .i64 hi)) =>
    containsFuncI_any v zs 104 (enters_of Try.func104 (by kernel_rfl) rfl) #[.pointer (some ⟨b1, 0, none⟩), .pointer (some ⟨b2, 0, none⟩)] (fun n => !inB n lo hi) u q
      (fun k hk w1 hb => outside_any zs[k] lo hi b1 b2 w1 (by rw [kept_cell hb b1 0 l1]; exact c1) (by rw [kept_cell hb b2 0 l2]; exact c2)))
  obtain ⟨hl, A, c, rfl, r1⟩ := h
  have H := Lib.hid (show RdI w (.slice A zs.length c) zs from ⟨hl, A, c, rfl, r1⟩); clear r1
  generalize (zs.any fun n => !inB n lo hi) = X at *
  have hmf : ∀ (fn : Fn) (first cap : Array Value) (w : World), (Instr.makeFunc fn first cap).run Try.prog w = .ok (.func fn first cap) w := fun _ _ _ _ => rfl
  go_enter Try.func74, Try.ntmps74
  go_wp2_with fail
  refine (HC.out _ (RdI_kept H.out (by go_grown)) w.heap.size (w.heap.size + 1) (by simp; try omega) (by simp) (by simp) (by simp)).mono ?_
  rintro e w1 ⟨rfl, hb1⟩
  have b1 := kept_trans (a := w) (by go_grown) hb1
  go_wp2
  go_ret
  exact ⟨rfl, b1⟩

/-- A world in which all that was there in W stands as it was. -/
structure BelowBy (W : World) where
  w : World
  h : Below W.heap.size W w
instance belowBy_some (W : World) : Inhabited (BelowBy W) := ⟨⟨W, Below.refl _ _⟩⟩

/-- A region that draws its order, whose operations only read and whose callees only make memory: walked once. -/
theorem wp_region_below {P : Program} {id : Nat} {Q : Exit → Act → World → Prop} {a : Act} {w : World} {l : List Oper} (hm : P.follows .mixedOrders = true) (hB : Region.lexB .any l.toArray = true)
    (h : wpQuiet P l.toArray (fun w' => ∃ p : BelowBy w, w' = p.w) (fun a' => ∀ w', (∃ p : BelowBy w, w' = p.w) → Q .normal a' w') l a) : (Code.region id l.toArray true).wp P Q a w :=
  wp_region_quiet (C := fun w' => ∃ p : BelowBy w, w' = p.w) hm hB ⟨⟨{ w with drawn := w.drawn + 1 }, ⟨rfl, rfl, rfl, Nat.le_refl _, fun _ _ => rfl⟩⟩, rfl⟩ (by simpa using h)

theorem below_call {P : Program} {f : FuncId} {args : Array Value} {W : World} {x : BelowBy W} {v : Value}
    (h : Below W.heap.size W x.w → Calls P f args x.w fun e w' => e = .returned v ∧ Below x.w.heap.size x.w w') : Calls P f args x.w fun e w'' => e = .returned v ∧ ∃ p : BelowBy W, w'' = p.w :=
  (h x.h).mono fun _ w' ⟨he, hb⟩ => ⟨he, ⟨w', kept_trans x.h hb⟩, rfl⟩

theorem rdI0' (w : World) : RdI w (.slice none 0 0) [] := ⟨by simp, none, 0, rfl, fun k hk => by simp at hk⟩

/-- A slice of numbers that came in, opened. -/
theorem open_i64s {H : Type} {enc : TypeId × Value → H} {P : Program} {W : World} {r : Reach} {b0 base : Nat} {t e : TypeId} {v : Value} {d : DataW H} {p : List MemPlace}
    (ht : P.underlying t = some (.slice e)) (he : P.underlying e = some (.int .i64)) (hc : P.cellsOf e = 1) (hv : Value.okWide P W r b0 t v) (hd : DataW.Trod enc P W base (fun _ => true) true t v d p) :
    ∃ zs : List Int, RdI W v zs ∧ zs.length ≤ maxLen ∧ DataLen d zs.length := by
  obtain ⟨A, n, c, rfl⟩ := okWide_slice ht hv
  obtain ⟨fuel, hf⟩ := hd
  rcases Deep.open_slice1 ht hc (show DataW.trod enc P W base (fun _ => true) true fuel t [.slice A n c] = some (d, p) from by simpa [Value.cells] using hf) with ⟨hcs, hx⟩ | ⟨a, len, cap, m, n', V, D, Pl, hcs, _, hl, hm, hmm, hx, hi⟩
  · simp only [List.cons.injEq, and_true, Value.slice.injEq] at hcs
    obtain ⟨rfl, rfl, rfl⟩ := hcs
    exact ⟨[], rdI0' W, by simp, Or.inl ⟨congrArg Prod.fst hx, rfl⟩⟩
  · simp only [List.cons.injEq, and_true, Value.slice.injEq] at hcs
    obtain ⟨rfl, rfl, rfl⟩ := hcs
    simp only [if_true] at hmm
    have each : ∀ i, i < n → ∃ q : Int, V i = .int .i64 q := by
      intro i hlt
      obtain ⟨_, g0⟩ := hi i (by omega)
      obtain ⟨x, e0, _, _⟩ := DataW.trod_int he g0
      simp at e0
      exact ⟨x, e0⟩
    obtain ⟨q, hq⟩ := Deep.choose_lt each
    obtain ⟨b, off, spot⟩ := a
    refine ⟨(List.range n).map q, ⟨by simp; unfold maxLen at hm; omega, some ⟨b, off, spot⟩, c, by simp, fun j hj => ?_⟩, by simp; omega, Or.inr ⟨_, _, congrArg Prod.fst hx, by simp⟩⟩
    simp only [List.length_map, List.length_range] at hj
    obtain ⟨h0, _⟩ := hi j (by omega)
    have hspot : spot = none := by simpa [Addr.add] using World.cell?_spot (hi 0 (by omega)).1
    subst hspot
    rw [add_plain, hq j hj] at h0
    exact ⟨b, off, rfl, World.block_lt_of_cell? _ _ h0, by rw [h0]; simp⟩

def fillI : Int := -7000000000000000101

def copyI (zs : List Int) : List Int := zs ++ List.replicate (roomL zs.length) fillI

theorem copyI_len (zs : List Int) : (copyI zs).length = zs.length + roomL zs.length := by simp [copyI]

theorem copyI_at (zs : List Int) (j : Nat) : (h : j < zs.length) → (copyI zs)[j]'(by rw [copyI_len]; omega) = zs[j] := by
  intro h
  simp [copyI, h]

theorem copyI_fill (zs : List Int) (j : Nat) (h : zs.length ≤ j) : (h2 : j < (copyI zs).length) → (copyI zs)[j] = fillI := by
  intro h2
  simp [copyI, h]

/-- A copy of a list of numbers that the law made. -/
def CopyI (w : World) (lo hi : Nat) (v : Value) (zs : List Int) : Prop :=
  zs.length ≤ 1000000 ∧ ∃ g, v = .slice (some ⟨g, 0, none⟩) zs.length (copyI zs).length ∧ RowI w lo hi (.slice (some ⟨g, 0, none⟩) (copyI zs).length (copyI zs).length) (copyI zs)

theorem CopyI_kept {W w1 : World} {lo hi : Nat} {v : Value} {zs : List Int} (h : CopyI W lo hi v zs) (hb : Below W.heap.size W w1) : CopyI w1 lo hi v zs := by
  obtain ⟨hl, g, e, hr⟩ := h
  exact ⟨hl, g, e, RowI_kept hr hb⟩

theorem CopyI_rd {w : World} {lo hi : Nat} {v : Value} {zs : List Int} (h : CopyI w lo hi v zs) : RdI w v zs := by
  obtain ⟨hl, g, rfl, hr⟩ := h
  obtain ⟨h1, A, c, e, h2⟩ := RowI_rd hr
  injection e with e1 e2 e3
  subst e1
  refine ⟨by omega, _, _, rfl, fun k hk => ?_⟩
  obtain ⟨b, off, e4, h3, h4⟩ := h2 k (by rw [copyI_len]; omega)
  refine ⟨b, off, e4, h3, ?_⟩
  rw [h4]
  simp [copyI, hk]

theorem make_i64s (n : Nat) (h : n ≤ 4000000) (w : World) :
    (Instr.makeSlice 25 (.int .i64 (n : Int)) (.int .i64 (n : Int))).run Try.prog w = .ok (.slice (some ⟨w.heap.size, 0, none⟩) n n) (w.alloc (.cells (madeCells #[.int .i64 0] (n * 1)) 2)) := by
  obtain ⟨i, hi, hz, hs, hb⟩ := info_parts info_int64
  have hb' : (i.bytes : Int) * (n : Int) ≤ 281474976710656 := by rw [hb]; omega
  have hr := run_make (P := Try.prog) w 25 2 i (.int .i64 0) Try.underlying25 hi hz .i64 .i64 n n (by omega) (Int.le_refl _) hb' (by omega)
  simp only [Int.toNat_natCast, hs] at hr
  exact hr

theorem madeI_flat (n : Nat) : (madeCells #[.int .i64 0] (n * 1)).toList = (List.replicate n (0 : Int)).map (Value.int .i64) := by
  apply List.ext_getElem?
  intro j
  by_cases hj : j < n
  · simp [madeCells, hj, Nat.mod_one]
  · rw [List.getElem?_eq_none (by rw [Array.length_toList, size_madeCells]; omega), List.getElem?_eq_none (by simp; omega)]

set_option maxHeartbeats 1000000 in
theorem toI_row (v : Value) (zs : List Int) (bare : Bool) (w : World) (h : RdI w v zs) (hn : zs.length ≤ 1000000) (hbare : bare = false ∨ zs ≠ []) :
    Calls Try.prog 39 #[v, .bool bare] w fun e w' => ∃ v', e = .returned v' ∧ CopyI w' w.heap.size w'.heap.size v' zs ∧ Below w.heap.size w w' := by
  obtain ⟨hl, A, c, rfl, r1⟩ := h
  have R := Lib.hid r1; clear r1
  have hN := copyI_len zs
  have hr := roomL_le zs.length
  have hmk : ∀ w : World, (Instr.makeSlice 25 (.int .i64 ((zs.length : Int) + (roomL zs.length : Int))) (.int .i64 ((zs.length : Int) + (roomL zs.length : Int)))).run Try.prog w = .ok (.slice (some ⟨w.heap.size, 0, none⟩) (copyI zs).length (copyI zs).length) (w.alloc (.cells (madeCells #[.int .i64 0] ((copyI zs).length * 1)) 2)) := by
    intro w
    have := make_i64s (copyI zs).length (by omega) w
    rwa [show (((copyI zs).length : Nat) : Int) = (zs.length : Int) + (roomL zs.length : Int) by omega] at this
  have hcap : (copyI zs).length ≤ maxLen := by unfold maxLen; omega
  have hrow0 : ∀ wa : World, w.heap.size ≤ wa.heap.size → (wa.alloc (.cells (madeCells #[.int .i64 0] ((copyI zs).length * 1)) 2)).ownsRow w.heap.size 2 1 (.slice (some ⟨wa.heap.size, 0, none⟩) (copyI zs).length (copyI zs).length) (copyI zs).length (((copyI zs).take 0 ++ List.replicate ((copyI zs).length - 0) 0).map (Value.int .i64)) := by
    intro wa hwa
    have := World.ownsRow_lit wa (e := 2) (size := 1) (madeCells #[.int .i64 0] ((copyI zs).length * 1)) (copyI zs).length hwa hcap (size_madeCells _ _)
    rw [madeI_flat] at this
    simpa using this
  have Hrow := Lib.hid hrow0; clear hrow0
  have hb0 : bare = true → ((zs.length : Int) == 0) = false := by
    intro hb
    have : zs.length ≠ 0 := fun h => by
      rcases hbare with h1 | h1
      · rw [hb] at h1; cases h1
      · exact h1 (List.eq_nil_of_length_eq_zero h)
    simpa using this
  clear hbare
  generalize hNN : (copyI zs).length = N at *
  have HNN := Lib.hid hNN; clear hNN
  have hNb : N ≤ 2000002 ∧ zs.length ≤ N := by omega
  have HN := Lib.hid hN; clear hN
  cases bare
  all_goals
    have hbn := hb0
    simp only [forall_const, reduceCtorEq, false_implies, Bool.false_eq_true] at hbn
    clear hb0
    go_enter Try.func39, Try.ntmps39
    go_wp2_with (go_at_call 36; refine (room_any _ (by omega) _).mono ?_; rintro e w1 ⟨rfl, rfl⟩)
    go_loopw [6] (fun i wr => ∃ j : Nat, j ≤ zs.length ∧ i = .int .i64 j ∧ wr.ownsRow w.heap.size 2 1 (.slice (some ⟨w.heap.size, 0, none⟩) N N) N (((copyI zs).take j ++ List.replicate (N - j) 0).map (Value.int .i64)) ∧ Below w.heap.size w wr) (fun i _ => zs.length - (intOf i).toNat)
    case atStart => exact ⟨0, by omega, rfl, by have := Hrow.out w (Nat.le_refl _); rw [Nat.mul_one] at this; exact this, by go_grown⟩
    case round =>
      obtain ⟨j, hj, rfl, hown, hb⟩ := hrel
      have hsz := hb.size
      by_cases hlt : j < zs.length
      · obtain ⟨b, off, rfl, hbl, hc0⟩ := R.out j hlt
        rw [← kept_cell hb b _ hbl] at hc0
        have hstep := fill_step (copyI zs) (0 : Int) j (by rw [HNN.out]; omega)
        rw [copyI_at zs j hlt, HNN.out] at hstep
        generalize zs[j] = z at *
        have hlen : (((copyI zs).take j ++ List.replicate (N - j) 0).map (Value.int .i64)).length = N * 1 := hown.1
        obtain ⟨u0, hu0⟩ : ∃ u, wr.cell? ⟨w.heap.size, j, none⟩ = some u := by
          rw [hown.cellAt _ (by omega)]
          exact ⟨_, List.getElem?_eq_getElem (by omega)⟩
        have hz0 := hown.frozenAt j
        have hs0 := hown.stored j (.int .i64 z)
        rw [← List.map_set, hstep] at hs0
        have Hs := Lib.hid hs0.1
        have Hg := Lib.hid hs0.2
        clear hs0 hstep hown hlen
        go_wp2
        go_roundw
        case rel => exact ⟨j + 1, by omega, by go_num, Hs.out, grown_below hb Hg.out (fun g hg => by simp at hg; omega)⟩
        case measure => simp [intOf]; omega
      · have : j = zs.length := by omega
        subst this
        go_wp2_with fail
        go_loopw [7] (fun i wr => ∃ j : Nat, zs.length ≤ j ∧ j ≤ N ∧ i = .int .i64 j ∧ wr.ownsRow w.heap.size 2 1 (.slice (some ⟨w.heap.size, 0, none⟩) N N) N (((copyI zs).take j ++ List.replicate (N - j) 0).map (Value.int .i64)) ∧ Below w.heap.size w wr) (fun i _ => N - (intOf i).toNat)
        case atStart => exact ⟨zs.length, by omega, by omega, rfl, hown, hb⟩
        case round =>
          obtain ⟨j, hj0, hj, rfl, hown, hb⟩ := hrel
          have hsz := hb.size
          by_cases hlt : j < N
          · have hstep := fill_step (copyI zs) (0 : Int) j (by rw [HNN.out]; omega)
            rw [copyI_fill zs j hj0 (by rw [HNN.out]; omega), HNN.out] at hstep
            have hlen : (((copyI zs).take j ++ List.replicate (N - j) 0).map (Value.int .i64)).length = N * 1 := hown.1
            obtain ⟨u0, hu0⟩ : ∃ u, wr.cell? ⟨w.heap.size, j, none⟩ = some u := by
              rw [hown.cellAt _ (by omega)]
              exact ⟨_, List.getElem?_eq_getElem (by omega)⟩
            have hz0 := hown.frozenAt j
            have hs0 := hown.stored j (.int .i64 fillI)
            rw [← List.map_set, hstep] at hs0
            have Hs := Lib.hid hs0.1
            have Hg := Lib.hid hs0.2
            clear hs0 hstep hown hlen
            go_wp2
            go_roundw
            case rel => exact ⟨j + 1, by omega, by omega, by go_num, Hs.out, grown_below hb Hg.out (fun g hg => by simp at hg; omega)⟩
            case measure => simp [intOf]; omega
          · have : j = N := by omega
            subst this
            have Hown := Lib.hid hown; clear hown
            go_wp2
            go_ret
            have hT : (copyI zs).take j ++ List.replicate (j - j) 0 = copyI zs := by rw [List.take_of_length_le (by rw [HNN.out]; exact Nat.le_refl _)]; simp
            refine ⟨_, rfl, ⟨hn, w.heap.size, by rw [HNN.out]; rfl, ?_⟩, hb⟩
            have hO := Hown.out
            rw [hT] at hO
            unfold RowI
            rw [HNN.out]
            exact ⟨hO, fun g hg => by simp [Value.ownBlock] at hg; subst hg; exact ⟨Nat.le_refl _, (hO.lt _ rfl).2⟩⟩

theorem toI_false (v : Value) (zs : List Int) (w : World) (h : RdI w v zs) (hn : zs.length ≤ 1000000) :
    Calls Try.prog 39 #[v, .bool false] w fun e w' => ∃ v', e = .returned v' ∧ CopyI w' w.heap.size w'.heap.size v' zs ∧ Below w.heap.size w w' := toI_row v zs false w h hn (Or.inl rfl)

theorem intactI_same (v1 v2 : Value) (zs : List Int) (lo1 hi1 lo2 hi2 : Nat) (w : World) (h1 : CopyI w lo1 hi1 v1 zs) (h2 : CopyI w lo2 hi2 v2 zs) :
    Calls Try.prog 47 #[v1, v2] w fun e w' => e = .returned (.bool true) ∧ Below w.heap.size w w' := by
  obtain ⟨hn, g1, rfl, r1⟩ := h1
  obtain ⟨_, g2, rfl, r2⟩ := h2
  have q1 : RdI w _ (copyI zs) := RowI_rd r1
  have q2 : RdI w _ (copyI zs) := RowI_rd r2
  clear r1 r2
  have hN := copyI_len zs
  have hr := roomL_le zs.length
  generalize hT : copyI zs = T at *
  clear hT
  have Q1 := Lib.hid q1; clear q1
  have Q2 := Lib.hid q2; clear q2
  generalize hTl : T.length = N at *
  have hN' : (zs.length : Int) + (roomL zs.length : Int) = (N : Int) := by omega
  have hcap : zs.length ≤ N := by omega
  clear hN
  go_enter Try.func47, Try.ntmps47
  go_wp2_with (go_at_call 36; refine (room_any _ (by omega) _).mono ?_; rintro e w1 ⟨rfl, rfl⟩)
  go_region_held3 (fun _ => True) (trivial)
    ((go_at_call 80; refine (eqInts_same _ _ T _ (by exact Q1.out) (by exact Q2.out)).mono ?_; rintro e w1 ⟨rfl, hb1⟩; replace hb1 := kept_trans (a := w) (by go_grown) hb1))
  go_wp2
  go_ret
  exact ⟨rfl, by assumption⟩

theorem RdI_slice {w : World} {v : Value} {zs : List Int} (h : RdI w v zs) : ∃ A c, v = .slice A zs.length c ∧ zs.length ≤ 9223372036854775807 ∧
    ∀ k, (hk : k < zs.length) → ∃ b off, A = some ⟨b, off, none⟩ ∧ b < w.heap.size ∧ w.cell? ⟨b, off + k, none⟩ = some (.int .i64 zs[k]) := by
  obtain ⟨hl, A, c, rfl, hr⟩ := h
  exact ⟨A, c, rfl, hl, hr⟩

theorem RowI_set {w : World} {lo hi b o : Nat} {v u : Value} {zs : List Int} (h : RowI w lo hi v zs) (hb : b < lo) : RowI (w.setCell ⟨b, o, none⟩ u) lo hi v zs :=
  RowI_far h (grown_set _ _ _) (fun g hg => by simp at hg; omega)

theorem CopyI_row {w : World} {lo hi : Nat} {v : Value} {zs : List Int} (h : CopyI w lo hi v zs) : RowI w lo hi v zs := by
  obtain ⟨hl, g, rfl, hr⟩ := h
  have hF : RowF 2 1 w lo hi (.slice (some ⟨g, 0, none⟩) (copyI zs).length (copyI zs).length) (copyI zs).length ((copyI zs).map (Value.int .i64)) := hr
  have := RowF_short hF (n := zs.length) (by rw [copyI_len]; omega)
  have e : ((copyI zs).map (Value.int .i64)).take (zs.length * 1) = zs.map (Value.int .i64) := by
    rw [Nat.mul_one, ← List.map_take]
    simp [copyI]
  rw [e] at this
  exact this

theorem CopyI_set {w : World} {lo hi b o : Nat} {v u : Value} {zs : List Int} (h : CopyI w lo hi v zs) (hb : b < lo) : CopyI (w.setCell ⟨b, o, none⟩ u) lo hi v zs := by
  obtain ⟨hl, g, e, hr⟩ := h
  exact ⟨hl, g, e, RowI_set hr hb⟩

theorem CopyI_lo {w : World} {lo lo' hi hi' : Nat} {v : Value} {zs : List Int} (h : CopyI w lo hi v zs) (hl : lo' ≤ lo) (hh : hi ≤ hi') : CopyI w lo' hi' v zs := by
  obtain ⟨hn, g, e, hr⟩ := h
  exact ⟨hn, g, e, RowI_lo hr hl hh⟩

/-- A lift's fields. -/
structure Lf where
  nm : ByteArray
  wt : Int
  fx : Int
  fy : Int
  tx : Int
  ty : Int
  h : Int
  dl : Int
  af : List Int

/-- A lift, cell by cell; c: the slice of what it is after. -/
def encLf (p : Lf × Value) : List Value := [.string p.1.nm, .int .i64 p.1.wt, .int .i64 p.1.fx, .int .i64 p.1.fy, .int .i64 p.1.tx, .int .i64 p.1.ty, .int .i64 p.1.h, .int .i64 p.1.dl, p.2]

def wfLf (k : Lf) : Prop := k.nm.size ≤ maxLen ∧ (Lit.int .i64 k.wt).wf = true ∧ (Lit.int .i64 k.fx).wf = true ∧ (Lit.int .i64 k.fy).wf = true ∧ (Lit.int .i64 k.tx).wf = true ∧ (Lit.int .i64 k.ty).wf = true ∧ (Lit.int .i64 k.h).wf = true ∧ (Lit.int .i64 k.dl).wf = true

/-- A lift lies at a place. -/
def LfAt (w : World) (b o : Nat) (k : Lf) (c : Value) : Prop :=
  b < w.heap.size ∧ (w.cell? ⟨b, o, none⟩ = some (.string k.nm) ∧ w.cell? ⟨b, o + 1, none⟩ = some (.int .i64 k.wt) ∧ w.cell? ⟨b, o + 2, none⟩ = some (.int .i64 k.fx) ∧ w.cell? ⟨b, o + 3, none⟩ = some (.int .i64 k.fy) ∧ w.cell? ⟨b, o + 4, none⟩ = some (.int .i64 k.tx) ∧ w.cell? ⟨b, o + 5, none⟩ = some (.int .i64 k.ty) ∧ w.cell? ⟨b, o + 6, none⟩ = some (.int .i64 k.h) ∧ w.cell? ⟨b, o + 7, none⟩ = some (.int .i64 k.dl) ∧ w.cell? ⟨b, o + 8, none⟩ = some c) ∧ RdI w c k.af

theorem LfAt_kept {W w1 : World} {b o : Nat} {k : Lf} {c : Value} (h : LfAt W b o k c) (hb : Below W.heap.size W w1) : LfAt w1 b o k c := by
  obtain ⟨hlt, ⟨h0, h1, h2, h3, h4, h5, h6, h9, h8⟩, hr⟩ := h
  refine ⟨Nat.lt_of_lt_of_le hlt hb.size, ⟨?_, ?_, ?_, ?_, ?_, ?_, ?_, ?_, ?_⟩, RdI_kept hr hb⟩ <;> (rw [kept_cell hb b _ hlt]; assumption)

/-- What is left of a measure behind a lift; less than 0: too much. -/
def szLf (k : Lf) (left : Int) : Int := if (k.nm.size : Int) + (k.af.length : Int) ≤ left then left - k.nm.size - k.af.length else -1

theorem szI_any (A : Option Addr) (n c : Nat) (left : Int) (h : -9223372036854775808 ≤ left - n ∧ left ≤ 1000000) (hn : n ≤ 9223372036854775807) (w : World) :
    Calls Try.prog 31 #[.slice A n c, .int .i64 left] w fun e w' => e = .returned (.int .i64 (if (n : Int) ≤ left then left - n else -1)) ∧ w = w' := by
  by_cases h1 : (n : Int) ≤ left
  · rw [if_pos h1]
    go_enter Try.func31, Try.ntmps31
    go_wp2
    go_ret
    exact ⟨rfl, rfl⟩
  · rw [if_neg h1]
    go_enter Try.func31, Try.ntmps31
    go_wp2
    go_ret
    exact ⟨rfl, rfl⟩

theorem szLf_any (k : Lf) (c : Value) (left : Int) (h : 0 ≤ left ∧ left ≤ 1000000) (hs : k.nm.size ≤ maxLen) (w : World) (hr : RdI w c k.af) :
    Calls Try.prog 9 #[.agg #[.string k.nm, .int .i64 k.wt, .int .i64 k.fx, .int .i64 k.fy, .int .i64 k.tx, .int .i64 k.ty, .int .i64 k.h, .int .i64 k.dl, c], .int .i64 left] w fun e w' => e = .returned (.int .i64 (szLf k left)) ∧ Below w.heap.size w w' := by
  obtain ⟨A, cp, rfl, hl, _⟩ := RdI_slice hr
  clear hr
  unfold maxLen at hs
  unfold szLf
  obtain ⟨s, i1, i2, i3, i4, i5, i6, i7, zs⟩ := k
  dsimp only at *
  by_cases h1 : left < (s.size : Int)
  · rw [if_neg (by omega)]
    go_enter Try.func9, Try.ntmps9
    go_wp2
    go_ret
    exact ⟨rfl, by go_grown⟩
  · by_cases h2 : (s.size : Int) + (zs.length : Int) ≤ left
    · rw [if_pos h2]
      have e : (if (zs.length : Int) ≤ left - s.size then left - s.size - zs.length else -1) = left - s.size - zs.length := if_pos (by omega)
      go_enter Try.func9, Try.ntmps9
      go_wp2_with (go_at_call 31; refine ((szI_any _ _ _ _ (by omega) (by omega) _)).mono ?_; rintro e w1 ⟨rfl, rfl⟩)
      go_ret
      exact ⟨rfl, by go_grown⟩
    · rw [if_neg h2]
      go_enter Try.func9, Try.ntmps9
      go_wp2_with (go_at_call 31; refine ((szI_any _ _ _ _ (by omega) (by omega) _)).mono ?_; rintro e w1 ⟨rfl, rfl⟩)
      go_ret
      exact ⟨rfl, by go_grown⟩

theorem toI_bareR (v : Value) (zs : List Int) (w : World) (h : RdI w v zs) (hn : zs.length ≤ 1000000) :
    Calls Try.prog 39 #[v, .bool true] w fun e w' => ∃ v', e = .returned v' ∧ RowI w' w.heap.size w'.heap.size v' zs ∧ Below w.heap.size w w' := by
  by_cases hz : zs = []
  · subst hz
    obtain ⟨A, c, rfl, hl, _⟩ := RdI_slice h
    clear h
    go_enter Try.func39, Try.ntmps39
    go_wp2
    go_ret
    exact ⟨_, rfl, RowI_nil _ _ _, Below.refl _ _⟩
  · exact (toI_row v zs true w h hn (Or.inr hz)).mono fun e w' ⟨v', he, hc, hb⟩ => ⟨v', he, CopyI_row hc, hb⟩

theorem toLf_false (k : Lf) (c : Value) (w : World) (hr : RdI w c k.af) (hn : k.af.length ≤ 1000000) :
    Calls Try.prog 12 #[.agg #[.string k.nm, .int .i64 k.wt, .int .i64 k.fx, .int .i64 k.fy, .int .i64 k.tx, .int .i64 k.ty, .int .i64 k.h, .int .i64 k.dl, c], .bool false] w fun e w' => ∃ c', e = .returned (.agg #[.string k.nm, .int .i64 k.wt, .int .i64 k.fx, .int .i64 k.fy, .int .i64 k.tx, .int .i64 k.ty, .int .i64 k.h, .int .i64 k.dl, c']) ∧ CopyI w' w.heap.size w'.heap.size c' k.af ∧ Below w.heap.size w w' := by
  obtain ⟨A0, cp0, rfl, _, _⟩ := RdI_slice hr
  have H := Lib.hid hr; clear hr
  obtain ⟨s, i1, i2, i3, i4, i5, i6, i7, zs⟩ := k
  dsimp only at *
  go_enter Try.func12, Try.ntmps12
  go_wp2_with fail
  refine (toPoint_any _ _ _).mono ?_
  rintro e w1 ⟨rfl, b1⟩
  refine kept_at b1 (w.heap.size) (by go_size) fun c1_0 z1_0 s1_0 => ?_
  refine kept_at b1 (w.heap.size + 1) (by go_size) fun c1_1 z1_1 s1_1 => ?_
  refine kept_at b1 (w.heap.size + 2) (by go_size) fun c1_2 z1_2 s1_2 => ?_
  replace b1 := kept_trans (a := w) (by go_grown) b1
  have l1 := kept_cell b1
  have zz1 := b1.size
  go_wp2_with fail
  refine (toPoint_any _ _ _).mono ?_
  rintro e w2 ⟨rfl, b2⟩
  refine kept_at b2 (w.heap.size) (by go_size) fun c2_0 z2_0 s2_0 => ?_
  refine kept_at b2 (w.heap.size + 1) (by go_size) fun c2_1 z2_1 s2_1 => ?_
  refine kept_at b2 (w.heap.size + 2) (by go_size) fun c2_2 z2_2 s2_2 => ?_
  replace b2 := kept_trans (a := w) (by go_grown) b2
  have l2 := kept_cell b2
  have zz2 := b2.size
  go_wp2_with fail
  refine (toI_false _ zs _ (RdI_kept H.out (by go_grown)) hn).mono ?_
  rintro e w3 ⟨c', rfl, hc, hb3⟩
  obtain ⟨A1, cp1, rfl, _, _⟩ := RdI_slice (CopyI_rd hc)
  have HC := Lib.hid hc; clear hc
  refine kept_at hb3 (w.heap.size + 1) (by go_size) fun c3_1 z3_1 s3_1 => ?_
  refine kept_at hb3 (w.heap.size + 2) (by go_size) fun c3_2 z3_2 s3_2 => ?_
  have b3 := kept_trans (a := w) (by go_grown) hb3
  go_wp2
  (try simp only [Exit.inBlock, Exit.then])
  refine bodyPost_ret (v := .agg #[.string s, .int .i64 i1, .int .i64 i2, .int .i64 i3, .int .i64 i4, .int .i64 i5, .int .i64 i6, .int .i64 i7, .slice A1 zs.length cp1]) ?_ rfl ⟨_, rfl, ?_, ?_⟩
  · rw [results_cell1 rfl]
    go_simp
  · refine CopyI_lo (lo := w2.heap.size) ?_ (by omega) (show w3.heap.size ≤ _ by simp)
    have := HC.out
    simp only [World.size_setCell] at this
    exact CopyI_set (CopyI_set (CopyI_set (CopyI_set (CopyI_set (CopyI_set (CopyI_set (CopyI_set (CopyI_set (CopyI_set this (by omega)) (by omega)) (by omega)) (by omega)) (by omega)) (by omega)) (by omega)) (by omega)) (by omega)) (by omega)
  · go_grown

theorem toLf_true (k : Lf) (c : Value) (w : World) (hr : RdI w c k.af) (hn : k.af.length ≤ 1000000) :
    Calls Try.prog 12 #[.agg #[.string k.nm, .int .i64 k.wt, .int .i64 k.fx, .int .i64 k.fy, .int .i64 k.tx, .int .i64 k.ty, .int .i64 k.h, .int .i64 k.dl, c], .bool true] w fun e w' => ∃ c', e = .returned (.agg #[.string k.nm, .int .i64 k.wt, .int .i64 k.fx, .int .i64 k.fy, .int .i64 k.tx, .int .i64 k.ty, .int .i64 k.h, .int .i64 k.dl, c']) ∧ RowI w' w.heap.size w'.heap.size c' k.af ∧ Below w.heap.size w w' := by
  obtain ⟨A0, cp0, rfl, _, _⟩ := RdI_slice hr
  have H := Lib.hid hr; clear hr
  obtain ⟨s, i1, i2, i3, i4, i5, i6, i7, zs⟩ := k
  dsimp only at *
  go_enter Try.func12, Try.ntmps12
  go_wp2_with fail
  refine (toPoint_any _ _ _).mono ?_
  rintro e w1 ⟨rfl, b1⟩
  refine kept_at b1 (w.heap.size) (by go_size) fun c1_0 z1_0 s1_0 => ?_
  refine kept_at b1 (w.heap.size + 1) (by go_size) fun c1_1 z1_1 s1_1 => ?_
  refine kept_at b1 (w.heap.size + 2) (by go_size) fun c1_2 z1_2 s1_2 => ?_
  replace b1 := kept_trans (a := w) (by go_grown) b1
  have l1 := kept_cell b1
  have zz1 := b1.size
  go_wp2_with fail
  refine (toPoint_any _ _ _).mono ?_
  rintro e w2 ⟨rfl, b2⟩
  refine kept_at b2 (w.heap.size) (by go_size) fun c2_0 z2_0 s2_0 => ?_
  refine kept_at b2 (w.heap.size + 1) (by go_size) fun c2_1 z2_1 s2_1 => ?_
  refine kept_at b2 (w.heap.size + 2) (by go_size) fun c2_2 z2_2 s2_2 => ?_
  replace b2 := kept_trans (a := w) (by go_grown) b2
  have l2 := kept_cell b2
  have zz2 := b2.size
  go_wp2_with fail
  refine (toI_bareR _ zs _ (RdI_kept H.out (by go_grown)) hn).mono ?_
  rintro e w3 ⟨c', rfl, hc, hb3⟩
  obtain ⟨A1, cp1, rfl, _, _⟩ := RdI_slice (RowI_rd hc)
  have HC := Lib.hid hc; clear hc
  refine kept_at hb3 (w.heap.size + 1) (by go_size) fun c3_1 z3_1 s3_1 => ?_
  refine kept_at hb3 (w.heap.size + 2) (by go_size) fun c3_2 z3_2 s3_2 => ?_
  have b3 := kept_trans (a := w) (by go_grown) hb3
  go_wp2
  (try simp only [Exit.inBlock, Exit.then])
  refine bodyPost_ret (v := .agg #[.string s, .int .i64 i1, .int .i64 i2, .int .i64 i3, .int .i64 i4, .int .i64 i5, .int .i64 i6, .int .i64 i7, .slice A1 zs.length cp1]) ?_ rfl ⟨_, rfl, ?_, ?_⟩
  · rw [results_cell1 rfl]
    go_simp
  · refine RowI_lo (lo := w2.heap.size) ?_ (by omega) (show w3.heap.size ≤ _ by simp)
    have := HC.out
    simp only [World.size_setCell] at this
    exact RowI_set (RowI_set (RowI_set (RowI_set (RowI_set (RowI_set (RowI_set (RowI_set (RowI_set (RowI_set this (by omega)) (by omega)) (by omega)) (by omega)) (by omega)) (by omega)) (by omega)) (by omega)) (by omega)) (by omega)
  · go_grown

theorem intactLf_same (k : Lf) (c1 c2 : Value) (lo1 hi1 lo2 hi2 : Nat) (w : World) (h1 : CopyI w lo1 hi1 c1 k.af) (h2 : CopyI w lo2 hi2 c2 k.af) :
    Calls Try.prog 16 #[.agg #[.string k.nm, .int .i64 k.wt, .int .i64 k.fx, .int .i64 k.fy, .int .i64 k.tx, .int .i64 k.ty, .int .i64 k.h, .int .i64 k.dl, c1], .agg #[.string k.nm, .int .i64 k.wt, .int .i64 k.fx, .int .i64 k.fy, .int .i64 k.tx, .int .i64 k.ty, .int .i64 k.h, .int .i64 k.dl, c2]] w fun e w' => e = .returned (.bool true) ∧ Below w.heap.size w w' := by
  obtain ⟨A1, cp1, rfl, _, _⟩ := RdI_slice (CopyI_rd h1)
  obtain ⟨A2, cp2, rfl, _, _⟩ := RdI_slice (CopyI_rd h2)
  have H1 := Lib.hid h1; clear h1
  have H2 := Lib.hid h2; clear h2
  obtain ⟨s, i1, i2, i3, i4, i5, i6, i7, zs⟩ := k
  dsimp only at *
  go_enter Try.func16, Try.ntmps16
  go_wp2_with fail
  refine (eqPoint_same _ _ _).mono ?_
  rintro e w1 ⟨rfl, b1⟩
  refine kept_at b1 (w.heap.size) (by go_size) fun c1_0 z1_0 s1_0 => ?_
  refine kept_at b1 (w.heap.size + 1) (by go_size) fun c1_1 z1_1 s1_1 => ?_
  replace b1 := kept_trans (a := w) (by go_grown) b1
  have l1 := kept_cell b1
  have zz1 := b1.size
  go_wp2_with fail
  refine (eqPoint_same _ _ _).mono ?_
  rintro e w2 ⟨rfl, b2⟩
  refine kept_at b2 (w.heap.size) (by go_size) fun c2_0 z2_0 s2_0 => ?_
  refine kept_at b2 (w.heap.size + 1) (by go_size) fun c2_1 z2_1 s2_1 => ?_
  replace b2 := kept_trans (a := w) (by go_grown) b2
  have l2 := kept_cell b2
  have zz2 := b2.size
  go_wp2_with fail
  refine (intactI_same _ _ zs _ _ _ _ _ (CopyI_kept H1.out (by go_grown)) (CopyI_kept H2.out (by go_grown))).mono ?_
  rintro e w3 ⟨rfl, hb3⟩
  have b3 := kept_trans (a := w) (by go_grown) hb3
  go_wp2
  go_ret
  exact ⟨rfl, b3⟩

/-- Cells that read as a slice of numbers. -/
theorem open_i64C {H : Type} {enc : TypeId × Value → H} {P : Program} {W : World} {t e : TypeId} {base fuel : Nat} {sp : Nat → Bool} {held : Bool} {cs : List Value} {z : DataW H × List MemPlace}
    (ht : P.underlying t = some (.slice e)) (he : P.underlying e = some (.int .i64)) (hc : P.cellsOf e = 1) (h : DataW.trod enc P W base sp held fuel t cs = some z) :
    ∃ (v : Value) (zs : List Int), cs = [v] ∧ RdI W v zs := by
  rcases Deep.open_slice1 ht hc h with ⟨hcs, hx⟩ | ⟨a, len, cap, m, n', V, D, Pl, hcs, _, hl, hm, hmm, hx, hi⟩
  · exact ⟨_, [], hcs, rdI0' W⟩
  · have hlm : len ≤ m := by rw [hmm]; split <;> omega
    have each : ∀ i, i < len → ∃ q : Int, V i = .int .i64 q := by
      intro i hlt
      obtain ⟨_, g0⟩ := hi i (by omega)
      obtain ⟨x, e0, _, _⟩ := DataW.trod_int he g0
      simp at e0
      exact ⟨x, e0⟩
    obtain ⟨q, hq⟩ := Deep.choose_lt each
    obtain ⟨b, off, spot⟩ := a
    refine ⟨_, (List.range len).map q, hcs, by simp; unfold maxLen at hm; omega, some ⟨b, off, spot⟩, cap, by simp, fun j hj => ?_⟩
    simp only [List.length_map, List.length_range] at hj
    obtain ⟨h0, _⟩ := hi j (by omega)
    have hspot : spot = none := by simpa [Addr.add] using World.cell?_spot (hi 0 (by omega)).1
    subst hspot
    rw [add_plain, hq j hj] at h0
    exact ⟨b, off, rfl, World.block_lt_of_cell? _ _ h0, by rw [h0]; simp⟩

set_option maxRecDepth 100000 in
/-- Cells that read as a lift. -/
theorem open_liftC {H : Type} {enc : TypeId × Value → H} {W : World} {base fuel : Nat} {sp : Nat → Bool} {held : Bool} {cs : List Value} {z : DataW H × List MemPlace}
    (h : DataW.trod enc Try.prog W base sp held fuel 27 cs = some z) : ∃ (k : Lf) (c : Value), cs = encLf (k, c) ∧ RdI W c k.af ∧ wfLf k := by
  obtain ⟨xs, n, _, _, hl, hlen, hf⟩ := DataW.trod_struct Try.underlying27 h
  have hl9 : cs.length = 9 := hl.trans (by kernel_rfl)
  have h0 : DataW.trod enc Try.prog W base sp held n 9 ((cs.drop 0).take (Try.prog.cellsOf 9)) = xs[0]? := hf 0 _ rfl
  have h1 : DataW.trod enc Try.prog W base sp held n 2 ((cs.drop 1).take (Try.prog.cellsOf 2)) = xs[1]? := hf 1 _ rfl
  have h2 : DataW.trod enc Try.prog W base sp held n 24 ((cs.drop 2).take (Try.prog.cellsOf 24)) = xs[2]? := hf 2 _ rfl
  have h3 : DataW.trod enc Try.prog W base sp held n 24 ((cs.drop 4).take (Try.prog.cellsOf 24)) = xs[3]? := hf 3 _ rfl
  have h4 : DataW.trod enc Try.prog W base sp held n 2 ((cs.drop 6).take (Try.prog.cellsOf 2)) = xs[4]? := hf 4 _ rfl
  have h5 : DataW.trod enc Try.prog W base sp held n 2 ((cs.drop 7).take (Try.prog.cellsOf 2)) = xs[5]? := hf 5 _ rfl
  have h6 : DataW.trod enc Try.prog W base sp held n 25 ((cs.drop 8).take (Try.prog.cellsOf 25)) = xs[6]? := hf 6 _ rfl
  have z0 : Try.prog.cellsOf 9 = 1 := by kernel_rfl
  have z1 : Try.prog.cellsOf 24 = 2 := by kernel_rfl
  have z2 : Try.prog.cellsOf 2 = 1 := by kernel_rfl
  have z3 : Try.prog.cellsOf 25 = 1 := by kernel_rfl
  match cs, hl9 with
  | [c0, c1, c2, c3, c4, c5, c6, c7, c8], _ =>
    have i0 : xs[0]? = some (xs[0]'(by rw [hlen]; decide)) := List.getElem?_eq_getElem _
    have i1 : xs[1]? = some (xs[1]'(by rw [hlen]; decide)) := List.getElem?_eq_getElem _
    have i2 : xs[2]? = some (xs[2]'(by rw [hlen]; decide)) := List.getElem?_eq_getElem _
    have i3 : xs[3]? = some (xs[3]'(by rw [hlen]; decide)) := List.getElem?_eq_getElem _
    have i4 : xs[4]? = some (xs[4]'(by rw [hlen]; decide)) := List.getElem?_eq_getElem _
    have i5 : xs[5]? = some (xs[5]'(by rw [hlen]; decide)) := List.getElem?_eq_getElem _
    have i6 : xs[6]? = some (xs[6]'(by rw [hlen]; decide)) := List.getElem?_eq_getElem _
    simp only [i0, i1, i2, i3, i4, i5, i6, z0, z1, z2, z3, List.drop_succ_cons, List.drop_zero, List.take_succ_cons, List.take_zero] at h0 h1 h2 h3 h4 h5 h6
    obtain ⟨s, e0, _, ws⟩ := DataW.trod_string Try.underlying9 h0
    obtain ⟨a1, e1, _, w1⟩ := DataW.trod_int Try.underlying2 h1
    obtain ⟨Y0p, Y1p, mp, _, _, p0', p1'⟩ := trod_struct2 Try.underlying24 h2
    have p0 : DataW.trod enc Try.prog W base sp held mp 2 (([c2, c3].drop 0).take (Try.prog.cellsOf 2)) = some Y0p := p0'
    have p1 : DataW.trod enc Try.prog W base sp held mp 2 (([c2, c3].drop 1).take (Try.prog.cellsOf 2)) = some Y1p := p1'
    simp only [z2, List.drop_succ_cons, List.drop_zero, List.take_succ_cons, List.take_zero] at p0 p1
    obtain ⟨Y0q, Y1q, mq, _, _, q0', q1'⟩ := trod_struct2 Try.underlying24 h3
    have q0 : DataW.trod enc Try.prog W base sp held mq 2 (([c4, c5].drop 0).take (Try.prog.cellsOf 2)) = some Y0q := q0'
    have q1 : DataW.trod enc Try.prog W base sp held mq 2 (([c4, c5].drop 1).take (Try.prog.cellsOf 2)) = some Y1q := q1'
    simp only [z2, List.drop_succ_cons, List.drop_zero, List.take_succ_cons, List.take_zero] at q0 q1
    obtain ⟨a2, e2, _, w2⟩ := DataW.trod_int Try.underlying2 p0
    obtain ⟨a3, e3, _, w3⟩ := DataW.trod_int Try.underlying2 p1
    obtain ⟨a4, e4, _, w4⟩ := DataW.trod_int Try.underlying2 q0
    obtain ⟨a5, e5, _, w5⟩ := DataW.trod_int Try.underlying2 q1
    obtain ⟨a6, e6, _, w6⟩ := DataW.trod_int Try.underlying2 h4
    obtain ⟨a7, e7, _, w7⟩ := DataW.trod_int Try.underlying2 h5
    obtain ⟨c, zs, e8, hr⟩ := open_i64C Try.underlying25 Try.underlying2 (by kernel_rfl) h6
    simp only [List.cons.injEq, and_true] at e0 e1 e2 e3 e4 e5 e6 e7 e8
    subst e0 e1 e2 e3 e4 e5 e6 e7 e8
    exact ⟨⟨s, a1, a2, a3, a4, a5, a6, a7, zs⟩, _, rfl, hr, ws, w1, w2, w3, w4, w5, w6, w7⟩

set_option maxRecDepth 100000 in
theorem open_lift {H : Type} {enc : TypeId × Value → H} {W : World} {base : Nat} {v : Value} {d : DataW H} {p : List MemPlace}
    (hv : Value.okWide Try.prog W .any base 27 v) (h : DataW.Trod enc Try.prog W 0 (fun _ => true) true 27 v d p) :
    ∃ (k : Lf) (c : Value), v = .agg #[.string k.nm, .int .i64 k.wt, .int .i64 k.fx, .int .i64 k.fy, .int .i64 k.tx, .int .i64 k.ty, .int .i64 k.h, .int .i64 k.dl, c] ∧ RdI W c k.af ∧ wfLf k := by
  obtain ⟨cs, rfl, hsz⟩ := okWide_struct Try.underlying27 hv
  obtain ⟨fuel, hf⟩ := h
  obtain ⟨k, c, e, hr, wk⟩ := open_liftC (by simpa [Value.cells] using hf)
  refine ⟨k, c, ?_, hr, wk⟩
  rw [show cs = #[.string k.nm, .int .i64 k.wt, .int .i64 k.fx, .int .i64 k.fy, .int .i64 k.tx, .int .i64 k.ty, .int .i64 k.h, .int .i64 k.dl, c] from Array.toList_inj.1 (by rw [e]; rfl)]

/-- The first m numbers rise strictly, from 0 to less than n. -/
def RisesP (zs : List Int) (n : Int) (m : Nat) : Prop := ∀ i (h : i < zs.length), i < m → (0 ≤ zs[i] ∧ zs[i] ≤ n - 1) ∧ ∀ _ : 0 < i, zs[i - 1] < zs[i]

open Classical in
noncomputable def risesB (zs : List Int) (n : Int) : Bool := decide (RisesP zs n zs.length)

theorem risesB_true {zs : List Int} {n : Int} (h : RisesP zs n zs.length) : risesB zs n = true := by simp [risesB, h]

theorem risesB_false {zs : List Int} {n : Int} (h : ¬ RisesP zs n zs.length) : risesB zs n = false := by simp [risesB, h]

theorem RisesP_step {zs : List Int} {n : Int} {m : Nat} (h : RisesP zs n m) (hm : m < zs.length) (h1 : 0 ≤ zs[m] ∧ zs[m] ≤ n - 1) (h2 : ∀ _ : 0 < m, zs[m - 1] < zs[m]) : RisesP zs n (m + 1) := by
  intro i hi hlt
  rcases Nat.lt_or_ge i m with h3 | h3
  · exact h i hi h3
  · obtain rfl : i = m := by omega
    exact ⟨h1, h2⟩

/-- The fields of a lift, but After, are valid. -/
noncomputable def fldB (k : Lf) : Bool := nameB k.nm && (inB k.wt 1 50000 && (okP k.fx k.fy && (okP k.tx k.ty && (inB k.h 0 2000 && inB k.dl 1 1000000))))

/-- The lift with an index is valid, but for its name's being taken. -/
noncomputable def oneB (k : Lf) (i : Int) : Bool := fldB k && risesB k.af i

theorem same_below {P : Program} {f : FuncId} {args : Array Value} {w : World} {v : Ending} (h : Calls P f args w fun e w' => e = v ∧ w = w') : Calls P f args w fun e w' => e = v ∧ Below w.heap.size w w' :=
  h.mono fun _ _ ⟨h1, h2⟩ => ⟨h1, by rw [← h2]; exact Below.refl _ _⟩

theorem specRises_any (v : Value) (zs : List Int) (n : Int) (hn : 0 ≤ n ∧ n ≤ 1000000) (w : World) (h : RdI w v zs) :
    Calls Try.prog 100 #[v, .int .i64 n] w fun e w' => e = .returned (.bool (risesB zs n)) ∧ Below w.heap.size w w' := by
  obtain ⟨A, c, rfl, hl, r1⟩ := RdI_slice h
  clear h
  have R := Lib.hid r1; clear r1
  have HBAD := Lib.hid (fun i (hi : i < zs.length) (hno : ¬ ((0 ≤ zs[i] ∧ zs[i] ≤ n - 1) ∧ ∀ _ : 0 < i, zs[i - 1] < zs[i])) => risesB_false (n := n) (fun hp => hno (hp i hi hi)))
  have HEND := Lib.hid (fun h => risesB_true (zs := zs) (n := n) h)
  generalize risesB zs n = G at *
  go_enter Try.func100, Try.ntmps100
  go_wp2_with fail
  go_loopw [5] (fun i wr => ∃ m : Nat, m ≤ zs.length ∧ i = .int .i64 (m : Int) ∧ RisesP zs n m ∧ Below w.heap.size w wr) (fun i _ => zs.length - (intOf i).toNat)
  case atStart => exact ⟨0, by omega, rfl, fun i _ h => by omega, Below.refl _ _⟩
  case round =>
    obtain ⟨m, hm, rfl, hrp, hb⟩ := hrel
    by_cases hlt : m < zs.length
    · obtain ⟨b, off, rfl, hbl, hc⟩ := R.out m hlt
      rw [← kept_cell hb b _ hbl] at hc
      have hbad := HBAD.out m hlt
      have hnx := RisesP_step hrp hlt
      have hwb := fun u => same_below (in_any zs[m] 0 (n - 1) u)
      have hblw : b < wr.heap.size := Nat.lt_of_lt_of_le hbl hb.size
      have fc := fun x : BelowBy wr => (kept_cell x.h b (off + m) hblw).trans hc
      by_cases h1 : 0 ≤ zs[m] ∧ zs[m] ≤ n - 1
      · have hin : inB zs[m] 0 (n - 1) = true := by simp [inB, h1]
        rw [hin] at hwb
        have HW := Lib.hid hwb; clear hwb hin
        by_cases h0 : 0 < m
        · obtain ⟨b', off', e', hbl', hc'⟩ := R.out (m - 1) (by omega)
          cases e'
          rw [← kept_cell hb b _ hbl'] at hc'
          rw [show off + (m - 1) = off + m - 1 by omega] at hc'
          have fd := fun x : BelowBy wr => (kept_cell x.h b (off + m - 1) hblw).trans hc'
          have hm1 : ((m : Int) - 1).toNat = m - 1 := by omega
          have hm2 : off + (m - 1) = off + m - 1 := by omega
          by_cases h2 : zs[m - 1] < zs[m]
          · have HNX := Lib.hid (hnx h1 (fun _ => h2)); clear hnx hbad hrp
            have h3 : ¬ zs[m] ≤ zs[m - 1] := by omega
            clear h1 h2
            generalize zs[m - 1] = y at *
            generalize zs[m] = x at *
            go_wp2_with fail
            refine wp_region_below (by kernel_rfl) (by kernel_rfl) ?_
            repeat (go_big_quiet_step ((go_at_call 81; exact below_call (fun _ => HW.out _))))
            refine wpQuiet_nil ?_
            intro wq hw'
            obtain ⟨⟨_, hbq⟩, hwq⟩ := hw'
            subst hwq
            (try dsimp only)
            go_wp2
            go_roundw
            case rel => exact ⟨m + 1, by omega, by go_num, HNX.out, kept_trans hb hbq⟩
            case measure => simp [intOf]; omega
          · have hG := hbad (fun hx => h2 (hx.2 h0))
            clear hbad hnx hrp
            have h3 : zs[m] ≤ zs[m - 1] := by omega
            subst hG
            clear h1 h2
            generalize zs[m - 1] = y at *
            generalize zs[m] = x at *
            go_wp2_with fail
            refine wp_region_below (by kernel_rfl) (by kernel_rfl) ?_
            repeat (go_big_quiet_step ((go_at_call 81; exact below_call (fun _ => HW.out _))))
            refine wpQuiet_nil ?_
            intro wq hw'
            obtain ⟨⟨_, hbq⟩, hwq⟩ := hw'
            subst hwq
            (try dsimp only)
            go_wp2
            go_ret
            exact ⟨rfl, kept_trans hb hbq⟩
        · have HNX := Lib.hid (hnx h1 (fun h => absurd h h0)); clear hnx hbad hrp
          have hm0 : m = 0 := by omega
          subst hm0
          clear h1
          generalize zs[0] = x at *
          have fd := fun u : BelowBy wr => (show u.w.cell? ⟨b, off, none⟩ = some (.int .i64 x) from fc u)
          clear fc
          go_wp2_with fail
          refine wp_region_below (by kernel_rfl) (by kernel_rfl) ?_
          repeat (go_big_quiet_step ((go_at_call 81; exact below_call (fun _ => HW.out _))))
          refine wpQuiet_nil ?_
          intro wq hw'
          obtain ⟨⟨_, hbq⟩, hwq⟩ := hw'
          subst hwq
          (try dsimp only)
          go_wp2
          go_roundw
          case rel => exact ⟨1, by omega, by go_num, HNX.out, kept_trans hb hbq⟩
          case measure => simp [intOf]; omega
      · have hG := hbad (fun hx => h1 hx.1)
        clear hbad hnx hrp
        subst hG
        have hin : inB zs[m] 0 (n - 1) = false := by simp [inB]; omega
        rw [hin] at hwb
        have HW := Lib.hid hwb; clear hwb hin h1
        generalize zs[m] = x at *
        go_wp2_with fail
        refine wp_region_below (by kernel_rfl) (by kernel_rfl) ?_
        repeat (go_big_quiet_step ((go_at_call 81; exact below_call (fun _ => HW.out _))))
        refine wpQuiet_nil ?_
        intro wq hw'
        obtain ⟨⟨_, hbq⟩, hwq⟩ := hw'
        subst hwq
        (try dsimp only)
        go_wp2
        go_ret
        exact ⟨rfl, kept_trans hb hbq⟩
    · have : m = zs.length := by omega
      subst this
      have hE := HEND.out hrp
      clear hrp
      subst hE
      go_wp2
      go_ret
      exact ⟨rfl, hb⟩

set_option maxHeartbeats 4000000 in
theorem specOne_any (b o : Nat) (k : Lf) (c : Value) (i : Int) (hi : 0 ≤ i ∧ i ≤ 1000000) (w : World) (h : LfAt w b o k c) (hs : k.nm.size ≤ 1000000) :
    Calls Try.prog 70 #[.pointer (some ⟨b, o, none⟩), .int .i64 i] w fun e w' => e = .returned (.bool (oneB k i)) ∧ Below w.heap.size w w' := by
  obtain ⟨hb, ⟨c0, c1, c2, c3, c4, c5, c6, c7, c8⟩, hr⟩ := h
  obtain ⟨A, cp, rfl, hl, _⟩ := RdI_slice hr
  have H := Lib.hid hr; clear hr
  have HN := Lib.hid (fun u => specIsName_any k.nm u hs)
  have HR := Lib.hid (fun u (q : RdI u (.slice A k.af.length cp) k.af) => specRises_any _ _ i hi u q)
  unfold oneB fldB
  obtain ⟨s, i1, i2, i3, i4, i5, i6, i7, zs⟩ := k
  dsimp only at *
  have HC := Lib.hid (show ∀ u, Below w.heap.size w u → u.cell? ⟨b, o + 4, none⟩ = some (.int .i64 i4) ∧ u.cell? ⟨b, o + 5, none⟩ = some (.int .i64 i5) ∧ u.cell? ⟨b, o + 6, none⟩ = some (.int .i64 i6) ∧ u.cell? ⟨b, o + 7, none⟩ = some (.int .i64 i7) ∧ u.cell? ⟨b, o + 8, none⟩ = some (.slice A zs.length cp) from
    fun u q => ⟨by rw [kept_cell q b _ hb]; exact c4, by rw [kept_cell q b _ hb]; exact c5, by rw [kept_cell q b _ hb]; exact c6, by rw [kept_cell q b _ hb]; exact c7, by rw [kept_cell q b _ hb]; exact c8⟩)
  have HP := fun u => specOk_any i2 i3 u
  have HQ := fun u => specOk_any i4 i5 u
  have HI := fun u => in_any i1 1 50000 u
  have HJ := fun u => in_any i6 0 2000 u
  have HK := fun u => in_any i7 1 1000000 u
  generalize inB i1 1 50000 = p2 at *
  generalize okP i2 i3 = p3 at *
  generalize okP i4 i5 = p4 at *
  generalize inB i6 0 2000 = p5 at *
  generalize inB i7 1 1000000 = p6 at *
  generalize nameB s = p1 at *
  generalize risesB zs i = p7 at *
  have HP := Lib.hid HP
  have HQ := Lib.hid HQ
  have HI := Lib.hid HI
  have HJ := Lib.hid HJ
  have HK := Lib.hid HK
  clear c4 c5 c6 c7 c8
  by_cases hF : (p1 && p2 && p3) = true
  case neg =>
    rw [show (p1 && (p2 && (p3 && (p4 && (p5 && p6)))) && p7) = false by cases p1 <;> cases p2 <;> cases p3 <;> simp_all]
    cases p1
    all_goals (try (cases p2))
    all_goals (try (cases p3))
    all_goals (try (exact absurd rfl hF))
    all_goals
      clear hF HC HJ HK HR
      go_enter Try.func70, Try.ntmps70
      go_wp2_with (first | (go_at_call 98; refine (HN.out _).mono ?_; rintro e w1 ⟨rfl, rfl⟩) | (go_at_call 81; refine (HI.out _).mono ?_; rintro e w1 ⟨rfl, rfl⟩) | (go_at_call 99; refine (HP.out _).mono ?_; rintro e w1 ⟨rfl, hb1⟩))
      go_ret
      first | exact ⟨rfl, by assumption⟩ | exact ⟨rfl, Below.refl _ _⟩
  case pos =>
    simp only [Bool.and_eq_true] at hF
    obtain ⟨⟨rfl, rfl⟩, rfl⟩ := hF
    simp only [Bool.true_and]
    cases p4
    case false =>
      go_enter Try.func70, Try.ntmps70
      go_wp2_with (first | (go_at_call 98; refine (HN.out _).mono ?_; rintro e w1 ⟨rfl, rfl⟩) | (go_at_call 81; refine (HI.out _).mono ?_; rintro e w1 ⟨rfl, rfl⟩))
      refine (HP.out _).mono ?_
      rintro e w1 ⟨rfl, b1⟩
      obtain ⟨c4, c5, c6, c7, c8⟩ := HC.out _ b1
      go_wp2_with fail
      refine (HQ.out _).mono ?_
      rintro e w2 ⟨rfl, b2⟩
      go_wp2
      go_ret
      exact ⟨rfl, kept_trans b1 b2⟩
    case true =>
    cases p5
    · simp only [Bool.false_and]
      go_enter Try.func70, Try.ntmps70
      go_wp2_with (first | (go_at_call 98; refine (HN.out _).mono ?_; rintro e w1 ⟨rfl, rfl⟩) | (go_at_call 81; refine (HI.out _).mono ?_; rintro e w1 ⟨rfl, rfl⟩))
      refine (HP.out _).mono ?_
      rintro e w1 ⟨rfl, b1⟩
      obtain ⟨c4, c5, c6, c7, c8⟩ := HC.out _ b1
      go_wp2_with fail
      refine (HQ.out _).mono ?_
      rintro e w2 ⟨rfl, b2⟩
      replace b2 := kept_trans b1 b2
      obtain ⟨_, _, d6, d7, d8⟩ := HC.out _ b2
      clear c4 c5 c6 c7 c8
      go_wp2_with fail
      refine (HJ.out _).mono ?_
      rintro e w0 ⟨rfl, rfl⟩
      go_wp2
      go_ret
      exact ⟨rfl, b2⟩
    cases p6
    · simp only [Bool.false_and, Bool.true_and]
      go_enter Try.func70, Try.ntmps70
      go_wp2_with (first | (go_at_call 98; refine (HN.out _).mono ?_; rintro e w1 ⟨rfl, rfl⟩) | (go_at_call 81; refine (HI.out _).mono ?_; rintro e w1 ⟨rfl, rfl⟩))
      refine (HP.out _).mono ?_
      rintro e w1 ⟨rfl, b1⟩
      obtain ⟨c4, c5, c6, c7, c8⟩ := HC.out _ b1
      go_wp2_with fail
      refine (HQ.out _).mono ?_
      rintro e w2 ⟨rfl, b2⟩
      replace b2 := kept_trans b1 b2
      obtain ⟨_, _, d6, d7, d8⟩ := HC.out _ b2
      clear c4 c5 c6 c7 c8
      go_wp2_with fail
      refine (HJ.out _).mono ?_
      rintro e w0 ⟨rfl, rfl⟩
      go_wp2_with fail
      refine (HK.out _).mono ?_
      rintro e w0 ⟨rfl, rfl⟩
      go_wp2
      go_ret
      exact ⟨rfl, b2⟩
    · simp only [Bool.true_and]
      go_enter Try.func70, Try.ntmps70
      go_wp2_with (first | (go_at_call 98; refine (HN.out _).mono ?_; rintro e w1 ⟨rfl, rfl⟩) | (go_at_call 81; refine (HI.out _).mono ?_; rintro e w1 ⟨rfl, rfl⟩))
      refine (HP.out _).mono ?_
      rintro e w1 ⟨rfl, b1⟩
      obtain ⟨c4, c5, c6, c7, c8⟩ := HC.out _ b1
      go_wp2_with fail
      refine (HQ.out _).mono ?_
      rintro e w2 ⟨rfl, b2⟩
      replace b2 := kept_trans b1 b2
      obtain ⟨_, _, d6, d7, d8⟩ := HC.out _ b2
      clear c4 c5 c6 c7 c8
      go_wp2_with fail
      refine (HJ.out _).mono ?_
      rintro e w0 ⟨rfl, rfl⟩
      go_wp2_with fail
      refine (HK.out _).mono ?_
      rintro e w0 ⟨rfl, rfl⟩
      go_wp2_with fail
      refine (HR.out _ (RdI_kept H.out b2)).mono ?_
      rintro e w3 ⟨rfl, b3⟩
      go_wp2
      go_ret
      exact ⟨rfl, kept_trans b2 b3⟩

theorem within1_any (lo hi n : Int) (g c : Nat) (w : World) (hg : g < w.heap.size) (h0 : w.cell? ⟨g, 0, none⟩ = some (.int .i64 n)) :
    Calls Try.prog 74 #[.int .i64 lo, .int .i64 hi, .slice (some ⟨g, 0, none⟩) 1 c] w fun e w' => e = .returned (.bool (inB n lo hi)) ∧ Below w.heap.size w w' := by
  have H := within_any lo hi _ [n] w (rdI1 (c := c) hg h0)
  rwa [show ([n].all fun n => inB n lo hi) = inB n lo hi by simp] at H

/-- One more than the number before a place; 0 at the start. -/
def lastU (zs : List Int) (m : Nat) : Int := if m = 0 then 0 else (zs[m - 1]?).getD 0 + 1

theorem lastU_in {zs : List Int} {k : Int} {m : Nat} (hr : RisesP zs k m) (hm : m < zs.length) : inB zs[m] (lastU zs m) (k - 1) = true ↔ (0 ≤ zs[m] ∧ zs[m] ≤ k - 1) ∧ ∀ _ : 0 < m, zs[m - 1] < zs[m] := by
  unfold lastU
  by_cases h0 : m = 0
  · subst h0
    simp [inB]
  · have h1 := (hr (m - 1) (by omega) (by omega)).1
    have hm0 : 0 < m := by omega
    rw [if_neg h0, List.getElem?_eq_getElem (by omega)]
    simp only [Option.getD_some, inB, Bool.and_eq_true, decide_eq_true_eq]
    constructor
    · intro h
      exact ⟨⟨by omega, by omega⟩, fun _ => by omega⟩
    · rintro ⟨⟨_, h2⟩, h3⟩
      have := h3 hm0
      exact ⟨by omega, h2⟩

theorem lastU_step {zs : List Int} {m : Nat} (hm : m < zs.length) : lastU zs (m + 1) = zs[m] + 1 := by
  simp [lastU, hm]

theorem implAfter_any (v : Value) (zs : List Int) (k : Int) (hk : 0 ≤ k ∧ k ≤ 1000000) (w : World) (h : RdI w v zs) :
    Calls Try.prog 77 #[v, .int .i64 k] w fun e w' => e = .returned (.bool (risesB zs k)) ∧ Below w.heap.size w w' := by
  obtain ⟨A, c, rfl, hl, r1⟩ := RdI_slice h
  clear h
  have R := Lib.hid r1; clear r1
  have HBAD := Lib.hid (fun i (hi : i < zs.length) (hno : ¬ ((0 ≤ zs[i] ∧ zs[i] ≤ k - 1) ∧ ∀ _ : 0 < i, zs[i - 1] < zs[i])) => risesB_false (n := k) (fun hp => hno (hp i hi hi)))
  have HEND := Lib.hid (fun h => risesB_true (zs := zs) (n := k) h)
  generalize risesB zs k = G at *
  go_enter Try.func77, Try.ntmps77
  go_wp2_with fail
  go_loopw [5, 10] (fun l i wr => ∃ m : Nat, m ≤ zs.length ∧ i = .int .i64 (m : Int) ∧ l = .int .i64 (lastU zs m) ∧ RisesP zs k m ∧ Below w.heap.size w wr) (fun _ i _ => zs.length - (intOf i).toNat)
  case atStart => exact ⟨0, by omega, rfl, rfl, fun i _ h => by omega, Below.refl _ _⟩
  case round =>
    obtain ⟨m, hm, rfl, rfl, hrp, hb⟩ := hrel
    by_cases hlt : m < zs.length
    · obtain ⟨b, off, rfl, hbl, hc⟩ := R.out m hlt
      rw [← kept_cell hb b _ hbl] at hc
      have hbad := HBAD.out m hlt
      have hnx := RisesP_step hrp hlt
      have hin := lastU_in hrp hlt
      have hst := lastU_step hlt
      have hW := fun (g : Nat) (u : World) (q1 : g < u.heap.size) (q2 : u.cell? ⟨g, 0, none⟩ = some (.int .i64 zs[m])) => within1_any (lastU zs m) (k - 1) zs[m] g 1 u q1 q2
      clear hrp
      have HST := Lib.hid hst; clear hst
      generalize lastU zs m = l at *
      cases hI : inB zs[m] l (k - 1)
      · rw [hI] at hin hW
        have hG := hbad (fun hx => by cases hin.2 hx)
        subst hG
        have HW := Lib.hid hW; clear hW hin hbad hnx hI
        generalize zs[m] = x at *
        go_wp2_with fail
        refine (HW.out _ _ (by go_size) (by go_simp)).mono ?_
        rintro e w1 ⟨rfl, hb1⟩
        have b1 := kept_trans (a := wr) (by go_grown) hb1
        go_wp2
        go_ret
        exact ⟨rfl, kept_trans hb b1⟩
      · rw [hI] at hin hW
        have hp := hin.1 rfl
        have HNX := Lib.hid (hnx hp.1 hp.2)
        have hxb := hp.1
        have HW := Lib.hid hW; clear hW hin hbad hnx hI hp
        generalize zs[m] = x at *
        go_wp2_with fail
        refine (HW.out _ _ (by go_size) (by go_simp)).mono ?_
        rintro e w1 ⟨rfl, hb1⟩
        have b1 := kept_trans (a := wr) (by go_grown) hb1
        go_wp2
        go_roundw
        case rel => exact ⟨m + 1, by omega, by go_num, by rw [HST.out], HNX.out, kept_trans hb b1⟩
        case measure => simp [intOf]; omega
    · have : m = zs.length := by omega
      subst this
      have hE := HEND.out hrp
      clear hrp
      subst hE
      go_wp2
      go_ret
      exact ⟨rfl, hb⟩

set_option maxHeartbeats 4000000 in
theorem implOne_any (k : Lf) (c : Value) (i : Int) (hi : 0 ≤ i ∧ i ≤ 1000000) (w : World) (hr : RdI w c k.af) (hs : k.nm.size ≤ 1000000) :
    Calls Try.prog 43 #[.agg #[.string k.nm, .int .i64 k.wt, .int .i64 k.fx, .int .i64 k.fy, .int .i64 k.tx, .int .i64 k.ty, .int .i64 k.h, .int .i64 k.dl, c], .int .i64 i] w fun e w' => e = .returned (.bool (oneB k i)) ∧ Below w.heap.size w w' := by
  obtain ⟨A, cp, rfl, hl, _⟩ := RdI_slice hr
  have H := Lib.hid hr; clear hr
  have HN := Lib.hid (fun u => implIsName_any k.nm u hs)
  have HR := Lib.hid (fun u (q : RdI u (.slice A k.af.length cp) k.af) => implAfter_any _ _ i hi u q)
  unfold oneB fldB
  obtain ⟨s, i1, i2, i3, i4, i5, i6, i7, zs⟩ := k
  dsimp only at *
  have HP := fun u => validPlace_any i2 i3 u
  have HQ := fun u => validPlace_any i4 i5 u
  have HI := fun g u q1 q2 => within1_any 1 50000 i1 g 1 u q1 q2
  have HJ := fun u => validHeight_any i6 u
  have HK := fun g u q1 q2 => within1_any 1 1000000 i7 g 1 u q1 q2
  generalize inB i1 1 50000 = p2 at *
  generalize okP i2 i3 = p3 at *
  generalize okP i4 i5 = p4 at *
  generalize inB i6 0 2000 = p5 at *
  generalize inB i7 1 1000000 = p6 at *
  generalize nameB s = p1 at *
  generalize risesB zs i = p7 at *
  have HP := Lib.hid HP
  have HQ := Lib.hid HQ
  have HI := Lib.hid HI
  have HJ := Lib.hid HJ
  have HK := Lib.hid HK
  cases p1
  · go_enter Try.func43, Try.ntmps43
    go_wp2_with fail
    refine (HN.out _).mono ?_
    rintro e w1 ⟨rfl, b1⟩
    refine kept_at b1 (w.heap.size) (by go_size) fun c1_0 z1_0 s1_0 => ?_
    replace b1 := kept_trans (a := w) (by go_grown) b1
    have l1 := kept_cell b1
    have zz1 := b1.size
    go_wp2
    go_ret
    exact ⟨rfl, b1⟩
  cases p2
  · go_enter Try.func43, Try.ntmps43
    go_wp2_with fail
    refine (HN.out _).mono ?_
    rintro e w1 ⟨rfl, b1⟩
    refine kept_at b1 (w.heap.size) (by go_size) fun c1_0 z1_0 s1_0 => ?_
    replace b1 := kept_trans (a := w) (by go_grown) b1
    have l1 := kept_cell b1
    have zz1 := b1.size
    go_wp2_with fail
    refine (HI.out _ _ (by go_size) (by go_simp)).mono ?_
    rintro e w2 ⟨rfl, b2⟩
    refine kept_at b2 (w.heap.size) (by go_size) fun c2_0 z2_0 s2_0 => ?_
    replace b2 := kept_trans (a := w) (by go_grown) b2
    have l2 := kept_cell b2
    have zz2 := b2.size
    go_wp2
    go_ret
    exact ⟨rfl, b2⟩
  cases p3
  · go_enter Try.func43, Try.ntmps43
    go_wp2_with fail
    refine (HN.out _).mono ?_
    rintro e w1 ⟨rfl, b1⟩
    refine kept_at b1 (w.heap.size) (by go_size) fun c1_0 z1_0 s1_0 => ?_
    replace b1 := kept_trans (a := w) (by go_grown) b1
    have l1 := kept_cell b1
    have zz1 := b1.size
    go_wp2_with fail
    refine (HI.out _ _ (by go_size) (by go_simp)).mono ?_
    rintro e w2 ⟨rfl, b2⟩
    refine kept_at b2 (w.heap.size) (by go_size) fun c2_0 z2_0 s2_0 => ?_
    replace b2 := kept_trans (a := w) (by go_grown) b2
    have l2 := kept_cell b2
    have zz2 := b2.size
    go_wp2_with fail
    refine (HP.out _).mono ?_
    rintro e w3 ⟨rfl, b3⟩
    refine kept_at b3 (w.heap.size) (by go_size) fun c3_0 z3_0 s3_0 => ?_
    replace b3 := kept_trans (a := w) (by go_grown) b3
    have l3 := kept_cell b3
    have zz3 := b3.size
    go_wp2
    go_ret
    exact ⟨rfl, b3⟩
  cases p4
  · go_enter Try.func43, Try.ntmps43
    go_wp2_with fail
    refine (HN.out _).mono ?_
    rintro e w1 ⟨rfl, b1⟩
    refine kept_at b1 (w.heap.size) (by go_size) fun c1_0 z1_0 s1_0 => ?_
    replace b1 := kept_trans (a := w) (by go_grown) b1
    have l1 := kept_cell b1
    have zz1 := b1.size
    go_wp2_with fail
    refine (HI.out _ _ (by go_size) (by go_simp)).mono ?_
    rintro e w2 ⟨rfl, b2⟩
    refine kept_at b2 (w.heap.size) (by go_size) fun c2_0 z2_0 s2_0 => ?_
    replace b2 := kept_trans (a := w) (by go_grown) b2
    have l2 := kept_cell b2
    have zz2 := b2.size
    go_wp2_with fail
    refine (HP.out _).mono ?_
    rintro e w3 ⟨rfl, b3⟩
    refine kept_at b3 (w.heap.size) (by go_size) fun c3_0 z3_0 s3_0 => ?_
    replace b3 := kept_trans (a := w) (by go_grown) b3
    have l3 := kept_cell b3
    have zz3 := b3.size
    go_wp2_with fail
    refine (HQ.out _).mono ?_
    rintro e w4 ⟨rfl, b4⟩
    refine kept_at b4 (w.heap.size) (by go_size) fun c4_0 z4_0 s4_0 => ?_
    replace b4 := kept_trans (a := w) (by go_grown) b4
    have l4 := kept_cell b4
    have zz4 := b4.size
    go_wp2
    go_ret
    exact ⟨rfl, b4⟩
  cases p5
  · go_enter Try.func43, Try.ntmps43
    go_wp2_with fail
    refine (HN.out _).mono ?_
    rintro e w1 ⟨rfl, b1⟩
    refine kept_at b1 (w.heap.size) (by go_size) fun c1_0 z1_0 s1_0 => ?_
    replace b1 := kept_trans (a := w) (by go_grown) b1
    have l1 := kept_cell b1
    have zz1 := b1.size
    go_wp2_with fail
    refine (HI.out _ _ (by go_size) (by go_simp)).mono ?_
    rintro e w2 ⟨rfl, b2⟩
    refine kept_at b2 (w.heap.size) (by go_size) fun c2_0 z2_0 s2_0 => ?_
    replace b2 := kept_trans (a := w) (by go_grown) b2
    have l2 := kept_cell b2
    have zz2 := b2.size
    go_wp2_with fail
    refine (HP.out _).mono ?_
    rintro e w3 ⟨rfl, b3⟩
    refine kept_at b3 (w.heap.size) (by go_size) fun c3_0 z3_0 s3_0 => ?_
    replace b3 := kept_trans (a := w) (by go_grown) b3
    have l3 := kept_cell b3
    have zz3 := b3.size
    go_wp2_with fail
    refine (HQ.out _).mono ?_
    rintro e w4 ⟨rfl, b4⟩
    refine kept_at b4 (w.heap.size) (by go_size) fun c4_0 z4_0 s4_0 => ?_
    replace b4 := kept_trans (a := w) (by go_grown) b4
    have l4 := kept_cell b4
    have zz4 := b4.size
    go_wp2_with fail
    refine (HJ.out _).mono ?_
    rintro e w0 ⟨rfl, rfl⟩
    go_wp2
    go_ret
    exact ⟨rfl, b4⟩
  cases p6
  · go_enter Try.func43, Try.ntmps43
    go_wp2_with fail
    refine (HN.out _).mono ?_
    rintro e w1 ⟨rfl, b1⟩
    refine kept_at b1 (w.heap.size) (by go_size) fun c1_0 z1_0 s1_0 => ?_
    replace b1 := kept_trans (a := w) (by go_grown) b1
    have l1 := kept_cell b1
    have zz1 := b1.size
    go_wp2_with fail
    refine (HI.out _ _ (by go_size) (by go_simp)).mono ?_
    rintro e w2 ⟨rfl, b2⟩
    refine kept_at b2 (w.heap.size) (by go_size) fun c2_0 z2_0 s2_0 => ?_
    replace b2 := kept_trans (a := w) (by go_grown) b2
    have l2 := kept_cell b2
    have zz2 := b2.size
    go_wp2_with fail
    refine (HP.out _).mono ?_
    rintro e w3 ⟨rfl, b3⟩
    refine kept_at b3 (w.heap.size) (by go_size) fun c3_0 z3_0 s3_0 => ?_
    replace b3 := kept_trans (a := w) (by go_grown) b3
    have l3 := kept_cell b3
    have zz3 := b3.size
    go_wp2_with fail
    refine (HQ.out _).mono ?_
    rintro e w4 ⟨rfl, b4⟩
    refine kept_at b4 (w.heap.size) (by go_size) fun c4_0 z4_0 s4_0 => ?_
    replace b4 := kept_trans (a := w) (by go_grown) b4
    have l4 := kept_cell b4
    have zz4 := b4.size
    go_wp2_with fail
    refine (HJ.out _).mono ?_
    rintro e w0 ⟨rfl, rfl⟩
    go_wp2_with fail
    refine (HK.out _ _ (by go_size) (by go_simp)).mono ?_
    rintro e w6 ⟨rfl, b6⟩
    refine kept_at b6 (w.heap.size) (by go_size) fun c6_0 z6_0 s6_0 => ?_
    replace b6 := kept_trans (a := w) (by go_grown) b6
    have l6 := kept_cell b6
    have zz6 := b6.size
    go_wp2
    go_ret
    exact ⟨rfl, b6⟩
  · go_enter Try.func43, Try.ntmps43
    go_wp2_with fail
    refine (HN.out _).mono ?_
    rintro e w1 ⟨rfl, b1⟩
    refine kept_at b1 (w.heap.size) (by go_size) fun c1_0 z1_0 s1_0 => ?_
    replace b1 := kept_trans (a := w) (by go_grown) b1
    have l1 := kept_cell b1
    have zz1 := b1.size
    go_wp2_with fail
    refine (HI.out _ _ (by go_size) (by go_simp)).mono ?_
    rintro e w2 ⟨rfl, b2⟩
    refine kept_at b2 (w.heap.size) (by go_size) fun c2_0 z2_0 s2_0 => ?_
    replace b2 := kept_trans (a := w) (by go_grown) b2
    have l2 := kept_cell b2
    have zz2 := b2.size
    go_wp2_with fail
    refine (HP.out _).mono ?_
    rintro e w3 ⟨rfl, b3⟩
    refine kept_at b3 (w.heap.size) (by go_size) fun c3_0 z3_0 s3_0 => ?_
    replace b3 := kept_trans (a := w) (by go_grown) b3
    have l3 := kept_cell b3
    have zz3 := b3.size
    go_wp2_with fail
    refine (HQ.out _).mono ?_
    rintro e w4 ⟨rfl, b4⟩
    refine kept_at b4 (w.heap.size) (by go_size) fun c4_0 z4_0 s4_0 => ?_
    replace b4 := kept_trans (a := w) (by go_grown) b4
    have l4 := kept_cell b4
    have zz4 := b4.size
    go_wp2_with fail
    refine (HJ.out _).mono ?_
    rintro e w0 ⟨rfl, rfl⟩
    go_wp2_with fail
    refine (HK.out _ _ (by go_size) (by go_simp)).mono ?_
    rintro e w6 ⟨rfl, b6⟩
    refine kept_at b6 (w.heap.size) (by go_size) fun c6_0 z6_0 s6_0 => ?_
    replace b6 := kept_trans (a := w) (by go_grown) b6
    have l6 := kept_cell b6
    have zz6 := b6.size
    go_wp2_with fail
    refine (HR.out _ (RdI_kept H.out b6)).mono ?_
    rintro e w7 ⟨rfl, b7⟩
    replace b7 := kept_trans (a := w) (by go_grown) b7
    have l7 := kept_cell b7
    have zz7 := b7.size
    go_wp2
    go_ret
    exact ⟨rfl, b7⟩

/-- A block begins with these values. -/
def BoxR (u : World) (b : Nat) (row : List Value) : Prop := b < u.heap.size ∧ ∀ i v, row[i]? = some v → u.cell? ⟨b, i, none⟩ = some v

theorem BoxR_kept {u u1 : World} {b : Nat} {row : List Value} (h : BoxR u b row) (hb : Below u.heap.size u u1) : BoxR u1 b row :=
  ⟨Nat.lt_of_lt_of_le h.1 hb.size, fun i v hv => (kept_cell hb b i h.1).trans (h.2 i v hv)⟩

theorem BoxR_new' {u : World} {b : Nat} {arr : Array Value} {t : TypeId} (h : b = u.heap.size) : BoxR (u.alloc (.cells arr t)) b arr.toList := by
  subst h
  refine ⟨by simp, fun i v hv => ?_⟩
  rw [cell_of_row _ _ i _ _ _ (heap_alloc_new u _)]
  simpa using hv

theorem BoxR_up {u : World} {b : Nat} {row : List Value} {x : Obj} (h : BoxR u b row) : BoxR (u.alloc x) b row := BoxR_kept h (by go_grown)

theorem fldB_true {k : Lf} (h : fldB k = true) : (1 ≤ k.wt ∧ k.wt ≤ 50000) ∧ okP k.fx k.fy = true ∧ okP k.tx k.ty = true ∧ (0 ≤ k.h ∧ k.h ≤ 2000) ∧ (1 ≤ k.dl ∧ k.dl ≤ 1000000) := by
  simp only [fldB, Bool.and_eq_true] at h
  obtain ⟨_, h2, h3, h4, h5, h6⟩ := h
  exact ⟨inB_true h2, h3, h4, inB_true h5, inB_true h6⟩

/-- The load of a valid crane at a place; -1 if there is none. -/
noncomputable def place9 (k : Cr) (u v : Int) : Int := if reachB k u v then loadL k.ch (distL k u v) else -1

noncomputable def load9 (k : Cr) (l : Lf) : Int := min (place9 k l.fx l.fy) (place9 k l.tx l.ty)

noncomputable def margin9 (k : Cr) (l : Lf) : Int × Int := if craneB k && fldB l then (if load9 k l < 0 then (0, 3) else (load9 k l - l.wt, 0)) else (0, 1)

theorem risesB_nil (n : Int) : risesB [] n = true := risesB_true (fun i h => absurd h (by simp))

theorem oneB_plain (k : Lf) : oneB { k with af := [] } 0 = fldB k := by
  unfold oneB
  rw [risesB_nil, Bool.and_true]
  rfl

theorem LfAt_box (s : ByteArray) (i1 i2 i3 i4 i5 i6 i7 : Int) (zs : List Int) (c : Value) (w : World) (t : TypeId) (h : RdI w c zs) :
    LfAt (w.alloc (.cells #[.string s, .int .i64 i1, .int .i64 i2, .int .i64 i3, .int .i64 i4, .int .i64 i5, .int .i64 i6, .int .i64 i7, c] t)) w.heap.size 0 ⟨s, i1, i2, i3, i4, i5, i6, i7, zs⟩ c :=
  ⟨by simp, by simp, RdI_kept h (by go_grown)⟩

theorem CrAt_box (s : ByteArray) (x y hh j b : Int) (zs : List (Int × Int)) (c : Value) (w : World) (t : TypeId) (h : RdP w c zs) :
    CrAt (w.alloc (.cells #[.string s, .int .i64 x, .int .i64 y, .int .i64 hh, .int .i64 j, .int .i64 b, c] t)) w.heap.size 0 ⟨s, x, y, hh, j, b, zs⟩ c :=
  ⟨by simp, by simp, RdP_kept h (by go_grown)⟩

theorem specPlain_any (b o : Nat) (l : Lf) (c : Value) (w : World) (h : LfAt w b o l c) (hs : l.nm.size ≤ 1000000) :
    Calls Try.prog 88 #[.pointer (some ⟨b, o, none⟩)] w fun e w' => e = .returned (.bool (fldB l)) ∧ Below w.heap.size w w' := by
  have HO := fun b u (q : LfAt u b 0 { l with af := [] } (.slice none 0 0)) => specOne_any b 0 { l with af := [] } _ 0 (by omega) u q hs
  rw [oneB_plain] at HO
  have HO := Lib.hid HO
  obtain ⟨hb, ⟨c0, c1, c2, c3, c4, c5, c6, c7, c8⟩, hr⟩ := h
  obtain ⟨A, cp, rfl, hl, _⟩ := RdI_slice hr
  clear hr
  generalize fldB l = R at *
  obtain ⟨s, i1, i2, i3, i4, i5, i6, i7, zs⟩ := l
  dsimp only at *
  go_enter Try.func88, Try.ntmps88
  go_wp2_with fail
  refine (HO.out _ _ (LfAt_box _ _ _ _ _ _ _ _ [] _ _ _ (rdI0' _))).mono ?_
  rintro e w1 ⟨rfl, hb1⟩
  have b1 := kept_trans (a := w) (by go_grown) hb1
  go_wp2
  go_ret
  exact ⟨rfl, b1⟩

theorem implPlain_any (l : Lf) (d : Value) (w : World) (h : RdI w d l.af) (hs : l.nm.size ≤ 1000000) :
    Calls Try.prog 65 #[.agg #[.string l.nm, .int .i64 l.wt, .int .i64 l.fx, .int .i64 l.fy, .int .i64 l.tx, .int .i64 l.ty, .int .i64 l.h, .int .i64 l.dl, d]] w fun e w' => e = .returned (.bool (fldB l)) ∧ Below w.heap.size w w' := by
  have HO := fun u => implOne_any { l with af := [] } _ 0 (by omega) u (rdI0' u) hs
  rw [oneB_plain] at HO
  have HO := Lib.hid HO
  obtain ⟨A, cp, rfl, hl, _⟩ := RdI_slice h
  clear h
  generalize fldB l = R at *
  obtain ⟨s, i1, i2, i3, i4, i5, i6, i7, zs⟩ := l
  dsimp only at *
  go_enter Try.func65, Try.ntmps65
  go_wp2_with fail
  refine (HO.out _).mono ?_
  rintro e w1 ⟨rfl, hb1⟩
  have b1 := kept_trans (a := w) (by go_grown) hb1
  go_wp2
  go_ret
  exact ⟨rfl, b1⟩

theorem specCode9_any (b1 b2 : Nat) (k : Cr) (l : Lf) (c d : Value) (w : World) (h1 : CrAt w b1 0 k c) (h2 : LfAt w b2 0 l d) (hk : k.nm.size ≤ 1000000) (hl : l.nm.size ≤ 1000000) :
    Calls Try.prog 60 #[.pointer (some ⟨b1, 0, none⟩), .pointer (some ⟨b2, 0, none⟩)] w fun e w' => e = .returned (.int .i64 (if craneB k && fldB l then 0 else 1)) ∧ Below w.heap.size w w' := by
  have HC := Lib.hid (specCrane_any b1 0 k c w h1 hk)
  have HP := Lib.hid (fun u (q : Below w.heap.size w u) => specPlain_any b2 0 l d u (LfAt_kept h2 q) hl)
  clear h1 h2
  cases p1 : craneB k <;> rw [p1] at HC
  · go_enter Try.func60, Try.ntmps60
    go_wp2_with fail
    refine HC.out.mono ?_
    rintro e w1 ⟨rfl, b1⟩
    go_wp2
    go_ret
    exact ⟨rfl, b1⟩
  · cases p2 : fldB l <;> rw [p2] at HP
    all_goals
      go_enter Try.func60, Try.ntmps60
      go_wp2_with fail
      refine HC.out.mono ?_
      rintro e w1 ⟨rfl, b1⟩
      go_wp2_with fail
      refine (HP.out _ b1).mono ?_
      rintro e w2 ⟨rfl, b2⟩
      go_wp2
      go_ret
      exact ⟨rfl, kept_trans b1 b2⟩

theorem min2_any {P : Program} (w : World) (ts : Array TypeId) (t : TypeId) (x y : Int) : (Builtin.min_ ts t #[.int .i64 x, .int .i64 y]).run P w = .ok (.int .i64 (min x y)) w := by
  have e1 : (if y < x then y else x) = min x y := by rw [Int.min_def]; split <;> split <;> omega
  simp [Builtin.min_, Builtin.min2, e1]

theorem place9_lo {k : Cr} {u v : Int} (hc : craneB k = true) : -1 ≤ place9 k u v ∧ (reachB k u v = true → 0 ≤ place9 k u v) ∧ place9 k u v ≤ 50000 := by
  unfold place9
  cases h : reachB k u v
  · simp
  · have h1 := loadL_reach (u := u) (v := v) hc h
    have hk := (craneB_true hc).2.2.2.2.1
    have h2 : loadL k.ch (distL k u v) ≤ 50000 := by
      have hh := h
      simp only [reachB, decide_eq_true_eq] at hh
      exact (loadL_bd hk ((find_last hk _).2 hh)).2
    simp
    omega

set_option maxHeartbeats 2000000 in
theorem specLoad9_any (b1 o1 b2 o2 : Nat) (k : Cr) (l : Lf) (c d : Value) (w : World) (h1 : CrAt w b1 o1 k c) (h2 : LfAt w b2 o2 l d) (hc : craneB k = true) (hf : fldB l = true) :
    Calls Try.prog 68 #[.pointer (some ⟨b1, o1, none⟩), .pointer (some ⟨b2, o2, none⟩)] w fun e w' => e = .returned (.int .i64 (load9 k l)) ∧ Below w.heap.size w w' := by
  have f := fldB_true hf
  have HG := Lib.hid (fun u (q : Below w.heap.size w u) x y (ok : okP x y = true) => specKLoad_any b1 o1 k c x y u (CrAt_kept h1 q) hc ok)
  have HM := Lib.hid (fun u x y => same_below (min_any x y u))
  have hl : load9 k l = min (place9 k l.fx l.fy) (place9 k l.tx l.ty) := rfl
  rw [hl]
  have HG : Hid (∀ u, Below w.heap.size w u → ∀ x y, okP x y = true → Calls Try.prog 96 #[.pointer (some ⟨b1, o1, none⟩), .agg #[.int .i64 x, .int .i64 y]] u fun e w' => e = .returned (.int .i64 (place9 k x y)) ∧ Below u.heap.size u w') := Lib.hid HG.out
  have k1 := f.2.1
  have k2 := f.2.2.1
  clear hl f hc hf h1
  obtain ⟨hb, ⟨_, _, c2, c3, c4, c5, _, _, _⟩, _⟩ := h2
  generalize place9 k = G at *
  obtain ⟨ls, i1, i2, i3, i4, i5, i6, i7, us⟩ := l
  dsimp only at *
  have f2 := fun x : BelowBy w => (kept_cell x.h _ _ hb).trans c2
  have f3 := fun x : BelowBy w => (kept_cell x.h _ _ hb).trans c3
  have f4 := fun x : BelowBy w => (kept_cell x.h _ _ hb).trans c4
  have f5 := fun x : BelowBy w => (kept_cell x.h _ _ hb).trans c5
  clear c2 c3 c4 c5
  go_enter Try.func68, Try.ntmps68
  go_wp2_with fail
  refine wp_region_below (by kernel_rfl) (by kernel_rfl) ?_
  repeat (go_big_quiet_step ((first | (go_at_call 96; exact below_call (fun hbx => HG.out _ hbx _ _ (by first | exact k1 | exact k2))) | (go_at_call 95; exact below_call (fun _ => HM.out _ _ _)))))
  refine wpQuiet_nil ?_
  intro wq hw'
  obtain ⟨⟨_, hbq⟩, hwq⟩ := hw'
  subst hwq
  (try dsimp only)
  go_wp2
  go_ret
  exact ⟨rfl, hbq⟩

/-- What the filter of a lift tells beside whether the crane reaches both places. -/
noncomputable def liftX (k : Cr) (l : Lf) : Int := min (if reachB k l.fx l.fy then loadL k.ch (distL k l.fx l.fy) else 0) (if reachB k l.tx l.ty then loadL k.ch (distL k l.tx l.ty) else 0)

noncomputable def reach9 (k : Cr) (l : Lf) : Bool := reachB k l.fx l.fy && reachB k l.tx l.ty

theorem reach9_load {k : Cr} {l : Lf} (hc : craneB k = true) : (reach9 k l = true → liftX k l = load9 k l ∧ 0 ≤ load9 k l) ∧ (reach9 k l = false → load9 k l < 0) := by
  have h1 := place9_lo (u := l.fx) (v := l.fy) hc
  have h2 := place9_lo (u := l.tx) (v := l.ty) hc
  unfold reach9 liftX load9
  cases r1 : reachB k l.fx l.fy <;> cases r2 : reachB k l.tx l.ty <;> simp only [r1, r2, place9, if_true, if_false, Bool.false_eq_true, forall_const] at * <;> simp <;> omega

set_option maxHeartbeats 4000000 in
theorem liftFn_any (b o lb : Nat) (k : Cr) (l : Lf) (c d : Value) (w : World) (h1 : CrAt w b o k c) (h2 : LfAt w lb 0 l d) (hc : craneB k = true) (hf : fldB l = true) (hk : k.nm.size ≤ 1000000) :
    Calls Try.prog 112 #[.pointer (some ⟨b, o, none⟩), .pointer (some ⟨lb, 0, none⟩)] w fun e w' => e = .returned (.tuple #[.int .i64 (liftX k l), .bool (reach9 k l)]) ∧ Below w.heap.size w w' := by
  have f := fldB_true hf
  have e1 : loadPlaceL k l.fx l.fy = if reachB k l.fx l.fy then (loadL k.ch (distL k l.fx l.fy), 0) else (0, 3) := by simp [loadPlaceL, hc, f.2.1]
  have e2 : loadPlaceL k l.tx l.ty = if reachB k l.tx l.ty then (loadL k.ch (distL k l.tx l.ty), 0) else (0, 3) := by simp [loadPlaceL, hc, f.2.2.1]
  have hA := fun u (q : Below w.heap.size w u) => implLoadPlace_any k c l.fx l.fy u (RdP_kept h1.2.2 q) hk
  have hB := fun u (q : Below w.heap.size w u) => implLoadPlace_any k c l.tx l.ty u (RdP_kept h1.2.2 q) hk
  rw [e1] at hA
  rw [e2] at hB
  unfold liftX reach9
  clear e1 e2 f hc hf
  obtain ⟨hb1, ⟨g0, g1, g2, g3, g4, g5, g6⟩, hr⟩ := h1
  obtain ⟨hb2, ⟨_, _, c2, c3, c4, c5, _, _, _⟩, _⟩ := h2
  obtain ⟨A, cp, rfl, _, _⟩ := RdP_slice hr
  simp only [Nat.zero_add] at c2 c3 c4 c5
  generalize loadL k.ch (distL k l.fx l.fy) = L1 at *
  generalize loadL k.ch (distL k l.tx l.ty) = L2 at *
  generalize reachB k l.fx l.fy = r1 at *
  generalize reachB k l.tx l.ty = r2 at *
  obtain ⟨ls, i1, i2, i3, i4, i5, i6, i7, us⟩ := l
  obtain ⟨s, x, y, hh, j, bb, zs⟩ := k
  dsimp only at *
  have HG := Lib.hid (show ∀ u, Below w.heap.size w u → u.cell? ⟨b, o, none⟩ = some (.string s) ∧ u.cell? ⟨b, o + 1, none⟩ = some (.int .i64 x) ∧ u.cell? ⟨b, o + 2, none⟩ = some (.int .i64 y) ∧ u.cell? ⟨b, o + 3, none⟩ = some (.int .i64 hh) ∧ u.cell? ⟨b, o + 4, none⟩ = some (.int .i64 j) ∧ u.cell? ⟨b, o + 5, none⟩ = some (.int .i64 bb) ∧ u.cell? ⟨b, o + 6, none⟩ = some (.slice A zs.length cp) ∧ u.cell? ⟨lb, 4, none⟩ = some (.int .i64 i4) ∧ u.cell? ⟨lb, 5, none⟩ = some (.int .i64 i5) ∧ b < u.heap.size ∧ lb < u.heap.size from
    fun u q => ⟨by rw [kept_cell q b _ hb1]; exact g0, by rw [kept_cell q b _ hb1]; exact g1, by rw [kept_cell q b _ hb1]; exact g2, by rw [kept_cell q b _ hb1]; exact g3, by rw [kept_cell q b _ hb1]; exact g4, by rw [kept_cell q b _ hb1]; exact g5, by rw [kept_cell q b _ hb1]; exact g6, by rw [kept_cell q lb _ hb2]; exact c4, by rw [kept_cell q lb _ hb2]; exact c5, Nat.lt_of_lt_of_le hb1 q.size, Nat.lt_of_lt_of_le hb2 q.size⟩)
  have q0 := fun x : BelowBy w => (kept_cell x.h _ _ hb1).trans g0
  have q1 := fun x : BelowBy w => (kept_cell x.h _ _ hb1).trans g1
  have q2 := fun x : BelowBy w => (kept_cell x.h _ _ hb1).trans g2
  have q3 := fun x : BelowBy w => (kept_cell x.h _ _ hb1).trans g3
  have q4 := fun x : BelowBy w => (kept_cell x.h _ _ hb1).trans g4
  have q5 := fun x : BelowBy w => (kept_cell x.h _ _ hb1).trans g5
  have q6 := fun x : BelowBy w => (kept_cell x.h _ _ hb1).trans g6
  have p2 := fun x : BelowBy w => (kept_cell x.h _ _ hb2).trans c2
  have p3 := fun x : BelowBy w => (kept_cell x.h _ _ hb2).trans c3
  clear g0 g1 g2 g3 g4 g5 g6 c2 c3 c4 c5
  have hmn := fun ts t u (a b : Int) => min2_any (P := Try.prog) u ts t a b
  cases r1 <;> cases r2
  all_goals
    simp only [if_true, if_false, Bool.false_eq_true] at hA hB
    have HA := Lib.hid hA; have HB := Lib.hid hB; clear hA hB
    go_enter Try.func112, Try.ntmps112
    go_wp2_with fail
    refine wp_region_below (by kernel_rfl) (by kernel_rfl) ?_
    repeat (go_big_quiet_step ((go_at_call 113; exact below_call (fun hbx => HA.out _ hbx))))
    refine wpQuiet_nil ?_
    intro wq hw'
    obtain ⟨⟨_, hbq⟩, hwq⟩ := hw'
    subst hwq
    (try dsimp only)
    obtain ⟨d0, d1, d2, d3, d4, d5, d6, d7, d8, l1, l2⟩ := HG.out _ hbq
    clear q0 q1 q2 q3 q4 q5 q6 p2 p3
    have HBQ := Lib.hid hbq
    have q0 := fun x : BelowBy wq => (kept_cell x.h _ _ l1).trans d0
    have q1 := fun x : BelowBy wq => (kept_cell x.h _ _ l1).trans d1
    have q2 := fun x : BelowBy wq => (kept_cell x.h _ _ l1).trans d2
    have q3 := fun x : BelowBy wq => (kept_cell x.h _ _ l1).trans d3
    have q4 := fun x : BelowBy wq => (kept_cell x.h _ _ l1).trans d4
    have q5 := fun x : BelowBy wq => (kept_cell x.h _ _ l1).trans d5
    have q6 := fun x : BelowBy wq => (kept_cell x.h _ _ l1).trans d6
    have p2 := fun x : BelowBy wq => (kept_cell x.h _ _ l2).trans d7
    have p3 := fun x : BelowBy wq => (kept_cell x.h _ _ l2).trans d8
    clear d0 d1 d2 d3 d4 d5 d6 d7 d8 hbq
    go_wp2_with fail
    refine wp_region_below (by kernel_rfl) (by kernel_rfl) ?_
    repeat (go_big_quiet_step ((go_at_call 113; exact below_call (fun hbx => HB.out _ (kept_trans HBQ.out hbx)))))
    refine wpQuiet_nil ?_
    intro wq hw'
    obtain ⟨⟨_, hbq⟩, hwq⟩ := hw'
    subst hwq
    (try dsimp only)
    go_wp2
    go_ret2
    exact ⟨by simp, kept_trans HBQ.out hbq⟩

theorem load9_bd {k : Cr} {l : Lf} (hc : craneB k = true) : -1 ≤ load9 k l ∧ load9 k l ≤ 50000 := by
  have h1 := place9_lo (u := l.fx) (v := l.fy) hc
  have h2 := place9_lo (u := l.tx) (v := l.ty) hc
  unfold load9
  omega

set_option maxHeartbeats 2000000 in
theorem specMargin_any (k : Cr) (l : Lf) (c d : Value) (w : World) (hr : RdP w c k.ch) (hd : RdI w d l.af) (hk : k.nm.size ≤ 1000000) (hl : l.nm.size ≤ 1000000) :
    Calls Try.prog 29 #[.agg #[.string k.nm, .int .i64 k.x, .int .i64 k.y, .int .i64 k.h, .int .i64 k.j, .int .i64 k.b, c], .agg #[.string l.nm, .int .i64 l.wt, .int .i64 l.fx, .int .i64 l.fy, .int .i64 l.tx, .int .i64 l.ty, .int .i64 l.h, .int .i64 l.dl, d]] w fun e w' => e = .returned (.tuple #[.int .i64 (margin9 k l).1, .int .i64 (margin9 k l).2]) ∧ Below w.heap.size w w' := by
  have HC := Lib.hid (fun b1 b2 u (q1 : CrAt u b1 0 k c) (q2 : LfAt u b2 0 l d) => specCode9_any b1 b2 k l c d u q1 q2 hk hl)
  have HL := Lib.hid (fun b1 b2 u (q1 : CrAt u b1 0 k c) (q2 : LfAt u b2 0 l d) (hc : craneB k = true) (hf : fldB l = true) => specLoad9_any b1 0 b2 0 k l c d u q1 q2 hc hf)
  obtain ⟨A, cp, rfl, _, _⟩ := RdP_slice hr
  obtain ⟨A2, cp2, rfl, _, _⟩ := RdI_slice hd
  have HR := Lib.hid hr; have HD := Lib.hid hd; clear hr hd
  unfold margin9
  cases p : craneB k && fldB l
  · rw [p] at HC
    simp only [Bool.false_eq_true, if_false] at HC ⊢
    clear p HL
    obtain ⟨s, x, y, hh, j, b, zs⟩ := k
    obtain ⟨ls, i1, i2, i3, i4, i5, i6, i7, us⟩ := l
    dsimp only at *
    go_enter Try.func29, Try.ntmps29
    go_wp2_with fail
    refine (HC.out _ _ _ (CrAt_kept (CrAt_box s x y hh j b zs _ w 56 HR.out) (by go_grown)) (by have := LfAt_box ls i1 i2 i3 i4 i5 i6 i7 us _ (w.alloc (.cells #[.string s, .int .i64 x, .int .i64 y, .int .i64 hh, .int .i64 j, .int .i64 b, .slice A zs.length cp] 56)) 36 (RdI_kept HD.out (by go_grown)); simpa using this)).mono ?_
    rintro e w1 ⟨rfl, hb1⟩
    have b1 := kept_trans (a := w) (by go_grown) hb1
    go_wp2
    go_ret2
    exact ⟨rfl, b1⟩
  · rw [p] at HC
    simp only [if_true] at HC ⊢
    obtain ⟨p1, p2⟩ := Bool.and_eq_true_iff.mp p
    have HLX := Lib.hid (fun b1 b2 u q1 q2 => HL.out b1 b2 u q1 q2 p1 p2)
    have hbd := load9_bd (l := l) p1
    have hw := (fldB_true p2).1
    clear p p1 p2 HL
    generalize load9 k l = X at *
    by_cases h0 : X < 0
    all_goals
      simp only [h0, if_true, if_false]
      obtain ⟨s, x, y, hh, j, b, zs⟩ := k
      obtain ⟨ls, i1, i2, i3, i4, i5, i6, i7, us⟩ := l
      dsimp only at *
      go_enter Try.func29, Try.ntmps29
      go_wp2_with fail
      refine (HC.out _ _ _ (CrAt_kept (CrAt_box s x y hh j b zs _ w 56 HR.out) (by go_grown)) (by have := LfAt_box ls i1 i2 i3 i4 i5 i6 i7 us _ (w.alloc (.cells #[.string s, .int .i64 x, .int .i64 y, .int .i64 hh, .int .i64 j, .int .i64 b, .slice A zs.length cp] 56)) 36 (RdI_kept HD.out (by go_grown)); simpa using this)).mono ?_
      rintro e w1 ⟨rfl, hb1⟩
      refine kept_at hb1 w.heap.size (by go_size) fun c1_0 z1_0 s1_0 => ?_
      refine kept_at hb1 (w.heap.size + 1) (by go_size) fun c1_1 z1_1 s1_1 => ?_
      have K1 := Lib.hid (CrAt_kept (CrAt_kept (CrAt_box s x y hh j b zs _ w 56 HR.out) (by go_grown : Below _ _ ((w.alloc (.cells #[.string s, .int .i64 x, .int .i64 y, .int .i64 hh, .int .i64 j, .int .i64 b, .slice A zs.length cp] 56)).alloc (.cells #[.string ls, .int .i64 i1, .int .i64 i2, .int .i64 i3, .int .i64 i4, .int .i64 i5, .int .i64 i6, .int .i64 i7, .slice A2 us.length cp2] 36)))) hb1)
      have K2 := Lib.hid (LfAt_kept (LfAt_box ls i1 i2 i3 i4 i5 i6 i7 us _ (w.alloc (.cells #[.string s, .int .i64 x, .int .i64 y, .int .i64 hh, .int .i64 j, .int .i64 b, .slice A zs.length cp] 56)) 36 (RdI_kept HD.out (by go_grown))) hb1)
      simp only [World.size_alloc] at K2
      have b1 := kept_trans (a := w) (by go_grown) hb1
      go_wp2_with fail
      refine (HLX.out _ _ _ K1.out K2.out).mono ?_
      rintro e w2 ⟨rfl, hb2⟩
      refine kept_at hb2 (w.heap.size + 1) (by go_size) fun c2_1 z2_1 s2_1 => ?_
      have b2 := kept_trans b1 hb2
      go_wp2
      go_ret2
      exact ⟨rfl, b2⟩

theorem implLiftLoad_any (l : Lf) (d : Value) (w : World) (hd : RdI w d l.af) :
    Calls Try.prog 97 #[.agg #[.string l.nm, .int .i64 l.wt, .int .i64 l.fx, .int .i64 l.fy, .int .i64 l.tx, .int .i64 l.ty, .int .i64 l.h, .int .i64 l.dl, d]] w fun e w' => ∃ lb, e = .returned (.func (.func 112) #[] #[.pointer (some ⟨lb, 0, none⟩)]) ∧ LfAt w' lb 0 l d ∧ Below w.heap.size w w' := by
  have hmf : ∀ (fn : Fn) (first cap : Array Value) (w : World), (Instr.makeFunc fn first cap).run Try.prog w = .ok (.func fn first cap) w := fun _ _ _ _ => rfl
  obtain ⟨A2, cp2, rfl, _, _⟩ := RdI_slice hd
  have HD := Lib.hid hd; clear hd
  obtain ⟨ls, i1, i2, i3, i4, i5, i6, i7, us⟩ := l
  dsimp only at *
  go_enter Try.func97, Try.ntmps97
  go_wp2
  go_ret
  exact ⟨_, rfl, LfAt_box ls i1 i2 i3 i4 i5 i6 i7 us _ w _ HD.out, by go_grown⟩

noncomputable def loadFor9 (k : Cr) (l : Lf) : Int × Int := if craneB k && fldB l then (if reach9 k l then (liftX k l, 0) else (0, 3)) else (0, 1)

set_option maxHeartbeats 2000000 in
theorem implLoadFor_any (k : Cr) (l : Lf) (c d : Value) (w : World) (hr : RdP w c k.ch) (hd : RdI w d l.af) (hk : k.nm.size ≤ 1000000) (hl : l.nm.size ≤ 1000000) :
    Calls Try.prog 69 #[.agg #[.string k.nm, .int .i64 k.x, .int .i64 k.y, .int .i64 k.h, .int .i64 k.j, .int .i64 k.b, c], .agg #[.string l.nm, .int .i64 l.wt, .int .i64 l.fx, .int .i64 l.fy, .int .i64 l.tx, .int .i64 l.ty, .int .i64 l.h, .int .i64 l.dl, d]] w fun e w' => e = .returned (.tuple #[.int .i64 (loadFor9 k l).1, .int .i64 (loadFor9 k l).2]) ∧ Below w.heap.size w w' := by
  have HC := Lib.hid (fun u (q : RdP u c k.ch) => implCrane_any k c u q hk)
  have HP := Lib.hid (fun u (q : RdI u d l.af) => implPlain_any l d u q hl)
  have HLL := Lib.hid (fun u (q : RdI u d l.af) => implLiftLoad_any l d u q)
  have HFN := Lib.hid (fun b lb u (q1 : CrAt u b 0 k c) (q2 : LfAt u lb 0 l d) (hc : craneB k = true) (hf : fldB l = true) => liftFn_any b 0 lb k l c d u q1 q2 hc hf hk)
  obtain ⟨A, cp, rfl, _, _⟩ := RdP_slice hr
  obtain ⟨A2, cp2, rfl, _, _⟩ := RdI_slice hd
  have HR := Lib.hid hr; have HD := Lib.hid hd; clear hr hd
  unfold loadFor9
  cases p1 : craneB k <;> rw [p1] at HC
  · simp only [Bool.false_and, Bool.false_eq_true, if_false]
    clear HFN HLL p1
    obtain ⟨s, x, y, hh, j, b, zs⟩ := k
    obtain ⟨ls, i1, i2, i3, i4, i5, i6, i7, us⟩ := l
    dsimp only at *
    go_enter Try.func69, Try.ntmps69
    go_wp2_with fail
    refine (HC.out _ (RdP_kept HR.out (by go_grown))).mono ?_
    rintro e w1 ⟨rfl, b1⟩
    replace b1 := kept_trans (a := w) (by go_grown) b1
    have l1 := kept_cell b1
    have zz1 := b1.size
    go_wp2
    go_ret2
    exact ⟨rfl, b1⟩
  cases p2 : fldB l <;> rw [p2] at HP
  · simp only [Bool.true_and, Bool.false_eq_true, if_false]
    clear HFN HLL p1 p2
    obtain ⟨s, x, y, hh, j, b, zs⟩ := k
    obtain ⟨ls, i1, i2, i3, i4, i5, i6, i7, us⟩ := l
    dsimp only at *
    go_enter Try.func69, Try.ntmps69
    go_wp2_with fail
    refine (HC.out _ (RdP_kept HR.out (by go_grown))).mono ?_
    rintro e w1 ⟨rfl, b1⟩
    refine kept_at b1 (w.heap.size + 1) (by go_size) fun c1_0 z1_0 s1_0 => ?_
    replace b1 := kept_trans (a := w) (by go_grown) b1
    have l1 := kept_cell b1
    have zz1 := b1.size
    go_wp2_with fail
    refine (HP.out _ (RdI_kept HD.out (by first | exact b1 | go_grown))).mono ?_
    rintro e w2 ⟨rfl, b2⟩
    replace b2 := kept_trans (a := w) (by go_grown) b2
    have l2 := kept_cell b2
    have zz2 := b2.size
    go_wp2
    go_ret2
    exact ⟨rfl, b2⟩
  · simp only [Bool.true_and, if_true]
    have HFX := Lib.hid (fun b lb u q1 q2 => HFN.out b lb u q1 q2 p1 p2)
    clear p1 p2 HFN
    generalize liftX k l = X at *
    cases hE : reach9 k l <;> rw [hE] at HFX
    all_goals
      clear hE
      simp only [Bool.false_eq_true, if_true, if_false]
      obtain ⟨s, x, y, hh, j, b, zs⟩ := k
      obtain ⟨ls, i1, i2, i3, i4, i5, i6, i7, us⟩ := l
      dsimp only at *
      have HKA := Lib.hid (fun (o : Obj) => CrAt_kept (CrAt_box s x y hh j b zs _ w 56 HR.out) ((Below.refl _ _).alloc (Nat.le_refl _) o))
      go_enter Try.func69, Try.ntmps69
      go_wp2_with fail
      refine (HC.out _ (RdP_kept HR.out (by go_grown))).mono ?_
      rintro e w1 ⟨rfl, hb1⟩
      have KA1 := Lib.hid (CrAt_kept (HKA.out _) hb1)
      refine kept_at hb1 (w.heap.size + 1) (by go_size) fun c1_1 z1_1 s1_1 => ?_
      have b1 := kept_trans (a := w) (by go_grown) hb1
      go_wp2_with fail
      refine (HP.out _ (RdI_kept HD.out b1)).mono ?_
      rintro e w2 ⟨rfl, hb2⟩
      have KA2 := Lib.hid (CrAt_kept KA1.out hb2)
      refine kept_at hb2 (w.heap.size + 1) (by go_size) fun c2_1 z2_1 s2_1 => ?_
      have b2 := kept_trans b1 hb2
      go_wp2_with fail
      refine (HLL.out _ (RdI_kept HD.out b2)).mono ?_
      rintro e w3 ⟨lb, rfl, hlb, hb3⟩
      have KA3 := Lib.hid (CrAt_kept KA2.out hb3)
      have b3 := kept_trans b2 hb3
      have HLB := Lib.hid hlb; clear hlb
      go_wp2_with fail
      refine (HFX.out _ lb _ KA3.out HLB.out).mono ?_
      rintro e w4 ⟨rfl, hb4⟩
      have b4 := kept_trans b3 hb4
      go_wp2
      go_ret2
      exact ⟨rfl, b4⟩

set_option maxHeartbeats 2000000 in
theorem implMargin_any (k : Cr) (l : Lf) (c d : Value) (w : World) (hr : RdP w c k.ch) (hd : RdI w d l.af) (hk : k.nm.size ≤ 1000000) (hl : l.nm.size ≤ 1000000) :
    Calls Try.prog 30 #[.agg #[.string k.nm, .int .i64 k.x, .int .i64 k.y, .int .i64 k.h, .int .i64 k.j, .int .i64 k.b, c], .agg #[.string l.nm, .int .i64 l.wt, .int .i64 l.fx, .int .i64 l.fy, .int .i64 l.tx, .int .i64 l.ty, .int .i64 l.h, .int .i64 l.dl, d]] w fun e w' => e = .returned (.tuple #[.int .i64 (margin9 k l).1, .int .i64 (margin9 k l).2]) ∧ Below w.heap.size w w' := by
  have HLF := Lib.hid (fun u (q1 : RdP u c k.ch) (q2 : RdI u d l.af) => implLoadFor_any k l c d u q1 q2 hk hl)
  obtain ⟨A, cp, rfl, _, _⟩ := RdP_slice hr
  obtain ⟨A2, cp2, rfl, _, _⟩ := RdI_slice hd
  have HR := Lib.hid hr; have HD := Lib.hid hd; clear hr hd
  have hcs : (∃ q, (q = 1 ∨ q = 3) ∧ loadFor9 k l = (0, q) ∧ margin9 k l = (0, q)) ∨ (loadFor9 k l = (load9 k l, 0) ∧ margin9 k l = (load9 k l - l.wt, 0) ∧ (-1 ≤ load9 k l ∧ load9 k l ≤ 50000) ∧ 1 ≤ l.wt ∧ l.wt ≤ 50000) := by
    unfold loadFor9 margin9
    cases p : craneB k && fldB l
    · exact Or.inl ⟨1, Or.inl rfl, rfl, rfl⟩
    · obtain ⟨p1, p2⟩ := Bool.and_eq_true_iff.mp p
      have h := reach9_load (l := l) p1
      cases r : reach9 k l
      · have := h.2 r
        exact Or.inl ⟨3, Or.inr rfl, rfl, by simp [this]⟩
      · have hx := h.1 r
        refine Or.inr ⟨by simp [hx.1], ?_, load9_bd p1, (fldB_true p2).1⟩
        simp only [if_true]
        rw [if_neg (by omega)]
  rcases hcs with ⟨q, hq, e1, e2⟩ | ⟨e1, e2, hb, hw⟩
  · rw [e1] at HLF
    rw [e2]
    clear e1 e2
    have hq0 : (q == 0) = false := by rcases hq with rfl | rfl <;> rfl
    obtain ⟨s, x, y, hh, j, b, zs⟩ := k
    obtain ⟨ls, i1, i2, i3, i4, i5, i6, i7, us⟩ := l
    dsimp only at *
    go_enter Try.func30, Try.ntmps30
    go_wp2_with fail
    refine (HLF.out _ (RdP_kept HR.out (by go_grown)) (RdI_kept HD.out (by go_grown))).mono ?_
    rintro e w1 ⟨rfl, b1⟩
    replace b1 := kept_trans (a := w) (by go_grown) b1
    have l1 := kept_cell b1
    have zz1 := b1.size
    go_wp2
    go_ret2
    exact ⟨rfl, b1⟩
  · rw [e1] at HLF
    rw [e2]
    clear e1 e2
    generalize load9 k l = X at *
    obtain ⟨s, x, y, hh, j, b, zs⟩ := k
    obtain ⟨ls, i1, i2, i3, i4, i5, i6, i7, us⟩ := l
    dsimp only at *
    go_enter Try.func30, Try.ntmps30
    go_wp2_with fail
    refine (HLF.out _ (RdP_kept HR.out (by go_grown)) (RdI_kept HD.out (by go_grown))).mono ?_
    rintro e w1 ⟨rfl, b1⟩
    refine kept_at b1 (w.heap.size + 1) (by go_size) fun c1_0 z1_0 s1_0 => ?_
    replace b1 := kept_trans (a := w) (by go_grown) b1
    have l1 := kept_cell b1
    have zz1 := b1.size
    go_wp2
    go_ret2
    exact ⟨rfl, b1⟩

end Go.Proofs.Ytnflaeimiegepaa
