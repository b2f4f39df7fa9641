/- Proved: for every input the law FnPlaces returns true, and each argument reads afterwards as it read before; no condition beside those of the given row. -/
import Derived.Test.YtjddpbpambnlgaaRows
import Derived.WalkKit
import Derived.ProofKit
import Derived.OpenShut
import Derived.Lib.Hide
import Derived.Handy
import Derived.BigQuiet
import Derived.Carry
import Derived.ChangeSlices
import Derived.Deep.Draws
import Derived.Deep.QuietTactic
import Derived.Deep.RegionHeld3
import Derived.Lib.SmallJoins
import Derived.ChangeMaps5
namespace Go.Proofs.Ytjddpbpambnlgaa
open Go.ChangeShapes Go.WideShapes Go.ChangeAt Go.RowKit
set_option linter.unusedVariables false
set_option linter.unusedSimpArgs false

theorem tmod_pos (n k : Int) (h : 0 ≤ n) : n.tmod k = n % k := Int.tmod_eq_emod_of_nonneg h

theorem trodAll_stay {H : Type} {enc : TypeId × Value → H} {P : Program} (hl : laidOutB P = true) {W W' : World} (hb : Below W.heap.size W W') :
    ∀ (ts : List TypeId) (vs : List Value) (ds : List (DataW H)) (ps : List MemPlace), ts.all (fun t => P.readableRec t && decide (t < P.types.size)) = true →
      DataW.TrodAll enc P W 0 (fun _ => true) true ts vs ds ps → (∀ x ∈ ps, x.block < W.heap.size) →
      DataW.TrodAll enc P W' 0 (fun b => decide (b < W.heap.size)) true ts vs ds ps := by
  intro ts
  induction ts with
  | nil => intro vs ds ps _ h _; obtain ⟨rfl, rfl, rfl⟩ := trodAll_nil h; exact rfl
  | cons t ts ih =>
    intro vs ds ps hr h hlt
    simp only [List.all_cons, Bool.and_eq_true, decide_eq_true_eq] at hr
    obtain ⟨v, vs', d, ds', p, q, rfl, rfl, rfl, h0, h1⟩ := trodAll_cons h
    exact ⟨p, q, Below.trod hl hr.1.1 hr.1.2 h0 hb (fun x hx => hlt x (by simp [hx])), ih _ _ _ hr.2 h1 (fun x hx => hlt x (by simp [hx])), rfl⟩

/-- A law's row at its end: it returned true, and of what was there nothing has turned. -/
theorem law_post {H : Type} {enc : TypeId × Value → H} {P : Program} {f : Func} {s : ChangeSpec} {W W' : World} {args : Array Value} {ds gs : List (DataW H)} {before : List MemPlace} {B : TypeId}
    (hl : laidOutB P = true) (hr : f.params.toList.all (fun t => P.readableRec t && decide (t < P.types.size)) = true)
    (hres : f.resultTypes = #[B]) (hB : P.underlying B = some .bool) (hv : s.vars = [])
    (hW : DataW.Whole enc P f.params.toList s.vars false W args.toList ds gs before)
    (hfn : s.fn H (ds ++ gs) = { results := [.lit (.bool true)], args := ds }) (hb : Below W.heap.size W W') :
    s.post enc P f false true false false W args (.bool true) W' := by
  have hlt : ∀ p ∈ before, p.block < W.heap.size := fun p hp => hW.lt p hp
  have hW' := hW
  obtain ⟨p, q, hA, hV, rfl, _, _⟩ := hW'
  rw [hv] at hV
  obtain ⟨rfl, rfl⟩ := trodVars_none hV
  refine ⟨ds, [], p ++ [], [], p, [], hW, ?_, ?_, ?_, hb.frame _, fun h => by cases h⟩
  · rw [hfn, hres]
    exact trodAll_cons_mk (shut_bool hB _) trodAll_mk0
  · rw [hfn]
    exact trodAll_stay hl hb _ _ _ _ hr hA (fun x hx => hlt x (by simp [hx]))
  · rw [hfn, hv]
    exact rfl

theorem kept_cell {W w1 : World} (hb : Below W.heap.size W w1) (b o : Nat) (h : b < W.heap.size) : w1.cell? ⟨b, o, none⟩ = W.cell? ⟨b, o, none⟩ := hb.cell (p := ⟨b, o, none⟩) h

theorem kept_frozen {W w1 : World} (hb : Below W.heap.size W w1) (b o : Nat) (h : b < W.heap.size) : w1.frozen? ⟨b, o, none⟩ = W.frozen? ⟨b, o, none⟩ := hb.frozen (p := ⟨b, o, none⟩) h

theorem kept_trans {a b c : World} (h : Below a.heap.size a b) (k : Below b.heap.size b c) : Below a.heap.size a c := h.trans (k.mono h.size)

theorem kept_at {W w1 : World} (hb : Below W.heap.size W w1) (b : Nat) {G : Prop} (h : b < W.heap.size)
    (k : (∀ o, w1.cell? ⟨b, o, none⟩ = W.cell? ⟨b, o, none⟩) → (∀ o, w1.frozen? ⟨b, o, none⟩ = W.frozen? ⟨b, o, none⟩) → b < w1.heap.size → G) : G :=
  k (fun o => kept_cell hb b o h) (fun o => kept_frozen hb b o h) (Nat.lt_of_lt_of_le h hb.size)

theorem grown_step {a b c : World} {row : Option Nat} (h : a.grownBy b row) (k : b.grownBy c row) : a.grownBy c row :=
  ⟨k.os.trans h.os, k.tape.trans h.tape, k.output.trans h.output, Nat.le_trans h.size k.size, fun i hi hne => (k.block i (Nat.lt_of_lt_of_le hi h.size) hne).trans (h.block i hi hne)⟩

theorem grown_below {a b c : World} {row : Option Nat} (h : Below a.heap.size a b) (k : b.grownBy c row) (hr : ∀ g, row = some g → a.heap.size ≤ g) : Below a.heap.size a c := h.grown k h.size hr

def inB (n low high : Int) : Bool := decide (low ≤ n) && decide (n ≤ high)

theorem inB_true {n a b : Int} (h : inB n a b = true) : a ≤ n ∧ n ≤ b := by simpa [inB] using h

def okP (x y : Int) : Bool := inB x (-10000) 10000 && inB y (-10000) 10000

theorem okP_true {x y : Int} (h : okP x y = true) : (-10000 ≤ x ∧ x ≤ 10000) ∧ -10000 ≤ y ∧ y ≤ 10000 := by
  simp only [okP, Bool.and_eq_true] at h
  exact ⟨inB_true h.1, inB_true h.2⟩

theorem validPlace_any (x y : Int) (w : World) :
    Calls Try.prog 29 #[.agg #[.int .i64 x, .int .i64 y]] w fun e w' => e = .returned (.bool (okP x y)) ∧ Below w.heap.size w w' := by
  unfold okP inB
  rcases (show ¬ -10000 ≤ x ∨ (-10000 ≤ x ∧ ¬ x ≤ 10000) ∨ (-10000 ≤ x ∧ x ≤ 10000 ∧ ¬ -10000 ≤ y) ∨ (-10000 ≤ x ∧ x ≤ 10000 ∧ -10000 ≤ y ∧ ¬ y ≤ 10000) ∨ (-10000 ≤ x ∧ x ≤ 10000 ∧ -10000 ≤ y ∧ y ≤ 10000) from by omega) with h1 | ⟨h1, h2⟩ | ⟨h1, h2, h3⟩ | ⟨h1, h2, h3, h4⟩ | ⟨h1, h2, h3, h4⟩
  all_goals
    go_enter Try.func29, Try.ntmps29
    go_wp2
    go_ret
    exact ⟨by simp [*] <;> omega, by go_grown⟩

theorem minus_any (x y u v : Int) (h1 : -20000 ≤ x ∧ x ≤ 20000) (h2 : -20000 ≤ y ∧ y ≤ 20000) (h3 : -20000 ≤ u ∧ u ≤ 20000) (h4 : -20000 ≤ v ∧ v ≤ 20000) (w : World) :
    Calls Try.prog 30 #[.agg #[.int .i64 x, .int .i64 y], .agg #[.int .i64 u, .int .i64 v]] w fun e w' => e = .returned (.agg #[.int .i64 (x - u), .int .i64 (y - v)]) ∧ Below w.heap.size w w' := by
  go_enter Try.func30, Try.ntmps30
  go_wp2
  go_returns
  exact ⟨rfl, by go_grown⟩

theorem scalar_any (x y u v : Int) (w : World) :
    Calls Try.prog 31 #[.agg #[.int .i64 x, .int .i64 y], .agg #[.int .i64 u, .int .i64 v]] w fun e w' => e = .returned (.int .i64 (wrap64 (wrap64 (x * u) + wrap64 (y * v)))) ∧ Below w.heap.size w w' := by
  go_enter Try.func31, Try.ntmps31
  go_wp2
  go_returns
  exact ⟨rfl, by go_grown⟩

theorem sq_bd (a k : Int) (h1 : -k ≤ a) (h2 : a ≤ k) : 0 ≤ a * a ∧ a * a ≤ k * k := by
  refine ⟨by rcases Int.le_total 0 a with h | h; exact Int.mul_nonneg h h; exact Int.mul_nonneg_of_nonpos_of_nonpos h h, ?_⟩
  rcases Int.le_total 0 a with h | h
  · exact Int.mul_le_mul h2 h2 h (by omega)
  · have := Int.mul_le_mul (show -a ≤ k by omega) (show -a ≤ k by omega) (by omega) (by omega)
    rwa [Int.neg_mul_neg] at this

def sqL (x y u v : Int) : Int × Int := if okP x y && okP u v then ((u - x) * (u - x) + (v - y) * (v - y), 0) else (0, 1)

theorem sq_sym (a b : Int) : (a - b) * (a - b) = (b - a) * (b - a) := by
  rw [show a - b = -(b - a) by omega, Int.neg_mul_neg]

theorem sq_wrap (a b : Int) (h1 : -20000 ≤ a ∧ a ≤ 20000) (h2 : -20000 ≤ b ∧ b ≤ 20000) : wrap64 (wrap64 (a * a) + wrap64 (b * b)) = a * a + b * b := by
  have p := sq_bd a 20000 h1.1 h1.2
  have q := sq_bd b 20000 h2.1 h2.2
  rw [IntWalk.wrap64_in (a * a) (by omega), IntWalk.wrap64_in (b * b) (by omega), IntWalk.wrap64_in _ (by omega)]

theorem implSquare_any (x y u v : Int) (w : World) :
    Calls Try.prog 11 #[.agg #[.int .i64 x, .int .i64 y], .agg #[.int .i64 u, .int .i64 v]] w fun e w' => e = .returned (.tuple #[.int .i64 (sqL x y u v).1, .int .i64 (sqL x y u v).2]) ∧ Below w.heap.size w w' := by
  cases h1 : okP x y <;> cases h2 : okP u v
  case true.true =>
    have g1 := okP_true h1
    have g2 := okP_true h2
    have E := sq_wrap (u - x) (v - y) (by omega) (by omega)
    have F : sqL x y u v = (wrap64 (wrap64 ((u - x) * (u - x)) + wrap64 ((v - y) * (v - y))), 0) := by rw [E]; simp [sqL, *]
    rw [F]
    clear E F
    go_enter Try.func11, Try.ntmps11
    go_wp2_with (first | (go_at_call 29; refine (validPlace_any _ _ _).mono ?_; rintro e w1 ⟨rfl, hb⟩; have hs := hb.size; (try simp at hs); (try (refine kept_at hb (w.heap.size) ?_ (fun hc0 hz0 hs0 => ?_); focus go_size)); (try (refine kept_at hb (w.heap.size + 1) ?_ (fun hc1 hz1 hs1 => ?_); focus go_size)); (try (refine kept_at hb (w.heap.size + 2) ?_ (fun hc2 hz2 hs2 => ?_); focus go_size)); (try (refine kept_at hb (w.heap.size + 3) ?_ (fun hc3 hz3 hs3 => ?_); focus go_size)); (try (refine kept_at hb (w.heap.size + 4) ?_ (fun hc4 hz4 hs4 => ?_); focus go_size)); (try (refine kept_at hb (w.heap.size + 5) ?_ (fun hc5 hz5 hs5 => ?_); focus go_size)); replace hb := kept_trans (a := w) (by go_grown) hb; have hcl := kept_cell hb; have hzl := kept_frozen hb) | (go_at_call 30; refine (minus_any _ _ _ _ (by omega) (by omega) (by omega) (by omega) _).mono ?_; rintro e w1 ⟨rfl, hb⟩; have hs := hb.size; (try simp at hs); (try (refine kept_at hb (w.heap.size) ?_ (fun hc0 hz0 hs0 => ?_); focus go_size)); (try (refine kept_at hb (w.heap.size + 1) ?_ (fun hc1 hz1 hs1 => ?_); focus go_size)); (try (refine kept_at hb (w.heap.size + 2) ?_ (fun hc2 hz2 hs2 => ?_); focus go_size)); (try (refine kept_at hb (w.heap.size + 3) ?_ (fun hc3 hz3 hs3 => ?_); focus go_size)); (try (refine kept_at hb (w.heap.size + 4) ?_ (fun hc4 hz4 hs4 => ?_); focus go_size)); (try (refine kept_at hb (w.heap.size + 5) ?_ (fun hc5 hz5 hs5 => ?_); focus go_size)); replace hb := kept_trans (a := w) (by go_grown) hb; have hcl := kept_cell hb; have hzl := kept_frozen hb) | (go_at_call 31; refine (scalar_any _ _ _ _ _).mono ?_; rintro e w1 ⟨rfl, hb⟩; have hs := hb.size; (try simp at hs); (try (refine kept_at hb (w.heap.size) ?_ (fun hc0 hz0 hs0 => ?_); focus go_size)); (try (refine kept_at hb (w.heap.size + 1) ?_ (fun hc1 hz1 hs1 => ?_); focus go_size)); (try (refine kept_at hb (w.heap.size + 2) ?_ (fun hc2 hz2 hs2 => ?_); focus go_size)); (try (refine kept_at hb (w.heap.size + 3) ?_ (fun hc3 hz3 hs3 => ?_); focus go_size)); (try (refine kept_at hb (w.heap.size + 4) ?_ (fun hc4 hz4 hs4 => ?_); focus go_size)); (try (refine kept_at hb (w.heap.size + 5) ?_ (fun hc5 hz5 hs5 => ?_); focus go_size)); replace hb := kept_trans (a := w) (by go_grown) hb; have hcl := kept_cell hb; have hzl := kept_frozen hb))
    go_ret2
    exact ⟨rfl, by go_grown⟩
  all_goals
    rw [show sqL x y u v = (0, 1) by simp [sqL, *]]
    go_enter Try.func11, Try.ntmps11
    go_wp2_with (go_at_call 29; refine (validPlace_any _ _ _).mono ?_; rintro e w1 ⟨rfl, hb⟩; have hs := hb.size; (try simp at hs); (try (refine kept_at hb (w.heap.size) ?_ (fun hc0 hz0 hs0 => ?_); focus go_size)); (try (refine kept_at hb (w.heap.size + 1) ?_ (fun hc1 hz1 hs1 => ?_); focus go_size)); (try (refine kept_at hb (w.heap.size + 2) ?_ (fun hc2 hz2 hs2 => ?_); focus go_size)); (try (refine kept_at hb (w.heap.size + 3) ?_ (fun hc3 hz3 hs3 => ?_); focus go_size)); (try (refine kept_at hb (w.heap.size + 4) ?_ (fun hc4 hz4 hs4 => ?_); focus go_size)); (try (refine kept_at hb (w.heap.size + 5) ?_ (fun hc5 hz5 hs5 => ?_); focus go_size)); replace hb := kept_trans (a := w) (by go_grown) hb; have hcl := kept_cell hb; have hzl := kept_frozen hb)
    go_ret2
    exact ⟨rfl, by go_grown⟩

def IsRoot (n r : Int) : Prop := 0 ≤ r ∧ n ≤ r * r ∧ ∀ q, 0 ≤ q → q < r → q * q < n

open Classical in
noncomputable def rootL (n : Int) : Int := if h : ∃ r, IsRoot n r then Classical.choose h else 0

theorem rootL_eq {n r : Int} (h : IsRoot n r) : rootL n = r := by
  have hex : ∃ r, IsRoot n r := ⟨r, h⟩
  unfold rootL
  rw [dif_pos hex]
  obtain ⟨a1, a2, a3⟩ := Classical.choose_spec hex
  obtain ⟨b1, b2, b3⟩ := h
  rcases Int.lt_trichotomy (Classical.choose hex) r with h | h | h
  · have := b3 _ a1 h; omega
  · exact h
  · have := a3 _ b1 h; omega

theorem sq_lt {q m n : Int} (h0 : 0 ≤ q) (h1 : q ≤ m) (h2 : m * m < n) : q * q < n := by
  have := Int.mul_le_mul h1 h1 h0 (by omega)
  omega

theorem closure_any (i n : Int) (b : Nat) (w : World) (h0 : 0 ≤ i) (h1 : i ≤ 1000000) (hc : w.cell? ⟨b, 0, none⟩ = some (.int .i64 n)) :
    Calls Try.prog 33 #[.int .i64 i, .pointer (some ⟨b, 0, none⟩)] w fun e w' => e = .returned (.bool (decide (n ≤ i * i))) ∧ w = w' := by
  have hs := sq_bd i 1000000 (by omega) h1
  go_enter Try.func33, Try.ntmps33
  go_wp2
  go_ret
  exact ⟨by simp [IntWalk.wrap64_in (i * i) (by omega)], rfl⟩

theorem search_any (n : Int) (b : Nat) (w : World) (h0 : 0 ≤ n) (h1 : n ≤ 1000000000000) (hc : w.cell? ⟨b, 0, none⟩ = some (.int .i64 n)) :
    Calls Try.prog 32 #[.int .i64 1000000, .func (Fn.func 33) #[] #[.pointer (some ⟨b, 0, none⟩)]] w fun e w' => e = .returned (.int .i64 (rootL n)) ∧ w = w' := by
  go_enter Try.func32, Try.ntmps32
  go_wp2_with fail
  go_loop [5, 6] (fun i j => ∃ lo hi : Int, 0 ≤ lo ∧ lo ≤ hi ∧ hi ≤ 1000000 ∧ i = .int .i64 lo ∧ j = .int .i64 hi ∧ (∀ q, 0 ≤ q → q < lo → q * q < n) ∧ n ≤ hi * hi) (fun i j => (intOf j - intOf i).toNat)
  case atStart => exact ⟨0, 1000000, by omega, by omega, by omega, rfl, rfl, fun q h1 h2 => by omega, by omega⟩
  case round =>
    obtain ⟨lo, hi, h2, h3, h4, rfl, rfl, h5, h6⟩ := hrel
    have H5 := Lib.hid h5; clear h5
    by_cases hlt : lo < hi
    · have g1 : lo ≤ (lo + hi) / 2 := by omega
      have g2 : (lo + hi) / 2 < hi := by omega
      cases hp : decide (n ≤ (lo + hi) / 2 * ((lo + hi) / 2))
      all_goals
        have hp' : Hid (_ = _) := hp
        go_wp2_with (go_at_call 33; refine (closure_any _ n _ _ (by omega) (by omega) hc).mono ?_; rintro e w' ⟨rfl, rfl⟩)
        go_round
        case rel => first
          | exact ⟨(lo + hi) / 2 + 1, hi, by omega, by omega, h4, rfl, rfl, fun q a c => sq_lt a (by omega) (Int.not_le.mp (of_decide_eq_false hp)), h6⟩
          | exact ⟨lo, (lo + hi) / 2, h2, g1, by omega, rfl, rfl, H5.out, of_decide_eq_true hp⟩
        case measure => simp [intOf]; omega
    · have : lo = hi := by omega
      subst this
      have e := rootL_eq (n := n) ⟨h2, h6, H5.out⟩
      go_wp2
      go_ret
      exact ⟨by simp [e], rfl⟩

theorem implRootUp_any (n : Int) (w : World) :
    Calls Try.prog 13 #[.int .i64 n] w fun e w' => e = .returned (.tuple #[.int .i64 (if inB n 0 1000000000000 then rootL n else 0), .int .i64 (if inB n 0 1000000000000 then 0 else 2)]) ∧ Below w.heap.size w w' := by
  by_cases h0 : 0 ≤ n
  · by_cases h1 : n ≤ 1000000000000
    · rw [show inB n 0 1000000000000 = true by simp [inB, *]]
      go_enter Try.func13, Try.ntmps13
      go_wp2_with (go_at_call 32; refine (search_any n _ _ h0 h1 (by simp)).mono ?_; rintro e w1 ⟨rfl, rfl⟩)
      go_ret2
      exact ⟨rfl, by go_grown⟩
    · rw [show inB n 0 1000000000000 = false by simp [inB, *]]
      go_enter Try.func13, Try.ntmps13
      go_wp2
      go_ret2
      exact ⟨rfl, by go_grown⟩
  · rw [show inB n 0 1000000000000 = false by simp [inB, *]]
    go_enter Try.func13, Try.ntmps13
    go_wp2
    go_ret2
    exact ⟨rfl, by go_grown⟩

noncomputable def radL (x y u v : Int) : Int × Int := if okP x y && okP u v then (rootL ((u - x) * (u - x) + (v - y) * (v - y)), 0) else (0, 1)

theorem implRadius_any (x y u v : Int) (w : World) :
    Calls Try.prog 12 #[.agg #[.int .i64 x, .int .i64 y], .agg #[.int .i64 u, .int .i64 v]] w fun e w' => e = .returned (.tuple #[.int .i64 (radL x y u v).1, .int .i64 (radL x y u v).2]) ∧ Below w.heap.size w w' := by
  cases h : okP x y && okP u v
  · have E : sqL x y u v = (0, 1) := by simp [sqL, h]
    rw [show radL x y u v = (0, 1) by simp [radL, h]]
    have hQ := fun W => E ▸ implSquare_any x y u v W
    clear E
    go_enter Try.func12, Try.ntmps12
    go_wp2_with (go_at_call 11; refine (hQ _).mono ?_; rintro e w1 ⟨rfl, hb⟩; have hs := hb.size; (try simp at hs); (try (refine kept_at hb (w.heap.size) ?_ (fun hc0 hz0 hs0 => ?_); focus go_size)); (try (refine kept_at hb (w.heap.size + 1) ?_ (fun hc1 hz1 hs1 => ?_); focus go_size)); (try (refine kept_at hb (w.heap.size + 2) ?_ (fun hc2 hz2 hs2 => ?_); focus go_size)); (try (refine kept_at hb (w.heap.size + 3) ?_ (fun hc3 hz3 hs3 => ?_); focus go_size)); (try (refine kept_at hb (w.heap.size + 4) ?_ (fun hc4 hz4 hs4 => ?_); focus go_size)); (try (refine kept_at hb (w.heap.size + 5) ?_ (fun hc5 hz5 hs5 => ?_); focus go_size)); replace hb := kept_trans (a := w) (by go_grown) hb; have hcl := kept_cell hb; have hzl := kept_frozen hb)
    go_ret2
    exact ⟨rfl, by go_grown⟩
  · obtain ⟨g1, g2⟩ := Bool.and_eq_true_iff.mp h
    have g1 := okP_true g1
    have g2 := okP_true g2
    have p := sq_bd (u - x) 20000 (by omega) (by omega)
    have q := sq_bd (v - y) 20000 (by omega) (by omega)
    generalize hN : (u - x) * (u - x) + (v - y) * (v - y) = N at *
    have E : sqL x y u v = (N, 0) := by simp [sqL, h, hN]
    rw [show radL x y u v = (rootL N, 0) by simp [radL, h, hN]]
    have hR : inB N 0 1000000000000 = true := by simp [inB]; omega
    have hQ := fun W => E ▸ implSquare_any x y u v W
    have hT := fun W => implRootUp_any N W
    simp only [hR, if_true] at hT
    clear E hN hR p q
    go_enter Try.func12, Try.ntmps12
    go_wp2_with (first | (go_at_call 11; refine (hQ _).mono ?_; rintro e w1 ⟨rfl, hb⟩; have hs := hb.size; (try simp at hs); (try (refine kept_at hb (w.heap.size) ?_ (fun hc0 hz0 hs0 => ?_); focus go_size)); (try (refine kept_at hb (w.heap.size + 1) ?_ (fun hc1 hz1 hs1 => ?_); focus go_size)); (try (refine kept_at hb (w.heap.size + 2) ?_ (fun hc2 hz2 hs2 => ?_); focus go_size)); (try (refine kept_at hb (w.heap.size + 3) ?_ (fun hc3 hz3 hs3 => ?_); focus go_size)); (try (refine kept_at hb (w.heap.size + 4) ?_ (fun hc4 hz4 hs4 => ?_); focus go_size)); (try (refine kept_at hb (w.heap.size + 5) ?_ (fun hc5 hz5 hs5 => ?_); focus go_size)); replace hb := kept_trans (a := w) (by go_grown) hb; have hcl := kept_cell hb; have hzl := kept_frozen hb) | (go_at_call 13; refine (hT _).mono ?_; rintro e w1 ⟨rfl, hb⟩; have hs := hb.size; (try simp at hs); (try (refine kept_at hb (w.heap.size) ?_ (fun hc0 hz0 hs0 => ?_); focus go_size)); (try (refine kept_at hb (w.heap.size + 1) ?_ (fun hc1 hz1 hs1 => ?_); focus go_size)); (try (refine kept_at hb (w.heap.size + 2) ?_ (fun hc2 hz2 hs2 => ?_); focus go_size)); (try (refine kept_at hb (w.heap.size + 3) ?_ (fun hc3 hz3 hs3 => ?_); focus go_size)); (try (refine kept_at hb (w.heap.size + 4) ?_ (fun hc4 hz4 hs4 => ?_); focus go_size)); (try (refine kept_at hb (w.heap.size + 5) ?_ (fun hc5 hz5 hs5 => ?_); focus go_size)); replace hb := kept_trans (a := w) (by go_grown) hb; have hcl := kept_cell hb; have hzl := kept_frozen hb))
    go_ret2
    exact ⟨rfl, by go_grown⟩

/-- The slice reads as bytes, none of them in block x. -/
def RdB (w : World) (A : Option Addr) (n x : Nat) : Prop := ∀ k, k < n → ∃ b off z, A = some ⟨b, off, none⟩ ∧ b < w.heap.size ∧ b ≠ x ∧ w.cell? ⟨b, off + k, none⟩ = some (.int .u8 z) ∧ 0 ≤ z ∧ z ≤ 255

/-- A source of choices in block b: its bytes, how far it has come, its seed. -/
def SrcAt (w : World) (b : Nat) (v : Value) (N : Nat) : Prop := ∃ seed : Int, 0 ≤ seed ∧ seed ≤ 18446744073709551615 ∧ w.heap[b]? = some (.cells #[v, .int .i64 N, .int .u64 seed] 65 (0, 0))

/-- What a step of the source comes to. -/
def NextR (b : Nat) (v : Value) (N : Nat) (lo hi : Int) (w : World) (e : Ending) (w' : World) : Prop := ∃ x : Int, lo ≤ x ∧ x ≤ hi ∧ e = .returned (.int .i64 x) ∧ SrcAt w' b v N ∧ w.grownBy w' (some b)

theorem wrap_u64_bd (x : Int) : 0 ≤ IntKind.u64.wrap x ∧ IntKind.u64.wrap x ≤ 18446744073709551615 := by
  rw [IntKind.wrap_u64]
  omega

theorem and255_bd (a : Int) (h0 : 0 ≤ a) (h1 : a ≤ 18446744073709551615) : 0 ≤ bits .and .u64 a 255 ∧ bits .and .u64 a 255 ≤ 255 := by
  rw [u64_and a 255 h0 (by omega) (by omega) (by omega)]
  have : a.toNat &&& (255 : Int).toNat ≤ (255 : Int).toNat := Nat.and_le_right
  have e : (255 : Int).toNat = 255 := rfl
  omega

theorem src_after {w : World} {b : Nat} {v i s : Value} (hb : w.heap[b]? = some (.cells #[v, i, s] 65 (0, 0))) (k1 k2 : Nat) (i' s' : Value) :
    ((((w.drewN k1).setCell ⟨b, 1, none⟩ i').setCell ⟨b, 2, none⟩ s').drewN k2).heap[b]? = some (.cells #[v, i', s'] 65 (0, 0)) ∧
    w.grownBy ((((w.drewN k1).setCell ⟨b, 1, none⟩ i').setCell ⟨b, 2, none⟩ s').drewN k2) (some b) := by
  have h0 : (w.drewN k1).heap[b]? = some (.cells #[v, i, s] 65 (0, 0)) := hb
  have h1 := heap_setCell_same (w.drewN k1) b 1 _ _ i' h0
  have h2 := heap_setCell_same _ b 2 _ _ s' h1
  refine ⟨h2, ⟨rfl, rfl, rfl, ?_, fun k hk hne => ?_⟩⟩
  · show w.heap.size ≤ ((((w.drewN k1).setCell ⟨b, 1, none⟩ i').setCell ⟨b, 2, none⟩ s')).heap.size
    simp [World.setCell]
  · have hne' : k ≠ b := fun e => hne (by rw [e])
    show ((((w.drewN k1).setCell ⟨b, 1, none⟩ i').setCell ⟨b, 2, none⟩ s')).heap[k]? = _
    rw [heap_setCell_other _ _ _ _ hne', heap_setCell_other _ _ _ _ hne']
    rfl

theorem next_any (b : Nat) (A : Option Addr) (n c N : Nat) (w : World) (hs : SrcAt w b (.slice A n c) N) (hr : RdB w A n b) (hN : N < 1000000000) (hn : n ≤ 1000000) :
    Calls Try.prog 52 #[.pointer (some ⟨b, 0, none⟩)] w (NextR b (.slice A n c) (N + 1) 0 255 w) := by
  obtain ⟨seed, s0, s1, hb⟩ := hs
  have c0 : w.cell? ⟨b, 0, none⟩ = some (.slice A n c) := by rw [cell_of_row w b 0 _ _ _ hb]; rfl
  have c1 : w.cell? ⟨b, 1, none⟩ = some (.int .i64 N) := by rw [cell_of_row w b 1 _ _ _ hb]; rfl
  have c2 : w.cell? ⟨b, 2, none⟩ = some (.int .u64 seed) := by rw [cell_of_row w b 2 _ _ _ hb]; rfl
  have f1 := frozen_of_row w b 1 _ _ hb
  have f2 := frozen_of_row w b 2 _ _ hb
  have HB := Lib.hid hb; clear hb
  by_cases hlt : N < n
  · obtain ⟨g, off, z, rfl, hg, hgb, hz, z0, z1⟩ := hr N hlt
    clear hr
    go_enter Try.func52, Try.ntmps52
    go_wp2_with fail
    go_quiet (fail)
    go_wp2_with fail
    go_quiet (fail)
    go_wp2_with fail
    go_quiet (fail)
    go_wp2
    go_ret
    have h := src_after HB.out
    exact ⟨z, z0, z1, rfl, ⟨_, (wrap_u64_bd _).1, (wrap_u64_bd _).2, (h _ _ _ _).1⟩, (h _ _ _ _).2⟩
  · clear hr
    go_enter Try.func52, Try.ntmps52
    go_wp2_with fail
    go_quiet (fail)
    go_wp2_with fail
    go_quiet (fail)
    have hw := wrap_u64_bd (IntKind.u64.wrap (IntKind.u64.wrap (seed * 6364136223846793005)) + 1442695040888963407)
    go_wp2
    go_ret
    have h := src_after HB.out
    generalize hS : IntKind.u64.wrap (IntKind.u64.wrap (IntKind.u64.wrap (seed * 6364136223846793005)) + 1442695040888963407) = S at *
    have ha := and255_bd (S / 1099511627776) (by omega) (by omega)
    refine ⟨bits .and .u64 (S / 1099511627776) 255, ha.1, ha.2, ?_, ⟨S, hw.1, hw.2, (h _ _ _ _).1⟩, (h _ _ _ _).2⟩
    show Ending.returned (Value.int IntKind.i64 (wrap64 _)) = _
    rw [IntWalk.wrap64_in _ (by omega)]

theorem RdB_kept {W w1 : World} {A : Option Addr} {n b : Nat} (h : RdB W A n b) (hg : W.grownBy w1 (some b)) : RdB w1 A n b := by
  intro k hk
  obtain ⟨g, off, z, e, hlt, hne, hc, z0, z1⟩ := h k hk
  exact ⟨g, off, z, e, Nat.lt_of_lt_of_le hlt hg.size, hne, hg.cell hc (fun e => hne (by injection e)), z0, z1⟩

theorem pick_any (b : Nat) (A : Option Addr) (n c N : Nat) (m : Int) (w : World) (hs : SrcAt w b (.slice A n c) N) (hr : RdB w A n b) (hN : N < 900000000) (hn : n ≤ 1000000) (hm1 : 200 < m) (hm2 : m ≤ 60000) :
    Calls Try.prog 51 #[.pointer (some ⟨b, 0, none⟩), .int .i64 m] w (NextR b (.slice A n c) (N + 2) 0 (m - 1) w) := by
  have HR := Lib.hid hr; clear hr
  have hgt : ¬ m ≤ 1 := by omega
  go_enter Try.func51, Try.ntmps51
  go_wp2_with fail
  refine (next_any b A n c N _ hs HR.out (by omega) hn).mono ?_
  rintro e w1 ⟨x, x0, x1, rfl, hs1, hg1⟩
  go_wp2_with fail
  refine (next_any b A n c (N + 1) _ hs1 (RdB_kept HR.out hg1) (by omega) hn).mono ?_
  rintro e w2 ⟨y, y0, y1, rfl, hs2, hg2⟩
  have hne : (m == 0) = false := by simp; omega
  have hrem : (x * 256 + y).tmod m = (x * 256 + y) % m := tmod_pos _ _ (by omega)
  have h0 := Int.emod_nonneg (x * 256 + y) (show m ≠ 0 by omega)
  have h1 := Int.emod_lt_of_pos (x * 256 + y) (show 0 < m by omega)
  have HREM := Lib.hid hrem; clear hrem
  go_wp2
  go_ret
  refine ⟨(x * 256 + y) % m, h0, by omega, ?_, hs2, grown_step hg1 hg2⟩
  first | rfl | (show Ending.returned _ = _; simp [HREM.out])

def DrawR (b : Nat) (v : Value) (N : Nat) (w : World) (e : Ending) (w' : World) : Prop :=
  ∃ x y : Int, (-600 ≤ x ∧ x ≤ 600) ∧ (-600 ≤ y ∧ y ≤ 600) ∧ e = .returned (.agg #[.int .i64 x, .int .i64 y]) ∧ SrcAt w' b v N ∧ w.grownBy w' (some b)

theorem draw_any (b : Nat) (A : Option Addr) (n c N : Nat) (w : World) (hs : SrcAt w b (.slice A n c) N) (hr : RdB w A n b) (hN : N < 800000000) (hn : n ≤ 1000000) (hb : b < w.heap.size) :
    Calls Try.prog 28 #[.pointer (some ⟨b, 0, none⟩)] w (DrawR b (.slice A n c) (N + 4) w) := by
  have HR := Lib.hid hr; clear hr
  go_enter Try.func28, Try.ntmps28
  go_wp2_with fail
  have hg0 : w.grownBy (w.alloc (.cells #[.int .i64 0, .int .i64 0] 25)) (some b) := World.grownBy_alloc _ _ _
  have hs0 : SrcAt (w.alloc (.cells #[.int .i64 0, .int .i64 0] 25)) b (.slice A n c) N := by
    obtain ⟨s, s0, s1, h⟩ := hs
    exact ⟨s, s0, s1, by rw [Below.heap_alloc _ _ _ hb]; exact h⟩
  refine (pick_any b A n c N 1201 _ hs0 (RdB_kept HR.out hg0) (by omega) hn (by omega) (by omega)).mono ?_
  rintro e w1 ⟨x, x0, x1, rfl, hs1, hg1⟩
  go_wp2_with fail
  refine (pick_any b A n c (N + 2) 1201 _ hs1 (RdB_kept (RdB_kept HR.out hg0) hg1) (by omega) hn (by omega) (by omega)).mono ?_
  rintro e w2 ⟨y, y0, y1, rfl, hs2, hg2⟩
  have hg3 := grown_step hg1 hg2
  have hblk : w2.heap[w.heap.size]? = some (.cells #[.int .i64 0, .int .i64 0] 25 (0, 0)) := by
    rw [hg3.block w.heap.size (by simp) (fun e => by injection e with e; omega)]
    exact heap_alloc_new w _
  have c0 := cell_of_row w2 w.heap.size 0 _ _ _ hblk
  have c1 := cell_of_row w2 w.heap.size 1 _ _ _ hblk
  have f0 := frozen_of_row w2 w.heap.size 0 _ _ hblk
  have f1 := frozen_of_row w2 w.heap.size 1 _ _ hblk
  simp at c0 c1
  have HB := Lib.hid hblk; clear hblk
  go_wp2
  refine bodyPost_ret (v := .agg #[.int .i64 (x - 600), .int .i64 (y - 600)]) (by simp [results, Try.results28, go_sem, c0, c1, f0, f1]) rfl ?_
  refine ⟨x - 600, y - 600, by omega, by omega, rfl, ?_, ?_⟩
  · obtain ⟨s, s0, s1, h⟩ := hs2
    refine ⟨s, s0, s1, ?_⟩
    rw [heap_setCell_other _ _ _ _ (show b ≠ w.heap.size by omega), heap_setCell_other _ _ _ _ (show b ≠ w.heap.size by omega)]
    exact h
  · have hg4 := grown_step hg0 hg3
    refine ⟨hg4.os, hg4.tape, hg4.output, by simp [World.setCell]; exact hg4.size, fun k hk hne => ?_⟩
    rw [heap_setCell_other _ _ _ _ (show k ≠ w.heap.size by omega), heap_setCell_other _ _ _ _ (show k ≠ w.heap.size by omega)]
    exact hg4.block k hk hne

/-- The slice reads as bytes. -/
def RdC (w : World) (A : Option Addr) (n : Nat) : Prop := ∀ k, k < n → ∃ b off z, A = some ⟨b, off, none⟩ ∧ b < w.heap.size ∧ w.cell? ⟨b, off + k, none⟩ = some (.int .u8 z) ∧ 0 ≤ z ∧ z ≤ 255

theorem RdC_B {w w1 : World} {A : Option Addr} {n x : Nat} (h : RdC w A n) (hb : Below w.heap.size w w1) (hx : w.heap.size ≤ x) : RdB w1 A n x := by
  intro k hk
  obtain ⟨b, off, z, e, hlt, hc, z0, z1⟩ := h k hk
  exact ⟨b, off, z, e, Nat.lt_of_lt_of_le hlt hb.size, by omega, by rw [kept_cell hb b _ hlt]; exact hc, z0, z1⟩

theorem from_any (v : Value) (w : World) (A : Option Addr) (n c : Nat) (hv : v = .slice A n c) :
    Calls Try.prog 27 #[v] w fun e w' => e = .returned (.pointer (some ⟨w.heap.size, 0, none⟩)) ∧ w.alloc (.cells #[v, .int .i64 0, .int .u64 0] 65) = w' := by
  subst hv
  go_enter Try.func27, Try.ntmps27
  go_wp2
  go_ret
  exact ⟨rfl, rfl⟩

theorem blk_grown {w w4 : World} {b B : Nat} {o : Obj} (h : w.heap[b]? = some o) (hg : w.grownBy w4 (some B)) (hne : b ≠ B) : w4.heap[b]? = some o := by
  have hlt : b < w.heap.size := by
    rcases Nat.lt_or_ge b w.heap.size with h' | h'
    · exact h'
    · rw [Array.getElem?_eq_none h'] at h; cases h
  rw [hg.block b hlt (fun e => hne (by injection e))]
  exact h

theorem blk_pair {w : World} {b : Nat} {p q : Value} {t : TypeId} (h : w.heap[b]? = some (.cells #[p, q] t (0, 0))) :
    w.cell? ⟨b, 0, none⟩ = some p ∧ w.cell? ⟨b, 1, none⟩ = some q ∧ w.frozen? ⟨b, 0, none⟩ = false ∧ w.frozen? ⟨b, 1, none⟩ = false :=
  ⟨by rw [cell_of_row w b 0 _ _ _ h]; rfl, by rw [cell_of_row w b 1 _ _ _ h]; rfl, frozen_of_row w b 0 _ _ h, frozen_of_row w b 1 _ _ h⟩

theorem undrew {w w1 : World} {row : Option Nat} (h : w.drew.grownBy w1 row) : w.grownBy w1 row := { os := h.os, tape := h.tape, output := h.output, size := h.size, block := h.block }

def PlacesR (w : World) (e : Ending) (w' : World) : Prop :=
  ∃ x1 y1 x2 y2 x3 y3 : Int, ((-600 ≤ x1 ∧ x1 ≤ 600) ∧ -600 ≤ y1 ∧ y1 ≤ 600) ∧ ((-600 ≤ x2 ∧ x2 ≤ 600) ∧ -600 ≤ y2 ∧ y2 ≤ 600) ∧ ((-600 ≤ x3 ∧ x3 ≤ 600) ∧ -600 ≤ y3 ∧ y3 ≤ 600) ∧
    e = .returned (.tuple #[.agg #[.int .i64 x1, .int .i64 y1], .agg #[.int .i64 x2, .int .i64 y2], .agg #[.int .i64 x3, .int .i64 y3]]) ∧ Below w.heap.size w w'

theorem places_any (A : Option Addr) (n c : Nat) (w : World) (hr : RdC w A n) (hn : n ≤ 1000000) :
    Calls Try.prog 10 #[.slice A n c] w (PlacesR w) := by
  have HR := Lib.hid hr; clear hr
  go_enter Try.func10, Try.ntmps10
  go_wp2_with fail
  refine (from_any _ _ A n c rfl).mono ?_
  rintro e w1 ⟨rfl, h1⟩
  simp only [World.size_alloc] at h1 ⊢
  have hb1 : Below w.heap.size w w1 := by rw [← h1]; go_grown
  have hs1 : SrcAt w1 (w.heap.size + 1 + 1 + 1) (.slice A n c) 0 := ⟨0, by omega, by omega, by
    rw [← h1]
    have := heap_alloc_new (((w.alloc (.cells #[.int .i64 0, .int .i64 0] 25)).alloc (.cells #[.int .i64 0, .int .i64 0] 25)).alloc (.cells #[.int .i64 0, .int .i64 0] 25)) (.cells #[.slice A n c, .int .i64 0, .int .u64 0] 65)
    simpa using this⟩
  have hz1 : w1.heap.size = w.heap.size + 1 + 1 + 1 + 1 := by rw [← h1]; simp
  have r0 : w1.heap[w.heap.size]? = some (.cells #[.int .i64 0, .int .i64 0] 25 (0, 0)) := by
    rw [← h1, Below.heap_alloc _ _ _ (by go_size), Below.heap_alloc _ _ _ (by go_size), Below.heap_alloc _ _ _ (by go_size)]
    exact heap_alloc_new w _
  have r1 : w1.heap[w.heap.size + 1]? = some (.cells #[.int .i64 0, .int .i64 0] 25 (0, 0)) := by
    rw [← h1, Below.heap_alloc _ _ _ (by go_size), Below.heap_alloc _ _ _ (by go_size)]
    have := heap_alloc_new (w.alloc (.cells #[.int .i64 0, .int .i64 0] 25)) (.cells #[.int .i64 0, .int .i64 0] 25)
    simpa using this
  have r2 : w1.heap[w.heap.size + 1 + 1]? = some (.cells #[.int .i64 0, .int .i64 0] 25 (0, 0)) := by
    rw [← h1, Below.heap_alloc _ _ _ (by go_size)]
    have := heap_alloc_new ((w.alloc (.cells #[.int .i64 0, .int .i64 0] 25)).alloc (.cells #[.int .i64 0, .int .i64 0] 25)) (.cells #[.int .i64 0, .int .i64 0] 25)
    simpa using this
  clear h1
  generalize hB : w.heap.size + 1 + 1 + 1 = B at *
  have HB := Lib.hid hB; clear hB
  have q1 := RdC_B HR.out hb1 (show w.heap.size ≤ B by have := HB.out; omega)
  have Q1 := Lib.hid q1; clear q1
  have H0 := Lib.hid r0; clear r0
  have H1 := Lib.hid r1; clear r1
  have H2 := Lib.hid r2; clear r2
  have HZ := Lib.hid hz1; clear hz1
  go_wp2_with fail
  refine (draw_any B A n c 0 _ hs1 Q1.out (by omega) hn (by have := HZ.out; omega)).mono ?_
  rintro e w2 ⟨x1, y1, hx1, hy1, rfl, hs2, hg2⟩
  have hz2 := hg2.size
  go_wp2_with fail
  have hs2' : SrcAt (w2.alloc (.cells #[.int .i64 x1, .int .i64 y1] 25)) B (.slice A n c) 4 := by
    obtain ⟨s, s0, s1, h⟩ := hs2
    exact ⟨s, s0, s1, by rw [Below.heap_alloc _ _ _ (by have := HZ.out; omega)]; exact h⟩
  have g2 := grown_step hg2 (World.grownBy_alloc w2 (.cells #[.int .i64 x1, .int .i64 y1] 25) (some B))
  refine (draw_any B A n c 4 _ hs2' (RdB_kept Q1.out g2) (by omega) hn (by simp; have := HZ.out; omega)).mono ?_
  rintro e w3 ⟨x2, y2, hx2, hy2, rfl, hs3, hg3⟩
  have hz3 := hg3.size
  simp at hz3
  go_wp2_with fail
  have hs3' : SrcAt (w3.alloc (.cells #[.int .i64 x2, .int .i64 y2] 25)) B (.slice A n c) 8 := by
    obtain ⟨s, s0, s1, h⟩ := hs3
    exact ⟨s, s0, s1, by rw [Below.heap_alloc _ _ _ (by have := HZ.out; omega)]; exact h⟩
  have g3 := grown_step g2 (grown_step hg3 (World.grownBy_alloc w3 (.cells #[.int .i64 x2, .int .i64 y2] 25) (some B)))
  have ba2 : (w2.alloc (.cells #[.int .i64 x1, .int .i64 y1] 25)).heap[w2.heap.size]? = some (.cells #[.int .i64 x1, .int .i64 y1] 25 (0, 0)) := heap_alloc_new _ _
  have ba := blk_grown ba2 (grown_step hg3 (World.grownBy_alloc w3 (.cells #[.int .i64 x2, .int .i64 y2] 25) (some B))) (by have := HZ.out; omega)
  have bb : (w3.alloc (.cells #[.int .i64 x2, .int .i64 y2] 25)).heap[w3.heap.size]? = some (.cells #[.int .i64 x2, .int .i64 y2] 25 (0, 0)) := heap_alloc_new _ _
  obtain ⟨a0, a1, _, _⟩ := blk_pair ba
  obtain ⟨a2, a3, _, _⟩ := blk_pair bb
  have lt0 : w.heap.size < w2.heap.size := by have := HB.out; have := HZ.out; omega
  have lt1 : w.heap.size + 1 < w2.heap.size := by have := HB.out; have := HZ.out; omega
  have lt2 : w.heap.size + 1 + 1 < w2.heap.size := by have := HB.out; have := HZ.out; omega
  have n0 : ¬ w.heap.size = w2.heap.size := by omega
  have n1 : ¬ w.heap.size + 1 = w2.heap.size := by omega
  have n2 : ¬ w.heap.size + 1 + 1 = w2.heap.size := by omega
  have n3 : ¬ w.heap.size = w3.heap.size := by omega
  have n4 : ¬ w.heap.size + 1 = w3.heap.size := by omega
  have n5 : ¬ w.heap.size + 1 + 1 = w3.heap.size := by omega
  have K0 := Lib.hid (blk_grown H0.out g3 (by have := HB.out; omega))
  have K1 := Lib.hid (blk_grown H1.out g3 (by have := HB.out; omega))
  have K2 := Lib.hid (blk_grown H2.out g3 (by have := HB.out; omega))
  have Q3 := Lib.hid (RdB_kept Q1.out g3)
  have S3 := Lib.hid hs3'; clear hs3'
  have BA := Lib.hid ba
  have BB := Lib.hid bb
  clear ba2 ba bb
  go_region_held3 (fun w' => w'.cell? ⟨w2.heap.size, 0, none⟩ = some (.int .i64 x1) ∧ w'.cell? ⟨w2.heap.size, 1, none⟩ = some (.int .i64 y1) ∧ w'.cell? ⟨w3.heap.size, 0, none⟩ = some (.int .i64 x2) ∧ w'.cell? ⟨w3.heap.size, 1, none⟩ = some (.int .i64 y2)) (go_keep)
    (first | (go_at_call 28; refine (draw_any B A n c 8 _ (by exact S3.out) (by exact Q3.out) (by omega) hn (by simp; have := HZ.out; omega)).mono ?_; rintro e w4 ⟨x3, y3, hx3, hy3, rfl, hs4, hg4⟩; have hz4 := hg4.size; simp at hz4; (first | (replace hg4 := undrew hg4) | skip); obtain ⟨c0, c1, f0, f1⟩ := blk_pair (blk_grown (w4 := w4) K0.out (by exact hg4) (by have := HB.out; omega)); obtain ⟨d0, d1, i0, i1⟩ := blk_pair (blk_grown (w4 := w4) K1.out (by exact hg4) (by have := HB.out; omega)); obtain ⟨m0, m1, j0, j1⟩ := blk_pair (blk_grown (w4 := w4) K2.out (by exact hg4) (by have := HB.out; omega)); obtain ⟨p0, p1, _, _⟩ := blk_pair (blk_grown (w4 := w4) BA.out (by exact hg4) (by have := HB.out; have := HZ.out; omega)); obtain ⟨q0, q1, _, _⟩ := blk_pair (blk_grown (w4 := w4) BB.out (by exact hg4) (by have := HB.out; have := HZ.out; omega))))
  have hbB : ∀ g, some B = some g → w.heap.size ≤ g := fun g e => by injection e with e; have := HB.out; omega
  have hf1 : Below w.heap.size w (w3.alloc (.cells #[.int .i64 x2, .int .i64 y2] 25)) := grown_below hb1 g3 hbB
  have hf2 : Below w.heap.size w w4 := grown_below hf1 (by exact hg4) hbB
  go_wp2
  refine bodyPost_ret (v := .tuple #[.agg #[.int .i64 x1, .int .i64 y1], .agg #[.int .i64 x2, .int .i64 y2], .agg #[.int .i64 x3, .int .i64 y3]]) (by simp [results, Try.results10, go_sem, c0, c1, f0, f1, d0, d1, i0, i1, m0, m1, j0, j1]) rfl ?_
  refine ⟨x1, y1, x2, y2, x3, y3, ⟨hx1, hy1⟩, ⟨hx2, hy2⟩, ⟨hx3, hy3⟩, rfl, ?_⟩
  exact (((((hf2.setCell (by simp) _).setCell (by simp) _).setCell (by simp) _).setCell (by simp) _).setCell (by simp; omega) _).setCell (by simp; omega) _

/-- A slice of bytes that came in, opened. -/
theorem open_bytes {H : Type} {enc : TypeId × Value → H} {P : Program} {W : World} {r : Reach} {b0 base : Nat} {sp : Nat → Bool} {held : Bool} {t e : TypeId} {v : Value} {d : DataW H} {p : List MemPlace}
    (ht : P.underlying t = some (.slice e)) (he : P.underlying e = some (.int .u8)) (hc : P.cellsOf e = 1) (hv : Value.okWide P W r b0 t v) (hd : DataW.Trod enc P W base sp held t v d p) :
    ∃ A n c, v = .slice A n c ∧ RdC W A n ∧ n ≤ maxLen := by
  obtain ⟨A, n, c, rfl⟩ := okWide_slice ht hv
  obtain ⟨fuel, hf⟩ := hd
  rcases open_ints ht he hc hf with ⟨hcs, _⟩ | ⟨a, l, cap, zs, hcs, _, hl, hm, hz, _, hcell, hwf⟩
  · simp [Value.cells] at hcs
    obtain ⟨rfl, rfl, rfl⟩ := hcs
    exact ⟨_, _, _, rfl, fun k hk => by omega, by omega⟩
  · simp [Value.cells] at hcs
    obtain ⟨rfl, rfl, rfl⟩ := hcs
    refine ⟨_, _, _, rfl, fun k hk => ?_, by omega⟩
    have hlen : n ≤ zs.length := by rw [hz]; split <;> omega
    obtain ⟨b, off, rfl, hc2⟩ := ints_at hcell (by omega)
    have hk2 := hc2 k (by omega)
    have hz2 := bounds_u8 (hwf (zs.getD k 0) (by simp [List.getD, show k < zs.length by omega]))
    exact ⟨b, off, zs.getD k 0, rfl, block_lt_of_cell hk2, hk2, hz2.1, hz2.2⟩

theorem exists_root (m : Nat) (n : Int) (h : n ≤ (m : Int) * m) : ∃ r, IsRoot n r := by
  induction m with
  | zero => exact ⟨0, by omega, by simpa using h, fun q h1 h2 => by omega⟩
  | succ m ih =>
    by_cases hc : n ≤ (m : Int) * m
    · exact ih hc
    · refine ⟨((m + 1 : Nat) : Int), by omega, h, fun q h1 h2 => ?_⟩
      exact sq_lt h1 (show q ≤ m by omega) (by omega)

theorem rootL_is (n : Int) (m : Nat) (h : n ≤ (m : Int) * m) : IsRoot n (rootL n) := by
  obtain ⟨r, hr⟩ := exists_root m n h
  rw [rootL_eq hr]
  exact hr

theorem rootL_le (n : Int) (m : Nat) (h : n ≤ (m : Int) * m) : 0 ≤ rootL n ∧ rootL n ≤ m := by
  have hr := rootL_is n m h
  refine ⟨hr.1, ?_⟩
  by_cases hc : rootL n ≤ m
  · exact hc
  · have := hr.2.2 m (by omega) (by omega)
    omega

theorem sq_nonneg' (a : Int) : 0 ≤ a * a := by
  rcases Int.le_total 0 a with h | h
  · exact Int.mul_nonneg h h
  · exact Int.mul_nonneg_of_nonpos_of_nonpos h h

theorem cauchy (a b c d r s : Int) (hr : 0 ≤ r) (hs : 0 ≤ s) (h1 : a * a + b * b ≤ r * r) (h2 : c * c + d * d ≤ s * s) : a * c + b * d ≤ r * s := by
  have hrs : 0 ≤ r * s := Int.mul_nonneg hr hs
  by_cases hneg : a * c + b * d ≤ 0
  · omega
  · by_cases hle : a * c + b * d ≤ r * s
    · exact hle
    · exfalso
      have e1 : (r * s) * (r * s) < (a * c + b * d) * (a * c + b * d) := by
        have := Int.mul_lt_mul_of_pos_left (show r * s < a * c + b * d by omega) (show 0 < a * c + b * d by omega)
        have h3 := Int.mul_le_mul_of_nonneg_right (show r * s ≤ a * c + b * d by omega) hrs
        omega
      have e2 : (a * a + b * b) * (c * c + d * d) ≤ (r * r) * (s * s) :=
        Int.mul_le_mul h1 h2 (by have := sq_nonneg' c; have := sq_nonneg' d; omega) (Int.mul_nonneg hr hr)
      have e3 : (a * a + b * b) * (c * c + d * d) = (a * c + b * d) * (a * c + b * d) + (a * d - b * c) * (a * d - b * c) := by grind
      have e4 : (r * s) * (r * s) = (r * r) * (s * s) := by grind
      have e5 := sq_nonneg' (a * d - b * c)
      omega

theorem triangle (a b c d r s t : Int) (hr : IsRoot (a * a + b * b) r) (hs : IsRoot (c * c + d * d) s) (ht : IsRoot ((a + c) * (a + c) + (b + d) * (b + d)) t) : t ≤ r + s := by
  by_cases hle : t ≤ r + s
  · exact hle
  · exfalso
    have h0 := hr.1
    have h1 := hs.1
    have h2 := ht.2.2 (r + s) (by omega) (by omega)
    have h3 := cauchy a b c d r s h0 h1 hr.2.1 hs.2.1
    have h4 := hr.2.1
    have h5 := hs.2.1
    have e1 : (r + s) * (r + s) = r * r + s * s + 2 * (r * s) := by grind
    have e2 : (a + c) * (a + c) + (b + d) * (b + d) = (a * a + b * b) + (c * c + d * d) + 2 * (a * c + b * d) := by grind
    omega

theorem okP_small {x y : Int} (hx : -600 ≤ x ∧ x ≤ 600) (hy : -600 ≤ y ∧ y ≤ 600) : okP x y = true := by
  simp [okP, inB]
  omega

theorem implRadius_ok (x y u v : Int) (h1 : okP x y = true) (h2 : okP u v = true) (w : World) :
    Calls Try.prog 12 #[.agg #[.int .i64 x, .int .i64 y], .agg #[.int .i64 u, .int .i64 v]] w fun e w' => e = .returned (.tuple #[.int .i64 (rootL ((u - x) * (u - x) + (v - y) * (v - y))), .int .i64 0]) ∧ Below w.heap.size w w' := by
  have h := implRadius_any x y u v w
  rw [show radL x y u v = (rootL ((u - x) * (u - x) + (v - y) * (v - y)), 0) by simp [radL, h1, h2]] at h
  exact h

theorem implSquare_ok (x y u v : Int) (h1 : okP x y = true) (h2 : okP u v = true) (w : World) :
    Calls Try.prog 11 #[.agg #[.int .i64 x, .int .i64 y], .agg #[.int .i64 u, .int .i64 v]] w fun e w' => e = .returned (.tuple #[.int .i64 ((u - x) * (u - x) + (v - y) * (v - y)), .int .i64 0]) ∧ Below w.heap.size w w' := by
  have h := implSquare_any x y u v w
  rw [show sqL x y u v = ((u - x) * (u - x) + (v - y) * (v - y), 0) by simp [sqL, h1, h2]] at h
  exact h

theorem implRootUp_ok (n : Int) (h0 : 0 ≤ n) (h1 : n ≤ 1000000000000) (w : World) :
    Calls Try.prog 13 #[.int .i64 n] w fun e w' => e = .returned (.tuple #[.int .i64 (rootL n), .int .i64 0]) ∧ Below w.heap.size w w' := by
  have h := implRootUp_any n w
  rw [show inB n 0 1000000000000 = true by simp [inB, *]] at h
  simpa using h

theorem sq_zero (a b : Int) : a * a + b * b = 0 ↔ a = 0 ∧ b = 0 := by
  constructor
  · intro h
    have h1 := sq_nonneg' a
    have h2 := sq_nonneg' b
    have g1 : a * a = 0 := by omega
    have g2 : b * b = 0 := by omega
    exact ⟨by rcases Int.mul_eq_zero.mp g1 with h | h <;> exact h, by rcases Int.mul_eq_zero.mp g2 with h | h <;> exact h⟩
  · rintro ⟨rfl, rfl⟩
    rfl

theorem long_no (A B : Option Addr) (n c m d : Nat) (hn : n ≤ 3000) (hm : m ≤ 3000) (w : World) :
    Calls Try.prog 9 #[.slice A n c, .slice B m d] w fun e w' => e = .returned (.bool false) ∧ w = w' := by
  have h1 : (n : Int) ≤ 3000 := by omega
  have h2 : (m : Int) ≤ 3000 := by omega
  go_enter Try.func9, Try.ntmps9
  go_wp2
  go_ret
  exact ⟨by simp <;> omega, rfl⟩

-- needs open_bytes
set_option maxHeartbeats 8000000 in
set_option maxRecDepth 100000 in
theorem walk_FnPlaces (A : Option Addr) (n c : Nat) (w : World) (hr : RdC w A n) (hn : n ≤ maxLen) :
    Calls Try.prog 3 #[.slice A n c] w fun e w' => e = .returned (.bool true) ∧ Below w.heap.size w w' := by
  unfold maxLen at hn
  have HR := Lib.hid hr; clear hr
  by_cases hl : n ≤ 3000
  · go_enter Try.func3, Try.ntmps3
    go_wp2_with fail
    refine (long_no _ _ _ _ _ _ hl (by omega) _).mono ?_
    rintro e w0 ⟨rfl, rfl⟩
    go_wp2_with fail
    refine (places_any A n c _ HR.out (by omega)).mono ?_
    rintro e w1 ⟨x1, y1, x2, y2, x3, y3, ⟨hx1, hy1⟩, ⟨hx2, hy2⟩, ⟨hx3, hy3⟩, rfl, b1⟩
    have z1 := b1.size
    have o1 := okP_small hx1 hy1
    have o2 := okP_small hx2 hy2
    have o3 := okP_small hx3 hy3
    have d1 := sq_bd (x2 - x1) 1200 (by omega) (by omega)
    have d2 := sq_bd (y2 - y1) 1200 (by omega) (by omega)
    have d3 := sq_bd (x3 - x2) 1200 (by omega) (by omega)
    have d4 := sq_bd (y3 - y2) 1200 (by omega) (by omega)
    have d5 := sq_bd (x3 - x1) 1200 (by omega) (by omega)
    have d6 := sq_bd (y3 - y1) 1200 (by omega) (by omega)
    have R1 := rootL_is ((x2 - x1) * (x2 - x1) + (y2 - y1) * (y2 - y1)) 2000 (by omega)
    have R2 := rootL_is ((x3 - x2) * (x3 - x2) + (y3 - y2) * (y3 - y2)) 2000 (by omega)
    have R3 := rootL_is ((x3 - x1) * (x3 - x1) + (y3 - y1) * (y3 - y1)) 2000 (by omega)
    have L1 := rootL_le ((x2 - x1) * (x2 - x1) + (y2 - y1) * (y2 - y1)) 2000 (by omega)
    have L2 := rootL_le ((x3 - x2) * (x3 - x2) + (y3 - y2) * (y3 - y2)) 2000 (by omega)
    have L3 := rootL_le ((x3 - x1) * (x3 - x1) + (y3 - y1) * (y3 - y1)) 2000 (by omega)
    simp only [Int.cast_ofNat_Int] at L1 L2 L3
    have hT := triangle (x2 - x1) (y2 - y1) (x3 - x2) (y3 - y2) _ _ _ R1 R2 (by rw [show x2 - x1 + (x3 - x2) = x3 - x1 by omega, show y2 - y1 + (y3 - y2) = y3 - y1 by omega]; exact R3)
    have hZ := sq_zero (x2 - x1) (y2 - y1)
    have C1 := implSquare_ok x1 y1 x2 y2 o1 o2
    have C2 := implSquare_ok x2 y2 x1 y1 o2 o1
    rw [sq_sym x1 x2, sq_sym y1 y2] at C2
    have C3 := implRadius_ok x1 y1 x2 y2 o1 o2
    have C4 := implRadius_ok x2 y2 x3 y3 o2 o3
    have C5 := implRadius_ok x1 y1 x3 y3 o1 o3
    have C6 := implRootUp_ok ((x2 - x1) * (x2 - x1) + (y2 - y1) * (y2 - y1)) (by omega) (by omega)
    have hP0 : 0 ≤ (x2 - x1) * (x2 - x1) + (y2 - y1) * (y2 - y1) ∧ (x2 - x1) * (x2 - x1) + (y2 - y1) * (y2 - y1) ≤ 3000000 := by omega
    generalize (x2 - x1) * (x2 - x1) + (y2 - y1) * (y2 - y1) = P at *
    generalize (x3 - x2) * (x3 - x2) + (y3 - y2) * (y3 - y2) = Q at *
    generalize (x3 - x1) * (x3 - x1) + (y3 - y1) * (y3 - y1) = R at *
    clear d1 d2 d3 d4 d5 d6
    have hS1 := R1.2.1
    have hS2 : (rootL P == 0) = true ∨ ((rootL P == 0) = false ∧ (rootL P - 1) * (rootL P - 1) < P) := by
      by_cases h0 : rootL P = 0
      · exact .inl (by simp [h0])
      · exact .inr ⟨by simp [h0], R1.2.2 _ (by omega) (by omega)⟩
    have bs := sq_bd (rootL P) 2000 (by omega) (by omega)
    have bs2 := sq_bd (rootL P - 1) 2000 (by omega) (by omega)
    generalize rootL P = r at *
    generalize rootL Q = s at *
    generalize rootL R = t at *
    clear R1 R2 R3
    have K1 := Lib.hid C1; clear C1
    have K2 := Lib.hid C2; clear C2
    have K3 := Lib.hid C3; clear C3
    have K4 := Lib.hid C4; clear C4
    have K5 := Lib.hid C5; clear C5
    have K6 := Lib.hid C6; clear C6
    have KZ := Lib.hid hZ; clear hZ
    go_wp2_with fail
    refine (K1.out _).mono ?_
    rintro e w2 ⟨rfl, b2⟩
    refine kept_at b2 (w1.heap.size) (by go_size) fun c2_0 z2_0 s2_0 => ?_
    refine kept_at b2 (w1.heap.size + 1) (by go_size) fun c2_1 z2_1 s2_1 => ?_
    refine kept_at b2 (w1.heap.size + 1 + 1) (by go_size) fun c2_2 z2_2 s2_2 => ?_
    replace b2 := kept_trans (a := w) (by go_grown) b2
    have l2 := kept_cell b2
    have zz2 := b2.size
    go_wp2_with fail
    refine (K2.out _).mono ?_
    rintro e w3 ⟨rfl, b3⟩
    refine kept_at b3 (w1.heap.size) (by go_size) fun c3_0 z3_0 s3_0 => ?_
    refine kept_at b3 (w1.heap.size + 1) (by go_size) fun c3_1 z3_1 s3_1 => ?_
    refine kept_at b3 (w1.heap.size + 1 + 1) (by go_size) fun c3_2 z3_2 s3_2 => ?_
    replace b3 := kept_trans (a := w) (by go_grown) b3
    have l3 := kept_cell b3
    have zz3 := b3.size
    go_wp2_with fail
    refine (K3.out _).mono ?_
    rintro e w4 ⟨rfl, b4⟩
    refine kept_at b4 (w1.heap.size) (by go_size) fun c4_0 z4_0 s4_0 => ?_
    refine kept_at b4 (w1.heap.size + 1) (by go_size) fun c4_1 z4_1 s4_1 => ?_
    refine kept_at b4 (w1.heap.size + 1 + 1) (by go_size) fun c4_2 z4_2 s4_2 => ?_
    replace b4 := kept_trans (a := w) (by go_grown) b4
    have l4 := kept_cell b4
    have zz4 := b4.size
    go_wp2_with fail
    refine (K4.out _).mono ?_
    rintro e w5 ⟨rfl, b5⟩
    refine kept_at b5 (w1.heap.size) (by go_size) fun c5_0 z5_0 s5_0 => ?_
    refine kept_at b5 (w1.heap.size + 1) (by go_size) fun c5_1 z5_1 s5_1 => ?_
    refine kept_at b5 (w1.heap.size + 1 + 1) (by go_size) fun c5_2 z5_2 s5_2 => ?_
    replace b5 := kept_trans (a := w) (by go_grown) b5
    have l5 := kept_cell b5
    have zz5 := b5.size
    go_wp2_with fail
    refine (K5.out _).mono ?_
    rintro e w6 ⟨rfl, b6⟩
    refine kept_at b6 (w1.heap.size) (by go_size) fun c6_0 z6_0 s6_0 => ?_
    refine kept_at b6 (w1.heap.size + 1) (by go_size) fun c6_1 z6_1 s6_1 => ?_
    refine kept_at b6 (w1.heap.size + 1 + 1) (by go_size) fun c6_2 z6_2 s6_2 => ?_
    replace b6 := kept_trans (a := w) (by go_grown) b6
    have l6 := kept_cell b6
    have zz6 := b6.size
    go_wp2_with fail
    refine (K6.out _).mono ?_
    rintro e w7 ⟨rfl, b7⟩
    refine kept_at b7 (w1.heap.size) (by go_size) fun c7_0 z7_0 s7_0 => ?_
    refine kept_at b7 (w1.heap.size + 1) (by go_size) fun c7_1 z7_1 s7_1 => ?_
    refine kept_at b7 (w1.heap.size + 1 + 1) (by go_size) fun c7_2 z7_2 s7_2 => ?_
    replace b7 := kept_trans (a := w) (by go_grown) b7
    have l7 := kept_cell b7
    have zz7 := b7.size
    rcases hS2 with h0 | ⟨h0, h00⟩
    all_goals
      by_cases hp : P = 0
      · have hp1 : (P == 0) = true := by simp [hp]
        obtain ⟨e1, e2⟩ := KZ.out.mp hp
        have e1' : (x1 == x2) = true := by simp; omega
        have e2' : (y1 == y2) = true := by simp; omega
        clear e1 e2 hp
        go_wp2
        go_ret
        exact ⟨rfl, by go_grown⟩
      · have hp1 : (P == 0) = false := by simp [hp]
        by_cases e1 : x1 = x2
        · by_cases e2 : y1 = y2
          · exact absurd (KZ.out.mpr ⟨by omega, by omega⟩) hp
          · have e1' : (x1 == x2) = true := by simp [e1]
            have e2' : (y1 == y2) = false := by simp [e2]
            clear e1 e2 hp
            go_wp2
            go_ret
            exact ⟨rfl, by go_grown⟩
        · have e1' : (x1 == x2) = false := by simp [e1]
          clear e1 hp
          go_wp2
          go_ret
          exact ⟨rfl, by go_grown⟩
  · go_enter Try.func3, Try.ntmps3
    go_wp2
    go_ret
    exact ⟨rfl, by go_grown⟩

end Go.Proofs.Ytjddpbpambnlgaa
namespace Go.Proofs.Ytjddpbpambnlgaa.fnPlaces
open Go.ChangeShapes Go.WideShapes Go.ChangeAt Go.RowKit
set_option linter.unusedVariables false
set_option linter.unusedSimpArgs false
open Go.Joins Go.ChangeMaps
set_option maxRecDepth 100000 in
theorem lifted (os : Os) (started : os.Started) (H : Type) (enc : TypeId × Value → H) :
    ReturnsInHanded {} Try.checked os 3 .any (Rows.fnPlacesSpec.pre6 enc Try.prog Try.f3 Rows.fnPlacesRow.domain false) (Rows.fnPlacesSpec.post enc Try.prog Try.f3 false true false false) := by
  refine returnsInHanded_of_change (C := Try.checked) (show ownKnob Try.prog.godebug = none by kernel_rfl) started (by kernel_rfl) Try.func3
    (ChangeSpec.witness6 (enc := enc) (C := Try.checked) false ⟨#[], #[.slice none 0 0], []⟩ 8 (by kernel_rfl) (by kernel_rfl) (by kernel_rfl) (by kernel_rfl)) ?_
  intro W base args ds gs before hval0 hW hcnd _
  have hval : ∀ (j : Nat) t v, Try.f3.params[j]? = some t → args[j]? = some v → Value.okWide Try.prog W .any base t v := hval0
  have hW' := hW
  obtain ⟨p, q, hA0, hV, rfl, hfz, hnd⟩ := hW
  have hA : DataW.TrodAll enc Try.prog W 0 (fun _ => true) true Try.f3.params.toList args.toList ds p := hA0
  rw [Try.params3] at hA hval
  obtain ⟨v0, vs0, d0, ds0, p0, q0, hargs, rfl, rfl, h0, r0⟩ := trodAll_cons hA
  obtain ⟨rfl, rfl, rfl⟩ := trodAll_nil r0
  obtain rfl : args = #[v0] := by cases args; simp_all
  obtain ⟨rfl, rfl⟩ := trodVars_none hV
  obtain ⟨A0, n0, c0, rfl, hr0, hn0⟩ := open_bytes Try.underlying22 Try.underlying5 (show Try.prog.cellsOf 5 = 1 by kernel_rfl) (hval 0 22 v0 rfl rfl) h0
  clear hA0 hval0
  refine (walk_FnPlaces (w := W) A0 n0 c0 hr0 hn0).mono fun e W' ⟨he, hb⟩ => ?_
  subst he
  exact ⟨_, rfl, law_post (B := 4) (by kernel_rfl) (by kernel_rfl) rfl Try.underlying4 rfl hW' rfl hb⟩

/-- The statement: for every input the law returns true, and the arguments read afterwards as before. -/
theorem proved : Rows.FnPlacesSaid :=
  OpenClaim.holds_of_wide 3 Try.f3 rfl rfl rfl rfl rfl rfl rfl ⟨rfl, rfl, rfl, rfl, rfl⟩ rfl rfl rfl rfl rfl (by kernel_rfl) Try.func3 (by kernel_rfl)
    (of_decide_eq_true (by kernel_rfl)) (by unfold Func.isWrapper; first | (rw [if_pos (by decide +kernel)]; kernel_rfl) | (rw [if_neg (by decide +kernel)]; exact ⟨rfl, rfl⟩))
    (fun os started H enc _ => lifted os started H enc)
end Go.Proofs.Ytjddpbpambnlgaa.fnPlaces
