/- Proved: for every input the law FnExactGreatestWeight returns true, and each argument reads afterwards as it read before; no condition beside those of the given row. -/
import Derived.Test.YtedmpjgpgbmolaaRows
import Derived.WalkKit
import Derived.ProofKit
import Derived.OpenShut
import Derived.Lib.Hide
import Derived.Handy
import Derived.BigQuiet
import Derived.Carry
import Derived.Deep.QuietTactic
import Derived.Deep.RegionHeld3
import Derived.Laws.ResultCell
import Derived.Shelf.Abstract
import Derived.Lib.SmallJoins
import Derived.ChangeMaps5
namespace Go.Proofs.Ytedmpjgpgbmolaa
open Go.ChangeShapes Go.WideShapes Go.ChangeAt Go.RowKit
set_option linter.unusedVariables false
set_option linter.unusedSimpArgs false

theorem trodAll_stay {H : Type} {enc : TypeId × Value → H} {P : Program} (hl : laidOutB P = true) {W W' : World} (hb : Below W.heap.size W W') :
    ∀ (ts : List TypeId) (vs : List Value) (ds : List (DataW H)) (ps : List MemPlace), ts.all (fun t => P.readableRec t && decide (t < P.types.size)) = true →
      DataW.TrodAll enc P W 0 (fun _ => true) true ts vs ds ps → (∀ x ∈ ps, x.block < W.heap.size) →
      DataW.TrodAll enc P W' 0 (fun b => decide (b < W.heap.size)) true ts vs ds ps := by
  intro ts
  induction ts with
  | nil => intro vs ds ps _ h _; obtain ⟨rfl, rfl, rfl⟩ := trodAll_nil h; exact rfl
  | cons t ts ih =>
    intro vs ds ps hr h hlt
    simp only [List.all_cons, Bool.and_eq_true, decide_eq_true_eq] at hr
    obtain ⟨v, vs', d, ds', p, q, rfl, rfl, rfl, h0, h1⟩ := trodAll_cons h
    exact ⟨p, q, Below.trod hl hr.1.1 hr.1.2 h0 hb (fun x hx => hlt x (by simp [hx])), ih _ _ _ hr.2 h1 (fun x hx => hlt x (by simp [hx])), rfl⟩

/-- A law's row at its end: it returned true, and of what was there nothing has turned. -/
theorem law_post {H : Type} {enc : TypeId × Value → H} {P : Program} {f : Func} {s : ChangeSpec} {W W' : World} {args : Array Value} {ds gs : List (DataW H)} {before : List MemPlace} {B : TypeId}
    (hl : laidOutB P = true) (hr : f.params.toList.all (fun t => P.readableRec t && decide (t < P.types.size)) = true)
    (hres : f.resultTypes = #[B]) (hB : P.underlying B = some .bool) (hv : s.vars = [])
    (hW : DataW.Whole enc P f.params.toList s.vars false W args.toList ds gs before)
    (hfn : s.fn H (ds ++ gs) = { results := [.lit (.bool true)], args := ds }) (hb : Below W.heap.size W W') :
    s.post enc P f false true false false W args (.bool true) W' := by
  have hlt : ∀ p ∈ before, p.block < W.heap.size := fun p hp => hW.lt p hp
  have hW' := hW
  obtain ⟨p, q, hA, hV, rfl, _, _⟩ := hW'
  rw [hv] at hV
  obtain ⟨rfl, rfl⟩ := trodVars_none hV
  refine ⟨ds, [], p ++ [], [], p, [], hW, ?_, ?_, ?_, hb.frame _, fun h => by cases h⟩
  · rw [hfn, hres]
    exact trodAll_cons_mk (shut_bool hB _) trodAll_mk0
  · rw [hfn]
    exact trodAll_stay hl hb _ _ _ _ hr hA (fun x hx => hlt x (by simp [hx]))
  · rw [hfn, hv]
    exact rfl

theorem kept_cell {W w1 : World} (hb : Below W.heap.size W w1) (b o : Nat) (h : b < W.heap.size) : w1.cell? ⟨b, o, none⟩ = W.cell? ⟨b, o, none⟩ := hb.cell (p := ⟨b, o, none⟩) h

theorem kept_frozen {W w1 : World} (hb : Below W.heap.size W w1) (b o : Nat) (h : b < W.heap.size) : w1.frozen? ⟨b, o, none⟩ = W.frozen? ⟨b, o, none⟩ := hb.frozen (p := ⟨b, o, none⟩) h

theorem kept_trans {a b c : World} (h : Below a.heap.size a b) (k : Below b.heap.size b c) : Below a.heap.size a c := h.trans (k.mono h.size)

theorem kept_at {W w1 : World} (hb : Below W.heap.size W w1) (b : Nat) {G : Prop} (h : b < W.heap.size)
    (k : (∀ o, w1.cell? ⟨b, o, none⟩ = W.cell? ⟨b, o, none⟩) → (∀ o, w1.frozen? ⟨b, o, none⟩ = W.frozen? ⟨b, o, none⟩) → b < w1.heap.size → G) : G :=
  k (fun o => kept_cell hb b o h) (fun o => kept_frozen hb b o h) (Nat.lt_of_lt_of_le h hb.size)

theorem kept_drewN {B : Nat} {a w : World} (h : Below B a w) (n : Nat) : Below B a (w.drewN n) := { os := h.os, tape := h.tape, output := h.output, size := h.size, block := h.block }

theorem results_cell1 {fn : Func} {p : Tmp} {ty : TypeId} (h : fn.results = #[.cell p ty]) (tmps : Array Value) (P : Program) (w : World) :
    (results fn tmps).run P w = ((asAddr (tmps.getD p undef)).run P w).andThen fun a w₁ => (loadVar ty a).run P w₁ := by
  simp only [results, h]
  simp [Sem.run_bind, Result.andThen]

def inB (n low high : Int) : Bool := decide (low ≤ n) && decide (n ≤ high)

theorem in_any (n low high : Int) (w : World) :
    Calls Try.prog 48 #[.int .i64 n, .int .i64 low, .int .i64 high] w fun e w' => e = .returned (.bool (inB n low high)) ∧ w = w' := by
  unfold inB
  by_cases h1 : low ≤ n <;> by_cases h2 : n ≤ high <;>
  · go_enter Try.func48, Try.ntmps48
    go_wp2
    go_ret
    exact ⟨by simp [*], rfl⟩

theorem inB_true {n a b : Int} (h : inB n a b = true) : a ≤ n ∧ n ≤ b := by simpa [inB] using h

theorem sq_bd (a k : Int) (h1 : -k ≤ a) (h2 : a ≤ k) : 0 ≤ a * a ∧ a * a ≤ k * k := by
  refine ⟨by rcases Int.le_total 0 a with h | h; exact Int.mul_nonneg h h; exact Int.mul_nonneg_of_nonpos_of_nonpos h h, ?_⟩
  rcases Int.le_total 0 a with h | h
  · exact Int.mul_le_mul h2 h2 h (by omega)
  · have := Int.mul_le_mul (show -a ≤ k by omega) (show -a ≤ k by omega) (by omega) (by omega)
    rwa [Int.neg_mul_neg] at this

def IsRoot (n r : Int) : Prop := 0 ≤ r ∧ n ≤ r * r ∧ ∀ q, 0 ≤ q → q < r → q * q < n

open Classical in
noncomputable def rootL (n : Int) : Int := if h : ∃ r, IsRoot n r then Classical.choose h else 0

theorem rootL_eq {n r : Int} (h : IsRoot n r) : rootL n = r := by
  have hex : ∃ r, IsRoot n r := ⟨r, h⟩
  unfold rootL
  rw [dif_pos hex]
  obtain ⟨a1, a2, a3⟩ := Classical.choose_spec hex
  obtain ⟨b1, b2, b3⟩ := h
  rcases Int.lt_trichotomy (Classical.choose hex) r with h | h | h
  · have := b3 _ a1 h; omega
  · exact h
  · have := a3 _ b1 h; omega

theorem sq_lt {q m n : Int} (h0 : 0 ≤ q) (h1 : q ≤ m) (h2 : m * m < n) : q * q < n := by
  have := Int.mul_le_mul h1 h1 h0 (by omega)
  omega

theorem l02Root_any (n : Int) (w : World) (h0 : 0 ≤ n) (h1 : n ≤ 1000000000000) :
    Calls Try.prog 83 #[.int .i64 n] w fun e w' => e = .returned (.int .i64 (rootL n)) ∧ w = w' := by
  go_enter Try.func83, Try.ntmps83
  go_wp2_with fail
  go_loop [3, 4] (fun i j => ∃ lo hi : Int, 0 ≤ lo ∧ lo ≤ hi ∧ hi ≤ 2000000 ∧ i = .int .i64 lo ∧ j = .int .i64 hi ∧ (∀ q, 0 ≤ q → q < lo → q * q < n) ∧ n ≤ hi * hi) (fun i j => (intOf j - intOf i).toNat)
  case atStart => exact ⟨0, 2000000, by omega, by omega, by omega, rfl, rfl, fun q h1 h2 => by omega, by omega⟩
  case round =>
    obtain ⟨lo, hi, h2, h3, h4, rfl, rfl, h5, h6⟩ := hrel
    have H5 := Lib.hid h5; clear h5
    by_cases hlt : lo < hi
    · have g1 : lo ≤ (lo + hi) / 2 := by omega
      have g2 : (lo + hi) / 2 < hi := by omega
      have hs := sq_bd ((lo + hi) / 2) 2000000 (by omega) (by omega)
      by_cases hp : n ≤ (lo + hi) / 2 * ((lo + hi) / 2)
      all_goals
        go_wp2
        go_round
        case rel => first
          | exact ⟨(lo + hi) / 2 + 1, hi, by omega, by omega, h4, rfl, rfl, fun q a c => sq_lt a (by omega) (Int.not_le.mp hp), h6⟩
          | exact ⟨lo, (lo + hi) / 2, h2, g1, by omega, rfl, rfl, H5.out, hp⟩
        case measure => simp [intOf]; omega
    · have : lo = hi := by omega
      subst this
      have e := rootL_eq (n := n) ⟨h2, h6, H5.out⟩
      go_wp2
      go_ret
      exact ⟨by simp [e], rfl⟩

/-- The slice value reads as a list of numbers. -/
def RdI (w : World) (v : Value) (zs : List Int) : Prop :=
  zs.length ≤ 9223372036854775807 ∧ ∃ A c, v = .slice A zs.length c ∧ ∀ k, (hk : k < zs.length) → ∃ b off, A = some ⟨b, off, none⟩ ∧ b < w.heap.size ∧ w.cell? ⟨b, off + k, none⟩ = some (.int .i64 zs[k])

theorem RdI_kept {W w1 : World} {v : Value} {zs : List Int} (h : RdI W v zs) (hb : Below W.heap.size W w1) : RdI w1 v zs := by
  obtain ⟨hl, A, c, rfl, hr⟩ := h
  refine ⟨hl, A, c, rfl, fun k hk => ?_⟩
  obtain ⟨b, off, e, hlt, hc⟩ := hr k hk
  exact ⟨b, off, e, Nat.lt_of_lt_of_le hlt hb.size, by rw [kept_cell hb b _ hlt]; exact hc⟩

/-- A quotient, rounded up. -/
def upL (n d : Int) : Int := (n + d - 1) / d

theorem mul_bd (a b p q : Int) (h1 : 0 ≤ a ∧ a ≤ p) (h2 : 0 ≤ b ∧ b ≤ q) : 0 ≤ a * b ∧ a * b ≤ p * q :=
  ⟨Int.mul_nonneg h1.1 h2.1, Int.mul_le_mul h1.2 h2.2 h2.1 (by omega)⟩

theorem specUp_any (n d : Int) (h1 : 0 ≤ n ∧ n ≤ 1000000000) (h2 : 1 ≤ d ∧ d ≤ 1000000) (w : World) :
    Calls Try.prog 82 #[.int .i64 n, .int .i64 d] w fun e w' => e = .returned (.int .i64 (upL n d)) ∧ w = w' := by
  have e : (n + d - 1).tdiv d = upL n d := by rw [upL, Int.tdiv_eq_ediv_of_nonneg (by omega)]
  have hd : (d == 0) = false := by simp; omega
  have hd2 : ¬ d = 0 := by omega
  have hd3 : ¬ d = -1 := by omega
  have hb : 0 ≤ upL n d ∧ upL n d ≤ 2000000000 := by
    rw [upL]
    refine ⟨Int.ediv_nonneg (by omega) (by omega), ?_⟩
    have := Int.ediv_le_self (a := n + d - 1) d (by omega)
    omega
  generalize upL n d = q at *
  go_enter Try.func82, Try.ntmps82
  go_wp2
  go_ret
  exact ⟨by first | rfl | rw [e], rfl⟩

theorem max_any (a b : Int) (w : World) :
    Calls Try.prog 93 #[.int .i64 a, .int .i64 b] w fun e w' => e = .returned (.int .i64 (max a b)) ∧ w = w' := by
  by_cases h : b < a
  · rw [show max a b = a by omega]
    go_enter Try.func93, Try.ntmps93
    go_wp2
    go_ret
    exact ⟨rfl, rfl⟩
  · rw [show max a b = b by omega]
    go_enter Try.func93, Try.ntmps93
    go_wp2
    go_ret
    exact ⟨rfl, rfl⟩

theorem min_any (x y : Int) (w : World) :
    Calls Try.prog 92 #[.int .i64 x, .int .i64 y] w fun e w' => e = .returned (.int .i64 (min x y)) ∧ w = w' := by
  by_cases h : x < y
  · rw [show min x y = x by omega]
    go_enter Try.func92, Try.ntmps92
    go_wp2
    go_ret
    exact ⟨rfl, rfl⟩
  · rw [show min x y = y by omega]
    go_enter Try.func92, Try.ntmps92
    go_wp2
    go_ret
    exact ⟨rfl, rfl⟩

/-- The first place at which p holds; -1 if there is none. -/
def idxL {α : Type} (p : α → Bool) (zs : List α) : Int := if zs.findIdx p < zs.length then (zs.findIdx p : Int) else -1

theorem idxL_is {α : Type} {p : α → Bool} {zs : List α} {k : Nat} (h : k < zs.length) (hk : p zs[k] = true) (hb : ∀ j (hj : j < zs.length), j < k → p zs[j] = false) : idxL p zs = (k : Int) := by
  unfold idxL
  have e : zs.findIdx p = k := by
    rw [List.findIdx_eq h]
    exact ⟨hk, fun j hj => hb j (by omega) hj⟩
  rw [e, if_pos h]

theorem idxL_none {α : Type} {p : α → Bool} {zs : List α} (hb : ∀ j (hj : j < zs.length), p zs[j] = false) : idxL p zs = -1 := by
  unfold idxL
  have e : zs.findIdx p = zs.length := by
    rw [List.findIdx_eq_length]
    intro x hx
    obtain ⟨i, hi, rfl⟩ := List.mem_iff_getElem.1 hx
    exact hb i hi
  rw [e, if_neg (by omega)]

theorem idxL_any {α : Type} (p : α → Bool) (zs : List α) : decide (0 ≤ idxL p zs) = zs.any p := by
  unfold idxL
  by_cases h : zs.findIdx p < zs.length
  · rw [if_pos h]
    have := List.findIdx_lt_length.1 h
    simp
    obtain ⟨x, hx, hp⟩ := this
    exact ⟨x, hx, hp⟩
  · rw [if_neg h]
    have : ¬ ∃ x ∈ zs, p x = true := fun hx => h (List.findIdx_lt_length.2 hx)
    simp at this ⊢
    exact this

theorem idxL_bd {α : Type} (p : α → Bool) (zs : List α) : -1 ≤ idxL p zs ∧ idxL p zs ≤ zs.length := by
  unfold idxL
  split <;> omega

/-- A moment without its sign. -/
def tiltL (n : Int) : Int := max n (-n)

/-- The code of a base and of what is told about the other arguments. -/
def codeL3 (B : Bool) (bs : List Bool) : Int := if B then (if bs.all id then 0 else 2) else 1

theorem codeL3_ok {B : Bool} {bs : List Bool} (h : codeL3 B bs = 0) : B = true ∧ ∀ x ∈ bs, x = true := by
  unfold codeL3 at h
  cases B
  · simp at h
  · cases hb : bs.all id
    · rw [hb] at h; simp at h
    · exact ⟨rfl, fun x hx => by have := List.all_eq_true.1 hb x hx; simpa using this⟩

theorem specSize_any (n : Int) (h : -1000000000000000000 ≤ n ∧ n ≤ 1000000000000000000) (w : World) :
    Calls Try.prog 91 #[.int .i64 n] w fun e w' => e = .returned (.int .i64 (tiltL n)) ∧ w = w' := by
  unfold tiltL
  go_enter Try.func91, Try.ntmps91
  go_wp2_with (go_at_call 93; refine (max_any _ _ _).mono ?_; rintro e w1 ⟨rfl, rfl⟩)
  go_ret
  exact ⟨rfl, rfl⟩

theorem tilt_abs (n : Int) : tiltL n = (n.natAbs : Int) := by unfold tiltL; omega

/-- A fraction in lowest terms. -/
def lowL (n d : Int) : Int × Int := (n.tdiv (Nat.gcd n.natAbs d.natAbs : Nat), d.tdiv (Nat.gcd n.natAbs d.natAbs : Nat))

theorem tdiv_bd (n : Int) (g : Nat) (k : Int) (h : -k ≤ n ∧ n ≤ k) : -k ≤ n.tdiv g ∧ n.tdiv g ≤ k := by
  have := Int.natAbs_tdiv n g
  have h2 := Nat.div_le_self n.natAbs (g : Int).natAbs
  have h3 : (n.tdiv g).natAbs ≤ n.natAbs := by rw [this]; exact h2
  omega

theorem gcd_pos' (n d : Int) (hd : 0 < d) : 0 < Nat.gcd n.natAbs d.natAbs := Nat.gcd_pos_of_pos_right _ (by omega)

theorem gcd_step (x y : Nat) : Nat.gcd y (x % y) = Nat.gcd x y := by rw [Nat.gcd_comm x y, Nat.gcd_rec y x, Nat.gcd_comm]

theorem specGcd_any (x y : Nat) (hx : x ≤ 9000000000000000000) (hy : y ≤ 9000000000000000000) (w : World) :
    Calls Try.prog 90 #[.int .i64 x, .int .i64 y] w fun e w' => e = .returned (.int .i64 (Nat.gcd x y : Nat)) ∧ Below w.heap.size w w' := by
  have HE := Lib.hid (rfl : Nat.gcd x y = Nat.gcd x y)
  generalize hG : Nat.gcd x y = G at *
  have HG := Lib.hid hG; clear hG HE
  go_enter Try.func90, Try.ntmps90
  go_wp2_with fail
  go_loopw [0, 1] (fun u v wr => ∃ a b : Nat, a ≤ 9000000000000000000 ∧ b ≤ 9000000000000000000 ∧ u = .int .i64 a ∧ v = .int .i64 b ∧ Nat.gcd a b = G ∧ Below w.heap.size w wr) (fun _ v _ => (intOf v).toNat)
  case atStart => exact ⟨x, y, hx, hy, rfl, rfl, HG.out, Below.refl _ _⟩
  case round =>
    obtain ⟨a, b, ha, hb0, rfl, rfl, hgab, hb⟩ := hrel
    by_cases hz : b = 0
    · subst hz
      rw [Nat.gcd_zero_right] at hgab
      subst hgab
      go_wp2
      go_ret
      exact ⟨rfl, hb⟩
    · have b0 : ((b : Int) == 0) = false := by simp; omega
      have b1 : ¬ (b : Int) = 0 := by omega
      have b2 : ¬ (b : Int) = -1 := by omega
      have b3 : ((b : Int) != 0) = true := by simp; omega
      have b4 : decide (0 < b) = true := by simp; omega
      have e1 : (a : Int).tmod (b : Int) = ((a % b : Nat) : Int) := by rw [Int.tmod_eq_emod_of_nonneg (by omega)]; rfl
      have hlt := Nat.mod_lt a (show 0 < b by omega)
      have hgs := gcd_step a b
      rw [hgab] at hgs
      have HGS := Lib.hid hgs; clear hgs
      have hw1 : IntKind.i64.wrap ((a % b : Nat) : Int) = ((a % b : Nat) : Int) := IntWalk.i64_in _ (by omega)
      generalize a % b = t at *
      go_wp2_with fail
      go_quiet (fail)
      go_wp2
      go_roundw
      case rel => exact ⟨b, t, hb0, by omega, by go_num, by simp [e1], HGS.out, kept_drewN hb _⟩
      case measure => simp [intOf, e1]; omega

theorem RdI_of (w : World) (g c : Nat) (zs : List Int) (hl : zs.length ≤ 9223372036854775807) (hg : g < w.heap.size) (hc : ∀ k, (hk : k < zs.length) → w.cell? ⟨g, k, none⟩ = some (.int .i64 zs[k])) : RdI w (.slice (some ⟨g, 0, none⟩) zs.length c) zs :=
  ⟨hl, _, _, rfl, fun k hk => ⟨g, 0, rfl, hg, by rw [Nat.zero_add]; exact hc k hk⟩⟩

theorem rdI1 {w : World} {g c : Nat} {x : Int} (hg : g < w.heap.size) (h0 : w.cell? ⟨g, 0, none⟩ = some (.int .i64 x)) : RdI w (.slice (some ⟨g, 0, none⟩) 1 c) [x] :=
  RdI_of w g c [x] (by simp) hg (fun k hk => by simp at hk; subst hk; exact h0)

set_option maxRecDepth 100000 in
theorem indexFuncI_any (v : Value) (zs : List Int) (g : FuncId) (he : Enters Try.prog g) (cap : Array Value) (p : Int → Bool) (w : World) (h : RdI w v zs)
    (hf : ∀ k (hk : k < zs.length) w1, Below w.heap.size w w1 → Calls Try.prog g (#[.int .i64 zs[k]] ++ cap) w1 fun e w2 => e = .returned (.bool (p zs[k])) ∧ Below w1.heap.size w1 w2) :
    Calls Try.prog 89 #[v, .func (.func g) #[] cap] w fun e w' => e = .returned (.int .i64 (idxL p zs)) ∧ Below w.heap.size w w' := by
  obtain ⟨hl, A, c, rfl, r1⟩ := h
  have R := Lib.hid r1; clear r1
  have Hf := Lib.hid hf; clear hf
  have HIS := Lib.hid (fun k (h : k < zs.length) => @idxL_is _ p zs k h)
  have HNO := Lib.hid (@idxL_none _ p zs)
  generalize idxL p zs = G at *
  go_enter Try.func89, Try.ntmps89
  go_wp2_with fail
  go_loopw [8] (fun i wr => ∃ k : Nat, k ≤ zs.length ∧ i = .int .i64 k ∧ (∀ j (hj : j < zs.length), j < k → p zs[j] = false) ∧ Below w.heap.size w wr) (fun i _ => zs.length - (intOf i).toNat)
  case atStart => exact ⟨0, by omega, rfl, fun j _ h => by omega, Below.refl _ _⟩
  case round =>
    obtain ⟨k, hk, rfl, hall, hb⟩ := hrel
    by_cases hlt : k < zs.length
    · obtain ⟨b, off, rfl, hbl, hc0⟩ := R.out k hlt
      rw [← kept_cell hb b _ hbl] at hc0
      have hc := Hf.out k hlt wr hb
      cases hp : p zs[k]
      · have hnx : ∀ j (hj : j < zs.length), j < k + 1 → p zs[j] = false := fun j hj hjk => by
          rcases Nat.lt_or_ge j k with h1 | h1
          · exact hall j hj h1
          · obtain rfl : j = k := by omega
            exact hp
        rw [hp] at hc
        have HNX := Lib.hid hnx; clear hnx hall hp
        have Hc := Lib.hid hc; clear hc
        generalize zs[k] = x at *
        go_wp2_with fail
        rw [he, Oper.upon_enter]
        refine Hc.out.mono ?_
        rintro e w1 ⟨rfl, hb1⟩
        go_wp2
        go_roundw
        case rel => exact ⟨k + 1, by omega, by go_num, HNX.out, kept_trans hb hb1⟩
        case measure => simp [intOf]; omega
      · have hE := HIS.out k hlt hp hall
        subst hE
        rw [hp] at hc
        have Hc := Lib.hid hc; clear hc hall hp
        generalize zs[k] = x at *
        go_wp2_with fail
        rw [he, Oper.upon_enter]
        refine Hc.out.mono ?_
        rintro e w1 ⟨rfl, hb1⟩
        go_wp2
        go_ret
        exact ⟨rfl, kept_trans hb hb1⟩
    · have : k = zs.length := by omega
      subst this
      have hE := HNO.out (fun j hj => hall j hj hj)
      clear hall
      subst hE
      go_wp2
      go_ret
      exact ⟨rfl, hb⟩

theorem containsFuncI_any (v : Value) (zs : List Int) (g : FuncId) (he : Enters Try.prog g) (cap : Array Value) (p : Int → Bool) (w : World) (h : RdI w v zs)
    (hf : ∀ k (hk : k < zs.length) w1, Below w.heap.size w w1 → Calls Try.prog g (#[.int .i64 zs[k]] ++ cap) w1 fun e w2 => e = .returned (.bool (p zs[k])) ∧ Below w1.heap.size w1 w2) :
    Calls Try.prog 79 #[v, .func (.func g) #[] cap] w fun e w' => e = .returned (.bool (zs.any p)) ∧ Below w.heap.size w w' := by
  have H := Lib.hid (indexFuncI_any v zs g he cap p w h hf)
  obtain ⟨hl, A, c, rfl, r1⟩ := h
  clear hf r1
  have hbd := idxL_bd p zs
  rw [← idxL_any]
  generalize idxL p zs = G at *
  go_enter Try.func79, Try.ntmps79
  go_wp2_with fail
  refine H.out.mono ?_
  rintro e w1 ⟨rfl, hb1⟩
  go_wp2
  go_ret
  exact ⟨rfl, hb1⟩

theorem outside_any (n lo hi : Int) (b1 b2 : Nat) (w : World) (h1 : w.cell? ⟨b1, 0, none⟩ = some (.int .i64 lo)) (h2 : w.cell? ⟨b2, 0, none⟩ = some (.int .i64 hi)) :
    Calls Try.prog 80 #[.int .i64 n, .pointer (some ⟨b1, 0, none⟩), .pointer (some ⟨b2, 0, none⟩)] w fun e w' => e = .returned (.bool (!inB n lo hi)) ∧ Below w.heap.size w w' := by
  unfold inB
  by_cases g1 : lo ≤ n <;> by_cases g2 : n ≤ hi
  all_goals
    go_enter Try.func80, Try.ntmps80
    go_wp2
    go_ret
    exact ⟨by simp [*], Below.refl _ _⟩

theorem within_any (lo hi : Int) (v : Value) (zs : List Int) (w : World) (h : RdI w v zs) :
    Calls Try.prog 53 #[.int .i64 lo, .int .i64 hi, v] w fun e w' => e = .returned (.bool (zs.all fun n => inB n lo hi)) ∧ Below w.heap.size w w' := by
  have hall : (zs.all fun n => inB n lo hi) = !(zs.any fun n => !inB n lo hi) := by simp [List.any_eq_not_all_not]
  rw [hall]
  clear hall
  have HC := Lib.hid (fun u (q : RdI u v zs) b1 b2 (l1 : b1 < u.heap.size) (l2 : b2 < u.heap.size) (c1 : u.cell? ⟨b1, 0, none⟩ = some (.int .i64 lo)) (c2 : u.cell? ⟨b2, 0, none⟩ = some (.int .i64 hi)) =>
    containsFuncI_any v zs 80 (enters_of Try.func80 (by kernel_rfl) rfl) #[.pointer (some ⟨b1, 0, none⟩), .pointer (some ⟨b2, 0, none⟩)] (fun n => !inB n lo hi) u q
      (fun k hk w1 hb => outside_any zs[k] lo hi b1 b2 w1 (by rw [kept_cell hb b1 0 l1]; exact c1) (by rw [kept_cell hb b2 0 l2]; exact c2)))
  obtain ⟨hl, A, c, rfl, r1⟩ := h
  have H := Lib.hid (show RdI w (.slice A zs.length c) zs from ⟨hl, A, c, rfl, r1⟩); clear r1
  generalize (zs.any fun n => !inB n lo hi) = X at *
  have hmf : ∀ (fn : Fn) (first cap : Array Value) (w : World), (Instr.makeFunc fn first cap).run Try.prog w = .ok (.func fn first cap) w := fun _ _ _ _ => rfl
  go_enter Try.func53, Try.ntmps53
  go_wp2_with fail
  refine (HC.out _ (RdI_kept H.out (by go_grown)) w.heap.size (w.heap.size + 1) (by simp; try omega) (by simp) (by simp) (by simp)).mono ?_
  rintro e w1 ⟨rfl, hb1⟩
  have b1 := kept_trans (a := w) (by go_grown) hb1
  go_wp2
  go_ret
  exact ⟨rfl, b1⟩

theorem specMake_any (n d : Int) (hn : -1000000000000000000 ≤ n ∧ n ≤ 1000000000000000000) (hd : 1 ≤ d ∧ d ≤ 1000000000000000000) (w : World) :
    Calls Try.prog 85 #[.int .i64 n, .int .i64 d] w fun e w' => e = .returned (.agg #[.int .i64 (lowL n d).1, .int .i64 (lowL n d).2]) ∧ Below w.heap.size w w' := by
  have hp := gcd_pos' n d (by omega)
  have hle := Nat.gcd_le_right n.natAbs (show 0 < d.natAbs by omega)
  have hq1 := tdiv_bd n (Nat.gcd n.natAbs d.natAbs) 1000000000000000000 hn
  have hq2 := tdiv_bd d (Nat.gcd n.natAbs d.natAbs) 1000000000000000000 (by omega)
  have HA := Lib.hid (fun u => specSize_any n (by omega) u)
  have HG := specGcd_any n.natAbs d.natAbs (by omega) (by omega)
  rw [tilt_abs, show ((d.natAbs : Nat) : Int) = d by omega] at *
  unfold lowL
  generalize Nat.gcd n.natAbs d.natAbs = g at *
  have HG := Lib.hid HG
  have g0 : ((g : Int) == 0) = false := by simp; omega
  have g1 : ¬ (g : Int) = 0 := by omega
  have g2 : ¬ (g : Int) = -1 := by omega
  have w1 : IntKind.i64.wrap (n.tdiv g) = n.tdiv g := IntWalk.i64_in _ (by omega)
  have w2 : IntKind.i64.wrap (d.tdiv g) = d.tdiv g := IntWalk.i64_in _ (by omega)
  generalize hX : n.tdiv g = X at *
  generalize hY : d.tdiv g = Y at *
  have HX := Lib.hid hX; clear hX
  have HY := Lib.hid (show d / (g : Int) = Y by rw [← hY, Int.tdiv_eq_ediv_of_nonneg (by omega)]); clear hY
  go_enter Try.func85, Try.ntmps85
  go_wp2_with fail
  refine (HA.out _).mono ?_
  rintro e w1 ⟨rfl, rfl⟩
  go_wp2_with fail
  refine (HG.out _).mono ?_
  rintro e w2 ⟨rfl, hb2⟩
  refine kept_at hb2 w.heap.size (by go_size) fun c2_0 z2_0 s2_0 => ?_
  have b2 := kept_trans (a := w) (by go_grown) hb2
  go_wp2_with fail
  go_region
  all_goals
    go_wp2
    (try simp only [Exit.inBlock, Exit.then])
    refine bodyPost_ret (v := .agg #[.int .i64 X, .int .i64 Y]) ?_ rfl ⟨rfl, ?_⟩
    · rw [results_cell1 rfl]
      go_simp
      exact ⟨HX.out, HY.out⟩
    · go_grown

theorem mul_ge (a b p q : Int) (h1 : 0 ≤ p ∧ p ≤ a) (h2 : 0 ≤ q ∧ q ≤ b) : p * q ≤ a * b := Int.mul_le_mul h1.2 h2.2 h2.1 (by omega)

theorem four (p0 p1 p2 p3 : Bool) : p0 = false ∨ (p0 = true ∧ p1 = false) ∨ (p0 = true ∧ p1 = true ∧ p2 = false) ∨ (p0 = true ∧ p1 = true ∧ p2 = true ∧ p3 = false) ∨ (p0 = true ∧ p1 = true ∧ p2 = true ∧ p3 = true) := by
  cases p0 <;> cases p1 <;> cases p2 <;> cases p3 <;> simp

theorem low_mul (n d : Int) (hd : 0 < d) : ∃ g : Int, 0 < g ∧ n = (lowL n d).1 * g ∧ d = (lowL n d).2 * g := by
  have hp := gcd_pos' n d hd
  refine ⟨(Nat.gcd n.natAbs d.natAbs : Nat), by omega, ?_, ?_⟩
  · unfold lowL
    rw [Int.tdiv_mul_cancel (Int.ofNat_dvd_left.2 (Nat.gcd_dvd_left _ _))]
  · unfold lowL
    rw [Int.tdiv_mul_cancel (Int.ofNat_dvd_left.2 (Nat.gcd_dvd_right _ _))]

/-- The numbers of a sling (legs, span, rise, mass) are as asked. -/
def slB (g p r m : Int) : Bool := inB g 1 4 && inB p 0 400 && inB r 1 400 && inB m 0 1000 && (decide (1 < g) || decide (p = 0))

theorem slB_bd {g p r m : Int} (h : slB g p r m = true) : (1 ≤ g ∧ g ≤ 4) ∧ (0 ≤ p ∧ p ≤ 400) ∧ (1 ≤ r ∧ r ≤ 400) ∧ (0 ≤ m ∧ m ≤ 1000) := by
  simp only [slB, Bool.and_eq_true] at h
  obtain ⟨⟨⟨⟨h0, h1⟩, h2⟩, h3⟩, _⟩ := h
  exact ⟨inB_true h0, inB_true h1, inB_true h2, inB_true h3⟩

def slSq (p r : Int) : Int := p * p + 4 * r * r

/-- Twice the length of a leg, rounded up. -/
noncomputable def slD (p r : Int) : Int := rootL (slSq p r)

theorem root_ex (n : Nat) : ∃ r : Int, IsRoot n r := by
  induction n with
  | zero => exact ⟨0, by omega, by simp, fun q h1 h2 => by omega⟩
  | succ n ih =>
    obtain ⟨r, h1, h2, h3⟩ := ih
    by_cases h : (n : Int) + 1 ≤ r * r
    · exact ⟨r, h1, by omega, fun q a b => by have := h3 q a b; omega⟩
    · have e : (r + 1) * (r + 1) = r * r + 2 * r + 1 := by grind
      refine ⟨r + 1, by omega, by omega, fun q a b => ?_⟩
      have : q * q ≤ r * r := Int.mul_le_mul (by omega) (by omega) a h1
      omega

theorem root_is (n : Int) (h : 0 ≤ n) : IsRoot n (rootL n) := by
  obtain ⟨r, hr⟩ := root_ex n.toNat
  rw [show ((n.toNat : Nat) : Int) = n by omega] at hr
  rw [rootL_eq hr]
  exact hr

theorem slSq_bd (p r : Int) (hp : 0 ≤ p ∧ p ≤ 400) (hr : 1 ≤ r ∧ r ≤ 400) : 4 ≤ slSq p r ∧ slSq p r ≤ 800000 := by
  have h1 := sq_bd p 400 (by omega) (by omega)
  have h2 := sq_bd r 400 (by omega) (by omega)
  have h3 : 1 * 1 ≤ r * r := Int.mul_le_mul hr.1 hr.1 (by omega) (by omega)
  have e : 4 * r * r = 4 * (r * r) := by grind
  unfold slSq
  omega

theorem slD_bd (p r : Int) (hp : 0 ≤ p ∧ p ≤ 400) (hr : 1 ≤ r ∧ r ≤ 400) : 2 ≤ slD p r ∧ slD p r ≤ p + 2 * r := by
  have hb := slSq_bd p r hp hr
  have h := root_is (slSq p r) (by omega)
  unfold slD
  obtain ⟨h1, h2, h3⟩ := h
  generalize hR : rootL (slSq p r) = R at *
  constructor
  · rcases Int.lt_or_le R 2 with h | h
    · have : R = 0 ∨ R = 1 := by omega
      rcases this with rfl | rfl <;> omega
    · exact h
  · rcases Int.lt_or_le (p + 2 * r) R with h | h
    · have h4 := h3 (p + 2 * r) (by omega) h
      have h5 : (p + 2 * r) * (p + 2 * r) = slSq p r + 4 * (p * r) := by unfold slSq; grind
      have h6 := Int.mul_nonneg hp.1 (show 0 ≤ r by omega)
      omega
    · exact h

/-- A step of Newton's never passes the root, rounded down. -/
theorem newton_step (n x : Int) (hn : 0 ≤ n) (hx : 0 < x) : n < ((x + n / x) / 2 + 1) * ((x + n / x) / 2 + 1) := by
  have h1 : n < x * (n / x + 1) := by
    have := Int.lt_ediv_add_one_mul_self n hx
    rw [Int.mul_comm]; exact this
  have h0 : 0 ≤ n / x := Int.ediv_nonneg hn (by omega)
  generalize n / x = q at *
  have h2 : x + q + 1 ≤ 2 * ((x + q) / 2 + 1) := by omega
  generalize (x + q) / 2 + 1 = y at *
  have h3 : (x + q + 1) * (x + q + 1) ≤ (2 * y) * (2 * y) := Int.mul_le_mul h2 h2 (by omega) (by omega)
  have h4 : 0 ≤ (x - (q + 1)) * (x - (q + 1)) := by
    rcases Int.le_total 0 (x - (q + 1)) with h | h
    · exact Int.mul_nonneg h h
    · exact Int.mul_nonneg_of_nonpos_of_nonpos h h
  have e1 : (x + q + 1) * (x + q + 1) = (x - (q + 1)) * (x - (q + 1)) + 4 * (x * (q + 1)) := by grind
  have e2 : (2 * y) * (2 * y) = 4 * (y * y) := by grind
  omega

theorem newton_down (n x : Int) (hn : 0 ≤ n) (hx : 0 < x) (h : n < x * x) : (x + n / x) / 2 < x := by
  have : n / x < x := Int.ediv_lt_of_lt_mul hx h
  omega

/-- Where Newton's steps end, the root is there or one less than it. -/
theorem newton_end (n x : Int) (hx : 0 ≤ x) (h1 : n < (x + 1) * (x + 1)) (h2 : x * x ≤ n) : rootL n = if x * x < n then x + 1 else x := by
  apply rootL_eq
  split
  · refine ⟨by omega, by omega, fun q a b => ?_⟩
    have : q * q ≤ x * x := Int.mul_le_mul (by omega) (by omega) a hx
    omega
  · refine ⟨by omega, by omega, fun q a b => ?_⟩
    have e : x * x = (x - 1) * (x - 1) + 2 * x - 1 := by grind
    have : q * q ≤ (x - 1) * (x - 1) := Int.mul_le_mul (by omega) (by omega) a (by omega)
    omega

/-- The legs that bear. -/
def bearL (g : Int) : Int := if 3 < g then 3 else g

theorem bearL_bd {g : Int} (h : 1 ≤ g ∧ g ≤ 4) : 1 ≤ bearL g ∧ bearL g ≤ 3 := by unfold bearL; split <;> omega

/-- What a force is divided by. -/
def slE (g r : Int) : Int := 2 * bearL g * r

theorem slE_bd (g r : Int) (hg : 1 ≤ g ∧ g ≤ 4) (hr : 1 ≤ r ∧ r ≤ 400) : 2 ≤ slE g r ∧ slE g r ≤ 2400 := by
  have h := bearL_bd hg
  unfold slE
  have h1 := mul_bd (2 * bearL g) r 6 400 (by omega) (by omega)
  have h2 := mul_ge (2 * bearL g) r 2 1 (by omega) (by omega)
  omega

theorem up_iff (n d k : Int) (hd : 0 < d) : upL n d ≤ k ↔ n ≤ k * d := by
  unfold upL
  have e : (k + 1) * d = k * d + d := by grind
  rw [← Int.lt_add_one_iff, Int.ediv_lt_iff_lt_mul hd, e]
  omega

theorem up_scale (c x y : Int) (hc : 0 < c) (hy : 0 < y) : upL (c * x) (c * y) = upL x y := by
  have h : ∀ k, upL (c * x) (c * y) ≤ k ↔ upL x y ≤ k := fun k => by
    rw [up_iff _ _ _ (Int.mul_pos hc hy), up_iff _ _ _ hy, show k * (c * y) = c * (k * y) by grind]
    exact Int.mul_le_mul_left hc
  exact Int.le_antisymm ((h _).2 (Int.le_refl _)) ((h _).1 (Int.le_refl _))

theorem up_low (n d : Int) (hd : 0 < d) : upL (lowL n d).1 (lowL n d).2 = upL n d := by
  have hp := gcd_pos' n d hd
  have d1 : ((Nat.gcd n.natAbs d.natAbs : Nat) : Int) ∣ n := Int.ofNat_dvd_left.2 (Nat.gcd_dvd_left _ _)
  have d2 : ((Nat.gcd n.natAbs d.natAbs : Nat) : Int) ∣ d := Int.ofNat_dvd_left.2 (Nat.gcd_dvd_right _ _)
  unfold lowL
  dsimp only
  generalize Nat.gcd n.natAbs d.natAbs = c at *
  have e1 := Int.mul_tdiv_cancel' d1
  have e2 := Int.mul_tdiv_cancel' d2
  generalize n.tdiv c = x at *
  generalize d.tdiv c = y at *
  rw [← e1, ← e2]
  refine (up_scale _ _ _ (by omega) ?_).symm
  have hc : (0 : Int) < c := by omega
  rcases Int.lt_or_le 0 y with h | h
  · exact h
  · have := Int.mul_nonpos_of_nonneg_of_nonpos (show (0 : Int) ≤ c by omega) h
    omega

/-- The force in a leg, rounded up. -/
noncomputable def slUp (g p r w : Int) : Int := upL (w * slD p r) (slE g r)

/-- How far the legs are spread. -/
def slK (g p r : Int) : Int := if g = 1 then 0 else if p ≤ 2 * r then 1 else if p * p ≤ 12 * r * r then 2 else 3

/-- The greatest weight that is held. -/
noncomputable def gwL (g p r k : Int) : Int := min 50000 (k * slE g r / slD p r)

theorem up_le {g p r : Int} (hg : 1 ≤ g ∧ g ≤ 4) (hp : 0 ≤ p ∧ p ≤ 400) (hr : 1 ≤ r ∧ r ≤ 400) (w k : Int) : slUp g p r w ≤ k ↔ w ≤ k * slE g r / slD p r := by
  have h1 := slE_bd g r hg hr
  have h2 := slD_bd p r hp hr
  unfold slUp
  rw [up_iff _ _ _ (by omega), Int.le_ediv_iff_mul_le (by omega)]

/-- Where the search between a weight that is held and one that is not ends. -/
theorem gw_found {g p r k lo : Int} (hg : 1 ≤ g ∧ g ≤ 4) (hp : 0 ≤ p ∧ p ≤ 400) (hr : 1 ≤ r ∧ r ≤ 400) (h0 : 0 ≤ lo ∧ lo ≤ 50000) (h1 : slUp g p r lo ≤ k) (h2 : lo + 1 = 50001 ∨ k < slUp g p r (lo + 1)) : lo = gwL g p r k := by
  rw [up_le hg hp hr] at h1
  have hle := up_le hg hp hr (lo + 1) k
  unfold gwL
  omega

theorem up_zero {g p r : Int} (hg : 1 ≤ g ∧ g ≤ 4) (hp : 0 ≤ p ∧ p ≤ 400) (hr : 1 ≤ r ∧ r ≤ 400) (k : Int) (hk : 0 ≤ k) : slUp g p r 0 ≤ k := by
  have h1 := slE_bd g r hg hr
  have h2 := slD_bd p r hp hr
  rw [up_le hg hp hr]
  exact Int.ediv_nonneg (Int.mul_nonneg hk (by omega)) (by omega)

/-- The fields of a sling. -/
structure Sl where
  g : Int
  p : Int
  r : Int
  m : Int

def okSl (z : Sl) : Bool := slB z.g z.p z.r z.m

/-- What GreatestWeight returns. -/
noncomputable def gwAll (g p r m : Int) (k : Int) : Int × Int := if codeL3 (slB g p r m) [inB k 0 50000] = 0 then (if slK g p r = 3 then (0, 10) else (gwL g p r k, 0)) else (0, codeL3 (slB g p r m) [inB k 0 50000])

/-- A sling at a place of a block. -/
def SlAt (w : World) (b o : Nat) (z : Sl) : Prop :=
  b < w.heap.size ∧ w.cell? ⟨b, o, none⟩ = some (.int .i64 z.g) ∧ w.cell? ⟨b, o + 1, none⟩ = some (.int .i64 z.p) ∧ w.cell? ⟨b, o + 2, none⟩ = some (.int .i64 z.r) ∧ w.cell? ⟨b, o + 3, none⟩ = some (.int .i64 z.m)

theorem SlAt_kept {W w1 : World} {b o : Nat} {z : Sl} (h : SlAt W b o z) (hb : Below W.heap.size W w1) : SlAt w1 b o z := by
  obtain ⟨hl, h0, h1, h2, h3⟩ := h
  refine ⟨Nat.lt_of_lt_of_le hl hb.size, ?_, ?_, ?_, ?_⟩ <;> (rw [kept_cell hb b _ hl]; assumption)

theorem toSl_any (g p r m : Int) (w : World) :
    Calls Try.prog 25 #[.agg #[.int .i64 g, .int .i64 p, .int .i64 r, .int .i64 m]] w fun e w' => e = .returned (.agg #[.int .i64 g, .int .i64 p, .int .i64 r, .int .i64 m]) ∧ Below w.heap.size w w' := by
  go_enter Try.func25, Try.ntmps25
  go_wp2
  go_returns
  exact ⟨rfl, by go_grown⟩

theorem specSlOk_any (b o : Nat) (z : Sl) (w : World) (h : SlAt w b o z) :
    Calls Try.prog 47 #[.pointer (some ⟨b, o, none⟩)] w fun e w' => e = .returned (.bool (okSl z)) ∧ w = w' := by
  obtain ⟨g, p, r, m⟩ := z
  obtain ⟨_, h0, h1, h2, h3⟩ := h
  unfold okSl slB
  dsimp only at *
  rcases four (inB g 1 4) (inB p 0 400) (inB r 1 400) (inB m 0 1000) with e | ⟨e0, e⟩ | ⟨e0, e1, e⟩ | ⟨e0, e1, e2, e⟩ | ⟨e0, e1, e2, e⟩
  case inr.inr.inr.inr =>
    by_cases hg : 1 < g
    · go_enter Try.func47, Try.ntmps47
      go_wp2_with (go_at_call 48; refine (in_any _ _ _ _).mono ?_; rintro e w1 ⟨rfl, rfl⟩)
      go_ret
      exact ⟨by simp [*], rfl⟩
    · by_cases hp : p = 0
      · go_enter Try.func47, Try.ntmps47
        go_wp2_with (go_at_call 48; refine (in_any _ _ _ _).mono ?_; rintro e w1 ⟨rfl, rfl⟩)
        go_ret
        exact ⟨by simp [*], rfl⟩
      · have hp1 : (p == 0) = false := by simpa using hp
        go_enter Try.func47, Try.ntmps47
        go_wp2_with (go_at_call 48; refine (in_any _ _ _ _).mono ?_; rintro e w1 ⟨rfl, rfl⟩)
        go_ret
        exact ⟨by simp [*], rfl⟩
  all_goals
    go_enter Try.func47, Try.ntmps47
    go_wp2_with (go_at_call 48; refine (in_any _ _ _ _).mono ?_; rintro e w1 ⟨rfl, rfl⟩)
    go_ret
    exact ⟨by simp [*], rfl⟩

theorem SlAt_new (g p r m : Int) (w : World) : SlAt (w.alloc (.cells #[.int .i64 g, .int .i64 p, .int .i64 r, .int .i64 m] 31)) w.heap.size 0 ⟨g, p, r, m⟩ := ⟨by simp, by simp, by simp, by simp, by simp⟩

theorem specSlSq_any (b o : Nat) (z : Sl) (w : World) (h : SlAt w b o z) (hv : okSl z = true) :
    Calls Try.prog 84 #[.pointer (some ⟨b, o, none⟩)] w fun e w' => e = .returned (.int .i64 (slSq z.p z.r)) ∧ ∃ n, w' = w.drewN n := by
  obtain ⟨hg, hp, hr, _⟩ := slB_bd hv
  obtain ⟨g, p, r, m⟩ := z
  obtain ⟨_, h0, h1, h2, h3⟩ := h
  dsimp only at *
  have hb := slSq_bd p r hp hr
  have q1 := mul_bd p p 400 400 hp hp
  have q2 := mul_bd (4 * r) r 1600 400 (by omega) (by omega)
  unfold slSq at *
  have w1 : IntKind.i64.wrap (p * p) = p * p := IntWalk.i64_in _ (by omega)
  have w2 : IntKind.i64.wrap (4 * r) = 4 * r := IntWalk.i64_in _ (by omega)
  have w3 : IntKind.i64.wrap (4 * r * r) = 4 * r * r := IntWalk.i64_in _ (by omega)
  have w4 : IntKind.i64.wrap (p * p + 4 * r * r) = p * p + 4 * r * r := IntWalk.i64_in _ (by omega)
  go_enter Try.func84, Try.ntmps84
  go_wp2_with fail
  go_quiet (fail)
  go_wp2
  go_ret
  exact ⟨rfl, _, rfl⟩

theorem specSlD_any (b o : Nat) (z : Sl) (w : World) (h : SlAt w b o z) (hv : okSl z = true) :
    Calls Try.prog 66 #[.pointer (some ⟨b, o, none⟩)] w fun e w' => e = .returned (.int .i64 (slD z.p z.r)) ∧ Below w.heap.size w w' := by
  have HQ := Lib.hid (specSlSq_any b o z w h hv)
  obtain ⟨hg, hp, hr, _⟩ := slB_bd hv
  have hb := slSq_bd z.p z.r hp hr
  unfold slD
  clear h hv
  generalize slSq z.p z.r = N at *
  have HR := Lib.hid (fun u => l02Root_any N u (by omega) (by omega))
  generalize rootL N = R at *
  go_enter Try.func66, Try.ntmps66
  go_wp2_with fail
  refine HQ.out.mono ?_
  rintro e w1 ⟨rfl, n1, rfl⟩
  go_wp2_with fail
  refine (HR.out _).mono ?_
  rintro e w2 ⟨rfl, rfl⟩
  go_wp2
  go_ret
  exact ⟨rfl, kept_drewN (Below.refl _ _) _⟩

theorem specBear_any (b o : Nat) (z : Sl) (w : World) (h : SlAt w b o z) :
    Calls Try.prog 86 #[.pointer (some ⟨b, o, none⟩)] w fun e w' => e = .returned (.int .i64 (bearL z.g)) ∧ w = w' := by
  obtain ⟨g, p, r, m⟩ := z
  obtain ⟨_, h0, h1, h2, h3⟩ := h
  unfold bearL
  dsimp only at *
  have HM := Lib.hid (fun u => min_any 3 g u)
  by_cases hg : 3 < g
  all_goals
    go_enter Try.func86, Try.ntmps86
    go_wp2_with fail
    refine (HM.out _).mono ?_
    rintro e w1 ⟨rfl, rfl⟩
    go_wp2
    go_ret
    exact ⟨by simp <;> omega, rfl⟩

set_option maxHeartbeats 1000000 in
theorem specSlF_any (b o : Nat) (z : Sl) (k : Int) (w : World) (h : SlAt w b o z) (hv : okSl z = true) (hk : 0 ≤ k ∧ k ≤ 50000) :
    Calls Try.prog 69 #[.pointer (some ⟨b, o, none⟩), .int .i64 k] w fun e w' => e = .returned (.agg #[.int .i64 (lowL (k * slD z.p z.r) (slE z.g z.r)).1, .int .i64 (lowL (k * slD z.p z.r) (slE z.g z.r)).2]) ∧ Below w.heap.size w w' := by
  have HD := Lib.hid (fun u (q : SlAt u b o z) => specSlD_any b o z u q hv)
  have HB := Lib.hid (fun u (q : SlAt u b o z) => specBear_any b o z u q)
  obtain ⟨hg, hp, hr, _⟩ := slB_bd hv
  have hD := slD_bd z.p z.r hp hr
  have hE := slE_bd z.g z.r hg hr
  have hBe := bearL_bd hg
  have hN := mul_bd k (slD z.p z.r) 50000 1200 hk (by omega)
  unfold slE at *
  generalize slD z.p z.r = D at *
  generalize bearL z.g = Be at *
  have HM := Lib.hid (fun u => specMake_any (k * D) (2 * Be * z.r) (by omega) (by omega) u)
  generalize lowL (k * D) (2 * Be * z.r) = Z at *
  obtain ⟨z0, z1⟩ := Z
  have w1 : IntKind.i64.wrap (k * D) = k * D := IntWalk.i64_in _ (by omega)
  have w2 : IntKind.i64.wrap (2 * Be) = 2 * Be := IntWalk.i64_in _ (by omega)
  have w3 : IntKind.i64.wrap (2 * Be * z.r) = 2 * Be * z.r := IntWalk.i64_in _ (by omega)
  have w4 : wrap64 (k * D) = k * D := IntWalk.wrap64_in _ (by omega)
  have w5 : wrap64 (2 * Be) = 2 * Be := IntWalk.wrap64_in _ (by omega)
  have w6 : wrap64 (2 * Be * z.r) = 2 * Be * z.r := IntWalk.wrap64_in _ (by omega)
  have H := Lib.hid h
  obtain ⟨hlt, h0, h1, h2, h3⟩ := h
  have hne : ¬ b = w.heap.size := by omega
  clear hv hp hg hE
  obtain ⟨g, p, r, m⟩ := z
  dsimp only at *
  go_enter Try.func69, Try.ntmps69
  go_wp2_with fail
  go_region_with (first
        | (go_at_call 66; refine (HD.out _ (SlAt_kept H.out (by first | (go_grown; done) | (refine kept_drewN ?_ _; go_grown; done) | (go_grown; refine kept_drewN ?_ _; go_grown)))).mono ?_; rintro e w1 ⟨rfl, hb1⟩; refine kept_at hb1 (w.heap.size) (by go_size) fun c1_0 z1_0 s1_0 => ?_; have b1 := kept_trans (a := w) (by first | (go_grown; done) | (refine kept_drewN ?_ _; go_grown; done) | (go_grown; refine kept_drewN ?_ _; go_grown)) hb1; have hcl := (kept_cell b1 b (o + 2) hlt).trans h2)
        | (go_at_call 86; refine (HB.out _ (SlAt_kept H.out (by first | (go_grown; done) | (refine kept_drewN ?_ _; go_grown; done) | (go_grown; refine kept_drewN ?_ _; go_grown)))).mono ?_; rintro e w2 ⟨rfl, rfl⟩)
        | (go_at_call 85; refine (HM.out _).mono ?_; rintro e w3 ⟨rfl, hb3⟩; refine kept_at hb3 (w.heap.size) (by go_size) fun c3_0 z3_0 s3_0 => ?_; have b3 := kept_trans (a := w) (by first | (go_grown; done) | (refine kept_drewN ?_ _; go_grown; done) | (go_grown; refine kept_drewN ?_ _; go_grown)) hb3))
  all_goals
    go_wp2
    (try simp only [Exit.inBlock, Exit.then])
    refine bodyPost_ret (v := .agg #[.int .i64 z0, .int .i64 z1]) ?_ rfl ⟨rfl, ?_⟩
    · rw [results_cell1 rfl]
      go_simp
    · exact (by first | (go_grown; done) | (refine kept_drewN ?_ _; go_grown; done) | (go_grown; refine kept_drewN ?_ _; go_grown))

theorem low_fr (n d : Int) (hn : 0 ≤ n ∧ n ≤ 60000000) (hd : 1 ≤ d ∧ d ≤ 2400) : (0 ≤ (lowL n d).1 ∧ (lowL n d).1 ≤ 60000000) ∧ (1 ≤ (lowL n d).2 ∧ (lowL n d).2 ≤ 2400) ∧ upL (lowL n d).1 (lowL n d).2 = upL n d := by
  have hu := up_low n d (by omega)
  have hN1 := tdiv_bd n (Nat.gcd n.natAbs d.natAbs) 60000000 (by omega)
  have hE1 := tdiv_bd d (Nat.gcd n.natAbs d.natAbs) 2400 (by omega)
  obtain ⟨c, hc, e1, e2⟩ := low_mul n d (by omega)
  have hpos : 0 < (lowL n d).2 := by
    rcases Int.lt_or_le 0 (lowL n d).2 with h | h
    · exact h
    · have := Int.mul_nonpos_of_nonpos_of_nonneg h (show (0 : Int) ≤ c by omega)
      omega
  have hnn : 0 ≤ (lowL n d).1 := by
    rcases Int.lt_or_le (lowL n d).1 0 with h | h
    · have := Int.mul_neg_of_neg_of_pos h hc
      omega
    · exact h
  exact ⟨⟨hnn, hN1.2⟩, ⟨by omega, hE1.2⟩, hu⟩

theorem specSlUp_any (b o : Nat) (z : Sl) (k : Int) (w : World) (h : SlAt w b o z) (hv : okSl z = true) (hk : 0 ≤ k ∧ k ≤ 50000) :
    Calls Try.prog 62 #[.pointer (some ⟨b, o, none⟩), .int .i64 k] w fun e w' => e = .returned (.int .i64 (slUp z.g z.p z.r k)) ∧ Below w.heap.size w w' := by
  have HF := fun u (q : SlAt u b o z) => specSlF_any b o z k u q hv hk
  obtain ⟨hg, hp, hr, _⟩ := slB_bd hv
  have hD := slD_bd z.p z.r hp hr
  have hE := slE_bd z.g z.r hg hr
  have hN := mul_bd k (slD z.p z.r) 50000 1200 hk (by omega)
  have hl := low_fr (k * slD z.p z.r) (slE z.g z.r) (by omega) (by omega)
  unfold slUp
  generalize upL (k * slD z.p z.r) (slE z.g z.r) = U at *
  generalize lowL (k * slD z.p z.r) (slE z.g z.r) = Z at *
  obtain ⟨z0, z1⟩ := Z
  dsimp only at *
  have HU := Lib.hid (fun u => specUp_any z0 z1 (by omega) (by omega) u)
  rw [hl.2.2] at HU
  have HF := Lib.hid HF
  have H := Lib.hid h; clear h hl hN hE hD hp hg hr hv
  go_enter Try.func62, Try.ntmps62
  go_wp2_with fail
  refine (HF.out _ (SlAt_kept H.out (by go_grown))).mono ?_
  rintro e w1 ⟨rfl, hb1⟩
  go_wp2_with fail
  refine (HU.out _).mono ?_
  rintro e w2 ⟨rfl, rfl⟩
  go_wp2
  go_ret
  exact ⟨rfl, kept_trans hb1 (by go_grown)⟩

theorem specSlCode_any (b o : Nat) (z : Sl) (k : Int) (w : World) (h : SlAt w b o z) :
    Calls Try.prog 60 #[.pointer (some ⟨b, o, none⟩), .int .i64 k] w fun e w' => e = .returned (.int .i64 (codeL3 (okSl z) [inB k 0 50000])) ∧ w = w' := by
  have HO := Lib.hid (specSlOk_any b o z w h); clear h
  generalize okSl z = B at *
  cases B <;> cases hk : inB k 0 50000
  all_goals
    go_enter Try.func60, Try.ntmps60
    go_wp2_with fail
    refine HO.out.mono ?_
    rintro e w1 ⟨rfl, rfl⟩
    go_wp2_with (go_at_call 48; refine (in_any _ _ _ _).mono ?_; rintro e w1 ⟨rfl, rfl⟩)
    go_ret
    exact ⟨by simp [codeL3], rfl⟩

theorem specSlK_any (b o : Nat) (z : Sl) (w : World) (h : SlAt w b o z) (hv : okSl z = true) :
    Calls Try.prog 61 #[.pointer (some ⟨b, o, none⟩)] w fun e w' => e = .returned (.int .i64 (slK z.g z.p z.r)) ∧ Below w.heap.size w w' := by
  obtain ⟨hg, hp, hr, _⟩ := slB_bd hv
  obtain ⟨g, p, r, m⟩ := z
  obtain ⟨_, h0, h1, h2, h3⟩ := h
  dsimp only at *
  clear hv
  have q1 := mul_bd p p 400 400 hp hp
  have q2 := mul_bd (12 * r) r 4800 400 (by omega) (by omega)
  have w1 : IntKind.i64.wrap (p * p) = p * p := IntWalk.i64_in _ (by omega)
  have w2 : IntKind.i64.wrap (12 * r) = 12 * r := IntWalk.i64_in _ (by omega)
  have w3 : IntKind.i64.wrap (12 * r * r) = 12 * r * r := IntWalk.i64_in _ (by omega)
  have w4 : IntKind.i64.wrap (2 * r) = 2 * r := IntWalk.i64_in _ (by omega)
  unfold slK
  by_cases h1g : g = 1
  · subst h1g
    go_enter Try.func61, Try.ntmps61
    go_wp2
    go_ret
    exact ⟨rfl, Below.refl _ _⟩
  have h1b : (g == 1) = false := by simpa using h1g
  rw [if_neg h1g]
  by_cases h2r : p ≤ 2 * r
  · have d2 : decide (p ≤ 2 * r) = true := by simpa using h2r
    rw [if_pos h2r]
    go_enter Try.func61, Try.ntmps61
    go_wp2_with fail
    go_quiet (fail)
    go_wp2
    go_ret
    exact ⟨rfl, kept_drewN (Below.refl _ _) _⟩
  have d2 : decide (p ≤ 2 * r) = false := by simpa using h2r
  rw [if_neg h2r]
  by_cases h3r : p * p ≤ 12 * r * r
  · have d3 : decide (p * p ≤ 12 * r * r) = true := by simpa using h3r
    rw [if_pos h3r]
    go_enter Try.func61, Try.ntmps61
    go_wp2_with fail
    go_quiet (fail)
    go_wp2_with fail
    go_quiet (fail)
    go_wp2
    go_ret
    exact ⟨rfl, kept_drewN (kept_drewN (Below.refl _ _) _) _⟩
  · have d3 : decide (p * p ≤ 12 * r * r) = false := by simpa using h3r
    rw [if_neg h3r]
    go_enter Try.func61, Try.ntmps61
    go_wp2_with fail
    go_quiet (fail)
    go_wp2_with fail
    go_quiet (fail)
    go_wp2
    go_ret
    exact ⟨rfl, kept_drewN (kept_drewN (Below.refl _ _) _) _⟩

set_option maxHeartbeats 1000000 in
theorem specGW_any (g p r m : Int) (k : Int) (w : World) :
    Calls Try.prog 18 #[.agg #[.int .i64 g, .int .i64 p, .int .i64 r, .int .i64 m], .int .i64 k] w fun e w' => e = .returned (.tuple #[.int .i64 (gwAll g p r m k).1, .int .i64 (gwAll g p r m k).2]) ∧ Below w.heap.size w w' := by
  have HA := Lib.hid (SlAt_new g p r m w)
  have HC := fun u (x : SlAt u w.heap.size 0 ⟨g, p, r, m⟩) => specSlCode_any w.heap.size 0 ⟨g, p, r, m⟩ k u x
  have hE : okSl ⟨g, p, r, m⟩ = slB g p r m := rfl
  rw [hE] at HC
  unfold gwAll
  by_cases hK : codeL3 (slB g p r m) [inB k 0 50000] = 0
  · rw [hK] at HC
    rw [if_pos hK]
    obtain ⟨hv, hbs⟩ := codeL3_ok hK
    have hk := inB_true (hbs _ (List.mem_singleton.2 rfl))
    obtain ⟨hg, hp, hr, _⟩ := slB_bd hv
    have HC := Lib.hid HC
    have HD := fun u (x : SlAt u w.heap.size 0 ⟨g, p, r, m⟩) => specSlK_any w.heap.size 0 ⟨g, p, r, m⟩ u x (by rw [hE]; exact hv)
    dsimp only at HD
    have HU := fun n (hn : 0 ≤ n ∧ n ≤ 50000) u (x : SlAt u w.heap.size 0 ⟨g, p, r, m⟩) => specSlUp_any w.heap.size 0 ⟨g, p, r, m⟩ n u x (by rw [hE]; exact hv) hn
    dsimp only at HU
    have HG := Lib.hid (fun lo => @gw_found g p r k lo hg hp hr)
    have h00 := up_zero hg hp hr k hk.1
    generalize gwL g p r k = G at *
    have hfn : ∃ F : Int → Int, ∀ n, slUp g p r n = F n := ⟨_, fun _ => rfl⟩
    obtain ⟨F, hF⟩ := hfn
    simp only [hF] at HU HG h00
    clear hF hK hbs hE hg hp hr hv
    generalize slK g p r = K at *
    have HD := Lib.hid HD
    have HU := Lib.hid HU
    by_cases h3 : K = 3
    · subst h3
      go_enter Try.func18, Try.ntmps18
      go_wp2_with fail
      refine (HC.out _ (SlAt_kept HA.out (by go_grown))).mono ?_
      rintro e w1 ⟨rfl, rfl⟩
      go_wp2_with fail
      refine (HD.out _ (SlAt_kept HA.out (by go_grown))).mono ?_
      rintro e w2 ⟨rfl, hb2⟩
      have b2 := kept_trans (a := w) (by go_grown) hb2
      go_wp2
      go_ret2
      exact ⟨rfl, b2⟩
    · rw [if_neg h3]
      have h3b : (K == 3) = false := by simpa using h3
      go_enter Try.func18, Try.ntmps18
      go_wp2_with fail
      refine (HC.out _ (SlAt_kept HA.out (by go_grown))).mono ?_
      rintro e w1 ⟨rfl, rfl⟩
      go_wp2_with fail
      refine (HD.out _ (SlAt_kept HA.out (by go_grown))).mono ?_
      rintro e w2 ⟨rfl, hb2⟩
      have A2 := Lib.hid (SlAt_kept (SlAt_kept HA.out (by go_grown)) hb2)
      have b2 := kept_trans (a := w) (by go_grown) hb2
      have B2 := Lib.hid b2; clear b2 hb2
      go_wp2_with fail
      go_loopw [7, 8] (fun i j wr => ∃ lo hi : Int, 0 ≤ lo ∧ lo < hi ∧ hi ≤ 50001 ∧ i = .int .i64 lo ∧ j = .int .i64 hi ∧ F lo ≤ k ∧ (hi = 50001 ∨ k < F hi) ∧ Below w2.heap.size w2 wr) (fun i j _ => (intOf j - intOf i).toNat)
      case atStart => exact ⟨0, 50001, by omega, by omega, by omega, rfl, rfl, h00, Or.inl rfl, Below.refl _ _⟩
      case round =>
        obtain ⟨lo, hi, h1, h2, h3, rfl, rfl, h4, h5, hb⟩ := hrel
        by_cases hlt : 1 < hi - lo
        · have g1 : lo ≤ (lo + hi) / 2 := by omega
          have g2 : (lo + hi) / 2 < hi := by omega
          have hwm : (lo + hi).tdiv 2 = (lo + hi) / 2 := Int.tdiv_eq_ediv_of_nonneg (by omega)
          have H4 := Lib.hid h4; clear h4
          have H5 := Lib.hid h5; clear h5
          have hin : 0 ≤ (lo + hi) / 2 ∧ (lo + hi) / 2 ≤ 50000 := by omega
          by_cases hf : F ((lo + hi) / 2) ≤ k
          all_goals
            have HN := Lib.hid (HU.out _ hin wr (SlAt_kept A2.out hb))
            go_wp2_with fail
            refine HN.out.mono ?_
            rintro e w3 ⟨rfl, hb3⟩
            go_wp2
            go_roundw
            case rel => first
              | exact ⟨(lo + hi) / 2, hi, by omega, by omega, h3, rfl, rfl, hf, H5.out, kept_trans hb hb3⟩
              | exact ⟨lo, (lo + hi) / 2, h1, by omega, by omega, rfl, rfl, H4.out, Or.inr (by omega), kept_trans hb hb3⟩
            case measure => simp [intOf]; omega
        · have e : hi = lo + 1 := by omega
          subst e
          have hG := HG.out lo ⟨h1, by omega⟩ h4 h5
          subst hG
          clear h4 h5
          go_wp2
          go_ret2
          exact ⟨rfl, kept_trans B2.out hb⟩
  · rw [if_neg hK]
    have hK1 : (codeL3 (slB g p r m) [inB k 0 50000] == 0) = false := by simpa using hK
    have hK2 : (codeL3 (slB g p r m) [inB k 0 50000] != 0) = true := by simpa using hK
    generalize codeL3 (slB g p r m) [inB k 0 50000] = K at *
    have HC := Lib.hid HC
    go_enter Try.func18, Try.ntmps18
    go_wp2_with fail
    refine (HC.out _ (SlAt_kept HA.out (by go_grown))).mono ?_
    rintro e w1 ⟨rfl, rfl⟩
    go_wp2
    go_ret2
    exact ⟨rfl, by go_grown⟩

set_option maxHeartbeats 1000000 in
theorem implSlV_any (g p r m : Int) (w : World) :
    Calls Try.prog 26 #[.agg #[.int .i64 g, .int .i64 p, .int .i64 r, .int .i64 m]] w fun e w' => e = .returned (.bool (slB g p r m)) ∧ Below w.heap.size w w' := by
  have e1 : slB g p r m = ([g].all (fun n => inB n 1 4) && [p].all (fun n => inB n 0 400) && (decide (1 < g) || decide (p = 0)) && [r].all (fun n => inB n 1 400) && [m].all (fun n => inB n 0 1000)) := by
    simp only [slB, List.all_cons, List.all_nil, Bool.and_true]
    cases inB g 1 4 <;> cases inB p 0 400 <;> cases inB r 1 400 <;> cases inB m 0 1000 <;> simp
  rw [e1]; clear e1
  have H0 := fun v u q => within_any 1 4 v [g] u q
  have H1 := fun v u q => within_any 0 400 v [p] u q
  have H2 := fun v u q => within_any 1 400 v [r] u q
  have H3 := fun v u q => within_any 0 1000 v [m] u q
  generalize [g].all (fun n => inB n 1 4) = p0 at *
  generalize [p].all (fun n => inB n 0 400) = p1 at *
  generalize [r].all (fun n => inB n 1 400) = p2 at *
  generalize [m].all (fun n => inB n 0 1000) = p3 at *
  cases p0
  case false =>
    have H0 := Lib.hid H0
    go_enter Try.func26, Try.ntmps26
    go_wp2_with fail
    refine (H0.out _ _ (rdI1 (by go_size) (by go_simp))).mono ?_
    rintro e w1 ⟨rfl, hb1⟩
    have b1 := kept_trans (a := w) (by go_grown) hb1
    go_wp2
    go_ret
    exact ⟨rfl, b1⟩
  cases p1
  case false =>
    have H0 := Lib.hid H0
    have H1 := Lib.hid H1
    go_enter Try.func26, Try.ntmps26
    go_wp2_with fail
    refine (H0.out _ _ (rdI1 (by go_size) (by go_simp))).mono ?_
    rintro e w1 ⟨rfl, hb1⟩
    refine kept_at hb1 w.heap.size (by go_size) fun c1_0 z1_0 s1_0 => ?_
    have b1 := kept_trans (a := w) (by go_grown) hb1
    go_wp2_with fail
    refine (H1.out _ _ (rdI1 (by go_size) (by go_simp))).mono ?_
    rintro e w2 ⟨rfl, hb2⟩
    have b2 := kept_trans (a := w) (by go_grown) hb2
    go_wp2
    go_ret
    exact ⟨rfl, b2⟩
  by_cases hc : 1 < g ∨ p = 0
  case neg =>
    have d0 : decide (1 < g) = false := by simp; omega
    have d1 : (p == 0) = false := by simp; omega
    have d2 : (decide (1 < g) || decide (p = 0)) = false := by simp; omega
    have d3 : ¬ 1 < g := by omega
    have d4 : ¬ p = 0 := by omega
    rw [d2]
    clear hc d2
    have H0 := Lib.hid H0
    have H1 := Lib.hid H1
    go_enter Try.func26, Try.ntmps26
    go_wp2_with fail
    refine (H0.out _ _ (rdI1 (by go_size) (by go_simp))).mono ?_
    rintro e w1 ⟨rfl, hb1⟩
    refine kept_at hb1 w.heap.size (by go_size) fun c1_0 z1_0 s1_0 => ?_
    have b1 := kept_trans (a := w) (by go_grown) hb1
    go_wp2_with fail
    refine (H1.out _ _ (rdI1 (by go_size) (by go_simp))).mono ?_
    rintro e w2 ⟨rfl, hb2⟩
    refine kept_at hb2 w.heap.size (by go_size) fun c2_0 z2_0 s2_0 => ?_
    have b2 := kept_trans (a := w) (by go_grown) hb2
    go_wp2
    go_ret
    exact ⟨by simp, b2⟩
  have d2 : (decide (1 < g) || decide (p = 0)) = true := by simp; omega
  rw [d2]
  clear d2
  have hc2 : (1 < g) ∨ (¬ 1 < g ∧ p = 0) := by omega
  clear hc
  cases p2
  case false =>
    rcases hc2 with hg | ⟨hg, hp⟩
    all_goals
      (try subst hp)
      have H0 := Lib.hid H0
      have H1 := Lib.hid H1
      have H2 := Lib.hid H2
      go_enter Try.func26, Try.ntmps26
      go_wp2_with fail
      refine (H0.out _ _ (rdI1 (by go_size) (by go_simp))).mono ?_
      rintro e w1 ⟨rfl, hb1⟩
      refine kept_at hb1 w.heap.size (by go_size) fun c1_0 z1_0 s1_0 => ?_
      have b1 := kept_trans (a := w) (by go_grown) hb1
      go_wp2_with fail
      refine (H1.out _ _ (rdI1 (by go_size) (by go_simp))).mono ?_
      rintro e w2 ⟨rfl, hb2⟩
      refine kept_at hb2 w.heap.size (by go_size) fun c2_0 z2_0 s2_0 => ?_
      have b2 := kept_trans (a := w) (by go_grown) hb2
      go_wp2_with fail
      refine (H2.out _ _ (rdI1 (by go_size) (by go_simp))).mono ?_
      rintro e w3 ⟨rfl, hb3⟩
      have b3 := kept_trans (a := w) (by go_grown) hb3
      go_wp2
      go_ret
      exact ⟨by simp, b3⟩
  case true =>
    rcases hc2 with hg | ⟨hg, hp⟩
    all_goals
      (try subst hp)
      have H0 := Lib.hid H0
      have H1 := Lib.hid H1
      have H2 := Lib.hid H2
      have H3 := Lib.hid H3
      go_enter Try.func26, Try.ntmps26
      go_wp2_with fail
      refine (H0.out _ _ (rdI1 (by go_size) (by go_simp))).mono ?_
      rintro e w1 ⟨rfl, hb1⟩
      refine kept_at hb1 w.heap.size (by go_size) fun c1_0 z1_0 s1_0 => ?_
      have b1 := kept_trans (a := w) (by go_grown) hb1
      go_wp2_with fail
      refine (H1.out _ _ (rdI1 (by go_size) (by go_simp))).mono ?_
      rintro e w2 ⟨rfl, hb2⟩
      refine kept_at hb2 w.heap.size (by go_size) fun c2_0 z2_0 s2_0 => ?_
      have b2 := kept_trans (a := w) (by go_grown) hb2
      go_wp2_with fail
      refine (H2.out _ _ (rdI1 (by go_size) (by go_simp))).mono ?_
      rintro e w3 ⟨rfl, hb3⟩
      refine kept_at hb3 w.heap.size (by go_size) fun c3_0 z3_0 s3_0 => ?_
      have b3 := kept_trans (a := w) (by go_grown) hb3
      go_wp2_with fail
      refine (H3.out _ _ (rdI1 (by go_size) (by go_simp))).mono ?_
      rintro e w4 ⟨rfl, hb4⟩
      have b4 := kept_trans (a := w) (by go_grown) hb4
      go_wp2
      go_ret
      exact ⟨by simp, b4⟩

theorem slCode_any (g p r m : Int) (v : Value) (zs : List Int) (w : World) (hz : RdI w v zs) :
    Calls Try.prog 63 #[.agg #[.int .i64 g, .int .i64 p, .int .i64 r, .int .i64 m], v] w fun e w' => e = .returned (.int .i64 (codeL3 (slB g p r m) (zs.map fun n => inB n 0 50000))) ∧ Below w.heap.size w w' := by
  have HV := Lib.hid (fun u => implSlV_any g p r m u)
  have HW := fun u (q : RdI u v zs) => within_any 0 50000 v zs u q
  have eA : (zs.all fun n => inB n 0 50000) = (zs.map fun n => inB n 0 50000).all id := by simp [List.all_map]
  rw [eA] at HW
  obtain ⟨A, n, c, hv⟩ : ∃ A n c, v = .slice A n c := by obtain ⟨_, A, c, e, _⟩ := hz; exact ⟨_, _, _, e⟩
  unfold codeL3
  have H := Lib.hid hz; clear hz eA
  generalize (zs.map fun n => inB n 0 50000).all id = P at *
  have HW := Lib.hid HW
  generalize slB g p r m = B at *
  subst hv
  cases B
  case false =>
    go_enter Try.func63, Try.ntmps63
    go_wp2_with fail
    refine (HV.out _).mono ?_
    rintro e w1 ⟨rfl, hb1⟩
    have b1 := kept_trans (a := w) (by go_grown) hb1
    go_wp2
    go_ret
    exact ⟨rfl, b1⟩
  case true =>
    cases P
    all_goals
      go_enter Try.func63, Try.ntmps63
      go_wp2_with fail
      refine (HV.out _).mono ?_
      rintro e w1 ⟨rfl, hb1⟩
      have b1 := kept_trans (a := w) (by go_grown) hb1
      go_wp2_with fail
      refine (HW.out _ (RdI_kept H.out b1)).mono ?_
      rintro e w2 ⟨rfl, hb2⟩
      go_wp2
      go_ret
      exact ⟨rfl, kept_trans b1 hb2⟩

set_option maxHeartbeats 1000000 in
theorem doubleLen_any (g p r m : Int) (hp : 0 ≤ p ∧ p ≤ 400) (hr : 1 ≤ r ∧ r ≤ 400) (w : World) :
    Calls Try.prog 68 #[.agg #[.int .i64 g, .int .i64 p, .int .i64 r, .int .i64 m]] w fun e w' => e = .returned (.int .i64 (slD p r)) ∧ Below w.heap.size w w' := by
  have hb := slSq_bd p r hp hr
  have q1 := mul_bd p p 400 400 hp hp
  have q2 := mul_bd (4 * r) r 1600 400 (by omega) (by omega)
  have hini : slSq p r < (p + 2 * r + 1) * (p + 2 * r + 1) := by
    have e : (p + 2 * r + 1) * (p + 2 * r + 1) = slSq p r + 4 * (p * r) + 2 * p + 4 * r + 1 := by unfold slSq; grind
    have := Int.mul_nonneg hp.1 (show 0 ≤ r by omega)
    omega
  have HN := Lib.hid (fun x => newton_end (slSq p r) x)
  unfold slD
  have eS : slSq p r = p * p + 4 * r * r := rfl
  have w1 : IntKind.i64.wrap (p * p) = p * p := IntWalk.i64_in _ (by omega)
  have w2 : IntKind.i64.wrap (4 * r) = 4 * r := IntWalk.i64_in _ (by omega)
  have w3 : IntKind.i64.wrap (4 * r * r) = 4 * r * r := IntWalk.i64_in _ (by omega)
  have w4 : IntKind.i64.wrap (p * p + 4 * r * r) = slSq p r := by rw [eS]; exact IntWalk.i64_in _ (by omega)
  have v1 : wrap64 (p * p) = p * p := IntWalk.wrap64_in _ (by omega)
  have v2 : wrap64 (4 * r) = 4 * r := IntWalk.wrap64_in _ (by omega)
  have v3 : wrap64 (4 * r * r) = 4 * r * r := IntWalk.wrap64_in _ (by omega)
  have v4 : wrap64 (p * p + 4 * r * r) = slSq p r := by rw [eS]; exact IntWalk.wrap64_in _ (by omega)
  clear eS
  generalize slSq p r = S at *
  generalize rootL S = D at *
  go_enter Try.func68, Try.ntmps68
  go_wp2_with fail
  clear w1 w2 w3 w4 v1 v2 v3 v4
  go_loopw [4] (fun i wr => ∃ x : Int, 0 ≤ x ∧ x ≤ 1200 ∧ i = .int .i64 x ∧ S < (x + 1) * (x + 1) ∧ Below w.heap.size w wr) (fun i _ => (intOf i).toNat)
  case atStart => exact ⟨p + 2 * r, by omega, by omega, rfl, hini, by go_grown⟩
  case round =>
    obtain ⟨x, h0, h1, rfl, h2, hb⟩ := hrel
    have hx := sq_bd x 1200 (by omega) h1
    have y1 : IntKind.i64.wrap (x * x) = x * x := IntWalk.i64_in _ (by omega)
    have y2 : wrap64 (x * x) = x * x := IntWalk.wrap64_in _ (by omega)
    by_cases hlt : S < x * x
    · have hx0 : 0 < x := by
        rcases Int.lt_or_le 0 x with h | h
        · exact h
        · have : x = 0 := by omega
          subst this
          omega
      have hne : ¬ x = 0 := by omega
      have hne1 : ¬ x = -1 := by omega
      have hneb : (x == 0) = false := by simpa using hne
      have hd1 : S.tdiv x = S / x := Int.tdiv_eq_ediv_of_nonneg (by omega)
      have hst := newton_step S x (by omega) hx0
      have hdn := newton_down S x (by omega) hx0 hlt
      have hq0 : 0 ≤ S / x := Int.ediv_nonneg (by omega) (by omega)
      have hqx : S / x < x := Int.ediv_lt_of_lt_mul hx0 hlt
      have HD1 := Lib.hid hd1; clear hd1
      have hw5 : IntKind.i64.wrap (S.tdiv x) = S / x := by rw [HD1.out]; exact IntWalk.i64_in _ (by omega)
      have hw6 : wrap64 (S.tdiv x) = S / x := by rw [HD1.out]; exact IntWalk.wrap64_in _ (by omega)
      generalize S / x = q at *
      have hd2 : (x + q).tdiv 2 = (x + q) / 2 := Int.tdiv_eq_ediv_of_nonneg (by omega)
      have HST := Lib.hid hst; clear hst
      go_wp2
      go_roundw
      case rel => exact ⟨(x + q) / 2, by omega, by omega, by simp [*, HD1.out] <;> omega, HST.out, hb⟩
      case measure => simp [intOf] <;> omega
    · have hE := HN.out x h0 h2 (by omega)
      by_cases hlt2 : x * x < S
      · rw [if_pos hlt2] at hE
        subst hE
        have y3 : IntKind.i64.wrap (x + 1) = x + 1 := IntWalk.i64_in _ (by omega)
        have y4 : wrap64 (x + 1) = x + 1 := IntWalk.wrap64_in _ (by omega)
        clear h2
        go_wp2
        go_ret
        exact ⟨rfl, hb⟩
      · rw [if_neg hlt2] at hE
        subst hE
        clear h2
        go_wp2
        go_ret
        exact ⟨rfl, hb⟩

/-- What depends on whether a sling has one leg or several. -/
def shapeL (g p r m : Int) : Value := if g = 1 then .iface 94 (.agg #[]) else .iface 96 (.agg #[.int .i64 g, .int .i64 p, .int .i64 r, .int .i64 m])

theorem rigged_any (g p r m : Int) (w : World) :
    Calls Try.prog 54 #[.agg #[.int .i64 g, .int .i64 p, .int .i64 r, .int .i64 m]] w fun e w' => e = .returned (.agg #[.int .i64 g, .int .i64 p, .int .i64 r, .int .i64 m, shapeL g p r m]) ∧ Below w.heap.size w w' := by
  unfold shapeL
  by_cases h : g = 1
  · rw [if_pos h]
    subst h
    go_enter Try.func54, Try.ntmps54
    go_wp2
    (try simp only [Exit.inBlock, Exit.then])
    refine bodyPost_ret (v := .agg #[.int .i64 1, .int .i64 p, .int .i64 r, .int .i64 m, .iface 94 (.agg #[])]) ?_ rfl ⟨rfl, ?_⟩
    · rw [results_cell1 rfl]
      go_simp
    · go_grown
  · rw [if_neg h]
    have hb : (g == 1) = false := by simpa using h
    go_enter Try.func54, Try.ntmps54
    go_wp2
    (try simp only [Exit.inBlock, Exit.then])
    refine bodyPost_ret (v := .agg #[.int .i64 g, .int .i64 p, .int .i64 r, .int .i64 m, .iface 96 (.agg #[.int .i64 g, .int .i64 p, .int .i64 r, .int .i64 m])]) ?_ rfl ⟨rfl, ?_⟩
    · rw [results_cell1 rfl]
      go_simp
    · go_grown

theorem plumbB_any (w : World) : Calls Try.prog 109 #[.agg #[]] w fun e w' => e = .returned (.int .i64 1) ∧ Below w.heap.size w w' := by
  go_enter Try.func109, Try.ntmps109
  go_wp2
  go_ret
  exact ⟨rfl, by go_grown⟩

theorem plumbK_any (w : World) : Calls Try.prog 110 #[.agg #[]] w fun e w' => e = .returned (.int .i64 0) ∧ Below w.heap.size w w' := by
  go_enter Try.func110, Try.ntmps110
  go_wp2
  go_ret
  exact ⟨rfl, by go_grown⟩

theorem spreadB_any (g p r m : Int) (w : World) : Calls Try.prog 111 #[.agg #[.int .i64 g, .int .i64 p, .int .i64 r, .int .i64 m]] w fun e w' => e = .returned (.int .i64 (bearL g)) ∧ Below w.heap.size w w' := by
  unfold bearL
  by_cases h : 3 < g
  · rw [if_pos h]
    go_enter Try.func111, Try.ntmps111
    go_wp2
    all_goals
      go_ret
      exact ⟨by simp <;> omega, by go_grown⟩
  · rw [if_neg h]
    go_enter Try.func111, Try.ntmps111
    go_wp2
    all_goals
      go_ret
      exact ⟨by simp <;> omega, by go_grown⟩

theorem spreadK_any (g p r m : Int) (hp : 0 ≤ p ∧ p ≤ 400) (hr : 1 ≤ r ∧ r ≤ 400) (hg : ¬ g = 1) (w : World) : Calls Try.prog 112 #[.agg #[.int .i64 g, .int .i64 p, .int .i64 r, .int .i64 m]] w fun e w' => e = .returned (.int .i64 (slK g p r)) ∧ Below w.heap.size w w' := by
  have q1 := mul_bd p p 400 400 hp hp
  have q2 := mul_bd (12 * r) r 4800 400 (by omega) (by omega)
  have w1 : IntKind.i64.wrap (p * p) = p * p := IntWalk.i64_in _ (by omega)
  have w2 : IntKind.i64.wrap (12 * r) = 12 * r := IntWalk.i64_in _ (by omega)
  have w3 : IntKind.i64.wrap (12 * r * r) = 12 * r * r := IntWalk.i64_in _ (by omega)
  have w4 : IntKind.i64.wrap (2 * r) = 2 * r := IntWalk.i64_in _ (by omega)
  have v1 : wrap64 (p * p) = p * p := IntWalk.wrap64_in _ (by omega)
  have v2 : wrap64 (12 * r) = 12 * r := IntWalk.wrap64_in _ (by omega)
  have v3 : wrap64 (12 * r * r) = 12 * r * r := IntWalk.wrap64_in _ (by omega)
  have v4 : wrap64 (2 * r) = 2 * r := IntWalk.wrap64_in _ (by omega)
  unfold slK
  rw [if_neg hg]
  clear hg
  by_cases h2 : p ≤ 2 * r
  · have d2 : decide (p ≤ 2 * r) = true := by simpa using h2
    rw [if_pos h2]
    go_enter Try.func112, Try.ntmps112
    go_wp2
    go_ret
    exact ⟨rfl, by go_grown⟩
  have d2 : decide (p ≤ 2 * r) = false := by simpa using h2
  rw [if_neg h2]
  by_cases h3 : p * p ≤ 12 * r * r
  · have d3 : decide (p * p ≤ 12 * r * r) = true := by simpa using h3
    rw [if_pos h3]
    go_enter Try.func112, Try.ntmps112
    go_wp2
    go_ret
    exact ⟨rfl, by go_grown⟩
  · have d3 : decide (p * p ≤ 12 * r * r) = false := by simpa using h3
    rw [if_neg h3]
    go_enter Try.func112, Try.ntmps112
    go_wp2
    go_ret
    exact ⟨rfl, by go_grown⟩

set_option maxHeartbeats 4000000 in
theorem force_any (g p r m : Int) (k : Int) (w : World) (hv : slB g p r m = true) (hk : 0 ≤ k ∧ k ≤ 50000) :
    Calls Try.prog 64 #[.agg #[.int .i64 g, .int .i64 p, .int .i64 r, .int .i64 m, shapeL g p r m], .int .i64 k] w fun e w' => e = .returned (.agg #[.int .i64 (k * slD p r), .int .i64 (slE g r)]) ∧ Below w.heap.size w w' := by
  obtain ⟨hg, hp, hr, _⟩ := slB_bd hv
  clear hv
  have HD := Lib.hid (fun u => doubleLen_any g p r m hp hr u)
  have hD := slD_bd p r hp hr
  have hN := mul_bd k (slD p r) 50000 1200 hk (by omega)
  generalize slD p r = D at *
  have w1 : IntKind.i64.wrap (k * D) = k * D := IntWalk.i64_in _ (by omega)
  have v1 : wrap64 (k * D) = k * D := IntWalk.wrap64_in _ (by omega)
  unfold slE shapeL
  by_cases h1 : g = 1
  · rw [if_pos h1]
    subst h1
    rw [show 2 * bearL 1 * r = 2 * r from rfl]
    have kw2 : IntKind.i64.wrap (2 * r) = 2 * r := IntWalk.i64_in _ (by omega)
    have v2 : wrap64 (2 * r) = 2 * r := IntWalk.wrap64_in _ (by omega)
    go_enter Try.func64, Try.ntmps64
    go_wp2_with fail
    first
      | go_region_held3 (fun w' => w'.cell? ⟨w.heap.size, 0, none⟩ = some (.int .i64 1) ∧ w'.cell? ⟨w.heap.size, 1, none⟩ = some (.int .i64 p) ∧ w'.cell? ⟨w.heap.size, 2, none⟩ = some (.int .i64 r) ∧ w'.cell? ⟨w.heap.size, 3, none⟩ = some (.int .i64 m) ∧ w'.cell? ⟨w.heap.size, 4, none⟩ = some (.iface 94 (.agg #[])))
          (first | go_keep | (simp [*]; done)) (first
          | (go_at_call 68; refine (HD.out _).mono ?_; rintro e w1 ⟨rfl, hb1⟩; refine kept_at hb1 (w.heap.size) (by go_size) fun c1_0 z1_0 s1_0 => ?_; refine kept_at hb1 (w.heap.size + 1) (by go_size) fun c1_1 z1_1 s1_1 => ?_; have b1 := kept_trans (a := w) (by first | (go_grown; done) | (refine kept_drewN ?_ _; go_grown; done) | (go_grown; refine kept_drewN ?_ _; go_grown)) hb1)
          | (go_at_call 109; refine (plumbB_any _).mono ?_; rintro e w2 ⟨rfl, hb2⟩; refine kept_at hb2 (w.heap.size) (by go_size) fun c2_0 z2_0 s2_0 => ?_; refine kept_at hb2 (w.heap.size + 1) (by go_size) fun c2_1 z2_1 s2_1 => ?_; have b2 := kept_trans (a := w) (by first | (go_grown; done) | (refine kept_drewN ?_ _; go_grown; done) | (go_grown; refine kept_drewN ?_ _; go_grown)) hb2))
      | fail
    all_goals
      go_wp2
      (try simp only [Exit.inBlock, Exit.then])
      refine bodyPost_ret (v := .agg #[.int .i64 (k * D), .int .i64 (2 * r)]) ?_ rfl ⟨rfl, ?_⟩
      · rw [results_cell1 rfl]
        go_simp
        first | done | (rw [show IntKind.i64.wrap 2 = 2 from rfl]; exact kw2)
      · exact (by first | (go_grown; done) | (refine kept_drewN ?_ _; go_grown; done) | (go_grown; refine kept_drewN ?_ _; go_grown))
  · rw [if_neg h1]
    have hB := bearL_bd hg
    have HB := Lib.hid (fun u => spreadB_any g p r m u)
    generalize bearL g = Be at *
    have q2 := mul_bd (2 * Be) r 6 400 (by omega) (by omega)
    have w2 : IntKind.i64.wrap (2 * Be) = 2 * Be := IntWalk.i64_in _ (by omega)
    have v2 : wrap64 (2 * Be) = 2 * Be := IntWalk.wrap64_in _ (by omega)
    have w3 : IntKind.i64.wrap (2 * Be * r) = 2 * Be * r := IntWalk.i64_in _ (by omega)
    have v3 : wrap64 (2 * Be * r) = 2 * Be * r := IntWalk.wrap64_in _ (by omega)
    go_enter Try.func64, Try.ntmps64
    go_wp2_with fail
    first
      | go_region_held3 (fun w' => w'.cell? ⟨w.heap.size, 0, none⟩ = some (.int .i64 g) ∧ w'.cell? ⟨w.heap.size, 1, none⟩ = some (.int .i64 p) ∧ w'.cell? ⟨w.heap.size, 2, none⟩ = some (.int .i64 r) ∧ w'.cell? ⟨w.heap.size, 3, none⟩ = some (.int .i64 m) ∧ w'.cell? ⟨w.heap.size, 4, none⟩ = some (.iface 96 (.agg #[.int .i64 g, .int .i64 p, .int .i64 r, .int .i64 m])))
          (first | go_keep | (simp [*]; done)) (first
          | (go_at_call 68; refine (HD.out _).mono ?_; rintro e w1 ⟨rfl, hb1⟩; refine kept_at hb1 (w.heap.size) (by go_size) fun c1_0 z1_0 s1_0 => ?_; refine kept_at hb1 (w.heap.size + 1) (by go_size) fun c1_1 z1_1 s1_1 => ?_; have b1 := kept_trans (a := w) (by first | (go_grown; done) | (refine kept_drewN ?_ _; go_grown; done) | (go_grown; refine kept_drewN ?_ _; go_grown)) hb1)
          | (go_at_call 111; refine (HB.out _).mono ?_; rintro e w2 ⟨rfl, hb2⟩; refine kept_at hb2 (w.heap.size) (by go_size) fun c2_0 z2_0 s2_0 => ?_; refine kept_at hb2 (w.heap.size + 1) (by go_size) fun c2_1 z2_1 s2_1 => ?_; have b2 := kept_trans (a := w) (by first | (go_grown; done) | (refine kept_drewN ?_ _; go_grown; done) | (go_grown; refine kept_drewN ?_ _; go_grown)) hb2))
      | fail
    all_goals
      go_wp2
      (try simp only [Exit.inBlock, Exit.then])
      refine bodyPost_ret (v := .agg #[.int .i64 (k * D), .int .i64 (2 * Be * r)]) ?_ rfl ⟨rfl, ?_⟩
      · rw [results_cell1 rfl]
        go_simp
      · exact (by first | (go_grown; done) | (refine kept_drewN ?_ _; go_grown; done) | (go_grown; refine kept_drewN ?_ _; go_grown))

set_option maxHeartbeats 1000000 in
theorem implGW_any (g p r m : Int) (k : Int) (w : World) :
    Calls Try.prog 19 #[.agg #[.int .i64 g, .int .i64 p, .int .i64 r, .int .i64 m], .int .i64 k] w fun e w' => e = .returned (.tuple #[.int .i64 (gwAll g p r m k).1, .int .i64 (gwAll g p r m k).2]) ∧ Below w.heap.size w w' := by
  have HC := fun u v (x : RdI u v [k]) => slCode_any g p r m v [k] u x
  rw [show ([k].map fun n => inB n 0 50000) = [inB k 0 50000] from rfl] at HC
  unfold gwAll
  by_cases hK : codeL3 (slB g p r m) [inB k 0 50000] = 0
  · rw [hK] at HC
    rw [if_pos hK]
    obtain ⟨hv, hbs⟩ := codeL3_ok hK
    have hk := inB_true (hbs _ (List.mem_singleton.2 rfl))
    have HC := Lib.hid (fun u v x => HC u v x)
    have HR := fun u => rigged_any g p r m u
    have HF := fun u => force_any g p r m 1 u hv (by omega)
    rw [Int.one_mul] at HF
    obtain ⟨hg, hp, hr, _⟩ := slB_bd hv
    have hD := slD_bd p r hp hr
    have hE := slE_bd g r hg hr
    have hN := mul_bd k (slE g r) 50000 2400 hk (by omega)
    have hq0 : 0 ≤ k * slE g r / slD p r := Int.ediv_nonneg (by omega) (by omega)
    have hq1 : k * slE g r / slD p r ≤ k * slE g r := Int.ediv_le_self _ (by omega)
    have hQ : (k * slE g r).tdiv (slD p r) = k * slE g r / slD p r := Int.tdiv_eq_ediv_of_nonneg (by omega)
    unfold gwL
    clear hK hbs hv
    unfold shapeL at *
    have kw1 : IntKind.i64.wrap (k * slE g r) = k * slE g r := IntWalk.i64_in _ (by omega)
    have kw2 : wrap64 (k * slE g r) = k * slE g r := IntWalk.wrap64_in _ (by omega)
    have kw3 : IntKind.i64.wrap ((k * slE g r).tdiv (slD p r)) = k * slE g r / slD p r := by rw [hQ]; exact IntWalk.i64_in _ (by omega)
    have kw4 : wrap64 ((k * slE g r).tdiv (slD p r)) = k * slE g r / slD p r := by rw [hQ]; exact IntWalk.wrap64_in _ (by omega)
    have hd0 : ¬ slD p r = 0 := by omega
    have hd1 : ¬ slD p r = -1 := by omega
    have hd2 : (slD p r == 0) = false := by simpa using hd0
    clear hQ
    by_cases h1 : g = 1
    · rw [if_pos h1] at HR HF
      have eK : slK g p r = 0 := by unfold slK; rw [if_pos h1]
      rw [eK, if_neg (by omega)]
      clear eK
      subst h1
      generalize k * slE 1 r / slD p r = Q at *
      generalize slE 1 r = Y at *
      generalize slD p r = D at *
      have HR := Lib.hid HR
      have HF := Lib.hid HF
      go_enter Try.func19, Try.ntmps19
      go_wp2_with fail
      refine (HC.out _ _ (rdI1 (by go_size) (by go_simp))).mono ?_
      rintro e w1 ⟨rfl, hb1⟩
      refine kept_at hb1 w.heap.size (by go_size) fun c1_0 z1_0 s1_0 => ?_
      have b1 := kept_trans (a := w) (by go_grown) hb1
      go_wp2_with fail
      refine (HR.out _).mono ?_
      rintro e w2 ⟨rfl, hb2⟩
      have b2 := kept_trans b1 hb2
      go_wp2_with fail
      refine (plumbK_any _).mono ?_
      rintro e w3 ⟨rfl, hb3⟩
      refine kept_at hb3 w2.heap.size (by go_size) fun c3_0 z3_0 s3_0 => ?_
      have b3 := kept_trans (kept_trans b2 (by go_grown)) hb3
      go_wp2_with fail
      refine (HF.out _).mono ?_
      rintro e w4 ⟨rfl, hb4⟩
      have b4 := kept_trans b3 hb4
      go_wp2
      all_goals
        go_ret2
        exact ⟨by simp <;> omega, kept_trans b4 (by go_grown)⟩
    · rw [if_neg h1] at HR HF
      have HK := fun u => spreadK_any g p r m hp hr h1 u
      generalize slK g p r = K at *
      generalize k * slE g r / slD p r = Q at *
      generalize slE g r = Y at *
      generalize slD p r = D at *
      have HR := Lib.hid HR
      have HF := Lib.hid HF
      have HK := Lib.hid HK
      by_cases h3 : K = 3
      · subst h3
        rw [if_pos rfl]
        go_enter Try.func19, Try.ntmps19
        go_wp2_with fail
        refine (HC.out _ _ (rdI1 (by go_size) (by go_simp))).mono ?_
        rintro e w1 ⟨rfl, hb1⟩
        refine kept_at hb1 w.heap.size (by go_size) fun c1_0 z1_0 s1_0 => ?_
        have b1 := kept_trans (a := w) (by go_grown) hb1
        go_wp2_with fail
        refine (HR.out _).mono ?_
        rintro e w2 ⟨rfl, hb2⟩
        have b2 := kept_trans b1 hb2
        go_wp2_with fail
        refine (HK.out _).mono ?_
        rintro e w3 ⟨rfl, hb3⟩
        have b3 := kept_trans (kept_trans b2 (by go_grown)) hb3
        go_wp2
        go_ret2
        exact ⟨rfl, b3⟩
      · rw [if_neg h3]
        have h3b : (K == 3) = false := by simpa using h3
        go_enter Try.func19, Try.ntmps19
        go_wp2_with fail
        refine (HC.out _ _ (rdI1 (by go_size) (by go_simp))).mono ?_
        rintro e w1 ⟨rfl, hb1⟩
        refine kept_at hb1 w.heap.size (by go_size) fun c1_0 z1_0 s1_0 => ?_
        have b1 := kept_trans (a := w) (by go_grown) hb1
        go_wp2_with fail
        refine (HR.out _).mono ?_
        rintro e w2 ⟨rfl, hb2⟩
        have b2 := kept_trans b1 hb2
        go_wp2_with fail
        refine (HK.out _).mono ?_
        rintro e w3 ⟨rfl, hb3⟩
        refine kept_at hb3 w2.heap.size (by go_size) fun c3_0 z3_0 s3_0 => ?_
        have b3 := kept_trans (kept_trans b2 (by go_grown)) hb3
        go_wp2_with fail
        refine (HF.out _).mono ?_
        rintro e w4 ⟨rfl, hb4⟩
        have b4 := kept_trans b3 hb4
        go_wp2
        all_goals
          go_ret2
          exact ⟨by simp <;> omega, kept_trans b4 (by go_grown)⟩
  · rw [if_neg hK]
    have hK1 : (codeL3 (slB g p r m) [inB k 0 50000] == 0) = false := by simpa using hK
    have hK2 : (codeL3 (slB g p r m) [inB k 0 50000] != 0) = true := by simpa using hK
    generalize codeL3 (slB g p r m) [inB k 0 50000] = K at *
    have HC := Lib.hid (fun u v x => HC u v x)
    go_enter Try.func19, Try.ntmps19
    go_wp2_with fail
    refine (HC.out _ _ (rdI1 (by go_size) (by go_simp))).mono ?_
    rintro e w1 ⟨rfl, hb1⟩
    have b1 := kept_trans (a := w) (by go_grown) hb1
    go_wp2
    go_ret2
    exact ⟨rfl, b1⟩

theorem walk_FnExactGreatestWeight (g : Int) (wg : (Lit.int .i64 g).wf = true) (p : Int) (wp : (Lit.int .i64 p).wf = true) (r : Int) (wr : (Lit.int .i64 r).wf = true) (m : Int) (wm : (Lit.int .i64 m).wf = true) (k : Int) (wk : (Lit.int .i64 k).wf = true) (w : World) :
    Calls Try.prog 10 #[.agg #[.int .i64 g, .int .i64 p, .int .i64 r, .int .i64 m], .int .i64 k] w fun e w' => e = .returned (.bool true) ∧ Below w.heap.size w w' := by
  have hS := fun u => specGW_any g p r m k u
  have hI := fun u => implGW_any g p r m k u
  generalize gwAll g p r m k = L at *
  obtain ⟨la, lb⟩ := L
  (try dsimp only at hS hI)
  have HS := Lib.hid hS; clear hS
  have HI := Lib.hid hI; clear hI
  go_enter Try.func10, Try.ntmps10
  go_wp2_with fail
  refine (toSl_any g p r m _).mono ?_
  rintro e w1 ⟨rfl, b1⟩
  refine kept_at b1 (w.heap.size) (by go_size) fun c1_0 z1_0 s1_0 => ?_
  replace b1 := kept_trans (a := w) (by go_grown) b1
  have l1 := kept_cell b1
  have zz1 := b1.size
  go_wp2_with fail
  refine (HS.out _).mono ?_
  rintro e w2 ⟨rfl, b2⟩
  refine kept_at b2 (w.heap.size) (by go_size) fun c2_0 z2_0 s2_0 => ?_
  replace b2 := kept_trans (a := w) (by go_grown) b2
  have l2 := kept_cell b2
  have zz2 := b2.size
  go_wp2_with fail
  refine (toSl_any g p r m _).mono ?_
  rintro e w3 ⟨rfl, b3⟩
  refine kept_at b3 (w.heap.size) (by go_size) fun c3_0 z3_0 s3_0 => ?_
  replace b3 := kept_trans (a := w) (by go_grown) b3
  have l3 := kept_cell b3
  have zz3 := b3.size
  go_wp2_with fail
  refine (HI.out _).mono ?_
  rintro e w4 ⟨rfl, b4⟩
  replace b4 := kept_trans (a := w) (by go_grown) b4
  have l4 := kept_cell b4
  have zz4 := b4.size
  go_wp2
  go_ret
  exact ⟨rfl, by go_grown⟩

end Go.Proofs.Ytedmpjgpgbmolaa
namespace Go.Proofs.Ytedmpjgpgbmolaa.fnExactGreatestWeight
open Go.ChangeShapes Go.WideShapes Go.ChangeAt Go.RowKit
set_option linter.unusedVariables false
set_option linter.unusedSimpArgs false
open Go.Joins Go.ChangeMaps
set_option maxRecDepth 100000 in
theorem lifted (os : Os) (started : os.Started) (H : Type) (enc : TypeId × Value → H) :
    ReturnsInHanded {} Try.checked os 10 .any (Rows.fnExactGreatestWeightSpec.pre6 enc Try.prog Try.f10 Rows.fnExactGreatestWeightRow.domain false) (Rows.fnExactGreatestWeightSpec.post enc Try.prog Try.f10 false true false false) := by
  refine returnsInHanded_of_change (C := Try.checked) (show ownKnob Try.prog.godebug = none by kernel_rfl) started (by kernel_rfl) Try.func10
    (ChangeSpec.witness6 (enc := enc) (C := Try.checked) false ⟨#[], #[.agg #[.int .i64 0, .int .i64 0, .int .i64 0, .int .i64 0], .int .i64 0], []⟩ 8 (by kernel_rfl) (by kernel_rfl) (by kernel_rfl) (by kernel_rfl)) ?_
  intro W base args ds gs before hval0 hW hcnd _
  have hval : ∀ (j : Nat) t v, Try.f10.params[j]? = some t → args[j]? = some v → Value.okWide Try.prog W .any base t v := hval0
  have hW' := hW
  obtain ⟨p, q, hA0, hV, rfl, hfz, hnd⟩ := hW
  have hA : DataW.TrodAll enc Try.prog W 0 (fun _ => true) true Try.f10.params.toList args.toList ds p := hA0
  rw [Try.params10] at hA hval
  obtain ⟨v0, vs0, d0, ds0, p0, q0, hargs, rfl, rfl, h0, r0⟩ := trodAll_cons hA
  obtain ⟨v1, vs1, d1, ds1, p1, q1, rfl, rfl, rfl, h1, r1⟩ := trodAll_cons r0
  obtain ⟨rfl, rfl, rfl⟩ := trodAll_nil r1
  obtain rfl : args = #[v0, v1] := by cases args; simp_all
  obtain ⟨rfl, rfl⟩ := trodVars_none hV
  obtain ⟨c0_0, c0_1, c0_2, c0_3, y0_0, y0_1, y0_2, y0_3, m0, rfl, rfl, rfl, h0_0, h0_1, h0_2, h0_3⟩ := Joins.open_agg4 Try.underlying35 (by kernel_rfl) (show Try.prog.cellsOf 35 = 4 by kernel_rfl) (hval 0 35 v0 rfl rfl) h0
  obtain ⟨a0_0, e0_0, rfl, w0_0⟩ := DataW.trod_int Try.underlying2 h0_0
  simp at e0_0
  subst e0_0
  obtain ⟨a0_1, e0_1, rfl, w0_1⟩ := DataW.trod_int Try.underlying2 h0_1
  simp at e0_1
  subst e0_1
  obtain ⟨a0_2, e0_2, rfl, w0_2⟩ := DataW.trod_int Try.underlying2 h0_2
  simp at e0_2
  subst e0_2
  obtain ⟨a0_3, e0_3, rfl, w0_3⟩ := DataW.trod_int Try.underlying2 h0_3
  simp at e0_3
  subst e0_3
  obtain ⟨a1, rfl, rfl, rfl, w1⟩ := open_int Try.underlying2 (hval 1 2 v1 rfl rfl) h1
  clear hA0 hval0
  refine (walk_FnExactGreatestWeight (w := W) a0_0 w0_0 a0_1 w0_1 a0_2 w0_2 a0_3 w0_3 a1 w1).mono fun e W' ⟨he, hb⟩ => ?_
  subst he
  exact ⟨_, rfl, law_post (B := 4) (by kernel_rfl) (by kernel_rfl) rfl Try.underlying4 rfl hW' rfl hb⟩

/-- The statement: for every input the law returns true, and the arguments read afterwards as before. -/
theorem proved : Rows.FnExactGreatestWeightSaid :=
  OpenClaim.holds_of_wide 10 Try.f10 rfl rfl rfl rfl rfl rfl rfl ⟨rfl, rfl, rfl, rfl, rfl⟩ rfl rfl rfl rfl rfl (by kernel_rfl) Try.func10 (by kernel_rfl)
    (of_decide_eq_true (by kernel_rfl)) (by unfold Func.isWrapper; first | (rw [if_pos (by decide +kernel)]; kernel_rfl) | (rw [if_neg (by decide +kernel)]; exact ⟨rfl, rfl⟩))
    (fun os started H enc _ => lifted os started H enc)
end Go.Proofs.Ytedmpjgpgbmolaa.fnExactGreatestWeight
