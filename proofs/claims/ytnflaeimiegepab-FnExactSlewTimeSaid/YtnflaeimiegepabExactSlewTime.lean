/- Proved: for every input the law FnExactSlewTime returns true, and each argument reads afterwards as it read before; no condition beside those of the given row. -/
import Derived.Test.YtnflaeimiegepabRows
import Derived.WalkKit
import Derived.ProofKit
import Derived.OpenShut
import Derived.Lib.Hide
import Derived.Handy
import Derived.BigQuiet
import Derived.Carry
import Derived.Deep.RegionHeld3
import Derived.Shelf.Abstract
import Derived.Lib.SmallJoins
import Derived.ChangeMaps5
namespace Go.Proofs.Ytnflaeimiegepab
open Go.ChangeShapes Go.WideShapes Go.ChangeAt Go.RowKit
set_option linter.unusedVariables false
set_option linter.unusedSimpArgs false

theorem tmod_pos (n k : Int) (h : 0 ≤ n) : n.tmod k = n % k := Int.tmod_eq_emod_of_nonneg h

theorem tmod_bd (n k : Int) (hk : 0 < k) : -k < n.tmod k ∧ n.tmod k < k ∧ ∃ q, n = k * q + n.tmod k := by
  refine ⟨Int.lt_tmod_of_pos n hk, Int.tmod_lt_of_pos n hk, n.tdiv k, ?_⟩
  have := Int.mul_tdiv_add_tmod n k
  omega

theorem trodAll_stay {H : Type} {enc : TypeId × Value → H} {P : Program} (hl : laidOutB P = true) {W W' : World} (hb : Below W.heap.size W W') :
    ∀ (ts : List TypeId) (vs : List Value) (ds : List (DataW H)) (ps : List MemPlace), ts.all (fun t => P.readableRec t && decide (t < P.types.size)) = true →
      DataW.TrodAll enc P W 0 (fun _ => true) true ts vs ds ps → (∀ x ∈ ps, x.block < W.heap.size) →
      DataW.TrodAll enc P W' 0 (fun b => decide (b < W.heap.size)) true ts vs ds ps := by
  intro ts
  induction ts with
  | nil => intro vs ds ps _ h _; obtain ⟨rfl, rfl, rfl⟩ := trodAll_nil h; exact rfl
  | cons t ts ih =>
    intro vs ds ps hr h hlt
    simp only [List.all_cons, Bool.and_eq_true, decide_eq_true_eq] at hr
    obtain ⟨v, vs', d, ds', p, q, rfl, rfl, rfl, h0, h1⟩ := trodAll_cons h
    exact ⟨p, q, Below.trod hl hr.1.1 hr.1.2 h0 hb (fun x hx => hlt x (by simp [hx])), ih _ _ _ hr.2 h1 (fun x hx => hlt x (by simp [hx])), rfl⟩

/-- A law's row at its end: it returned true, and of what was there nothing has turned. -/
theorem law_post {H : Type} {enc : TypeId × Value → H} {P : Program} {f : Func} {s : ChangeSpec} {W W' : World} {args : Array Value} {ds gs : List (DataW H)} {before : List MemPlace} {B : TypeId}
    (hl : laidOutB P = true) (hr : f.params.toList.all (fun t => P.readableRec t && decide (t < P.types.size)) = true)
    (hres : f.resultTypes = #[B]) (hB : P.underlying B = some .bool) (hv : s.vars = [])
    (hW : DataW.Whole enc P f.params.toList s.vars false W args.toList ds gs before)
    (hfn : s.fn H (ds ++ gs) = { results := [.lit (.bool true)], args := ds }) (hb : Below W.heap.size W W') :
    s.post enc P f false true false false W args (.bool true) W' := by
  have hlt : ∀ p ∈ before, p.block < W.heap.size := fun p hp => hW.lt p hp
  have hW' := hW
  obtain ⟨p, q, hA, hV, rfl, _, _⟩ := hW'
  rw [hv] at hV
  obtain ⟨rfl, rfl⟩ := trodVars_none hV
  refine ⟨ds, [], p ++ [], [], p, [], hW, ?_, ?_, ?_, hb.frame _, fun h => by cases h⟩
  · rw [hfn, hres]
    exact trodAll_cons_mk (shut_bool hB _) trodAll_mk0
  · rw [hfn]
    exact trodAll_stay hl hb _ _ _ _ hr hA (fun x hx => hlt x (by simp [hx]))
  · rw [hfn, hv]
    exact rfl

theorem kept_cell {W w1 : World} (hb : Below W.heap.size W w1) (b o : Nat) (h : b < W.heap.size) : w1.cell? ⟨b, o, none⟩ = W.cell? ⟨b, o, none⟩ := hb.cell (p := ⟨b, o, none⟩) h

theorem kept_frozen {W w1 : World} (hb : Below W.heap.size W w1) (b o : Nat) (h : b < W.heap.size) : w1.frozen? ⟨b, o, none⟩ = W.frozen? ⟨b, o, none⟩ := hb.frozen (p := ⟨b, o, none⟩) h

theorem kept_trans {a b c : World} (h : Below a.heap.size a b) (k : Below b.heap.size b c) : Below a.heap.size a c := h.trans (k.mono h.size)

theorem kept_at {W w1 : World} (hb : Below W.heap.size W w1) (b : Nat) {G : Prop} (h : b < W.heap.size)
    (k : (∀ o, w1.cell? ⟨b, o, none⟩ = W.cell? ⟨b, o, none⟩) → (∀ o, w1.frozen? ⟨b, o, none⟩ = W.frozen? ⟨b, o, none⟩) → b < w1.heap.size → G) : G :=
  k (fun o => kept_cell hb b o h) (fun o => kept_frozen hb b o h) (Nat.lt_of_lt_of_le h hb.size)

def inB (n low high : Int) : Bool := decide (low ≤ n) && decide (n ≤ high)

theorem in_any (n low high : Int) (w : World) :
    Calls Try.prog 52 #[.int .i64 n, .int .i64 low, .int .i64 high] w fun e w' => e = .returned (.bool (inB n low high)) ∧ w = w' := by
  unfold inB
  by_cases h1 : low ≤ n <;> by_cases h2 : n ≤ high <;>
  · go_enter Try.func52, Try.ntmps52
    go_wp2
    go_ret
    exact ⟨by simp [*], rfl⟩

theorem mod_any (n : Int) (h1 : -1000000 ≤ n) (h2 : n ≤ 1000000) (w : World) :
    Calls Try.prog 75 #[.int .i64 n] w fun e w' => e = .returned (.int .i64 (n % 24)) ∧ w = w' := by
  have hb := tmod_bd n 24 (by omega)
  go_enter Try.func75, Try.ntmps75
  go_wp2
  go_ret
  have e1 : wrap64 (n.tmod 24 + 24) = n.tmod 24 + 24 := IntWalk.wrap64_in _ (by omega)
  have e2 := tmod_pos (n.tmod 24 + 24) 24 (by omega)
  exact ⟨by simp [e1, e2]; omega, rfl⟩

theorem dir_any (n : Int) (w : World) :
    Calls Try.prog 47 #[.int .i64 n] w fun e w' => e = .returned (.bool (inB n 0 23)) ∧ w = w' := by
  go_enter Try.func47, Try.ntmps47
  go_wp2_with (go_at_call 52; refine (in_any _ _ _ _).mono ?_; rintro e w' ⟨rfl, rfl⟩)
  go_ret
  exact ⟨rfl, rfl⟩

theorem valid_any (n : Int) (w : World) :
    Calls Try.prog 51 #[.int .i64 n] w fun e w' => e = .returned (.bool (inB n 0 23)) ∧ w = w' := by
  unfold inB
  by_cases h1 : 0 ≤ n <;> by_cases h2 : n < 24 <;>
  · go_enter Try.func51, Try.ntmps51
    go_wp2
    go_ret
    exact ⟨by simp [*]; try omega, rfl⟩

theorem turned_any (h b : Int) (h1 : -1000 ≤ h) (h2 : h ≤ 1000) (h3 : -1000 ≤ b) (h4 : b ≤ 1000) (w : World) :
    Calls Try.prog 124 #[.int .i64 h, .int .i64 b] w fun e w' => e = .returned (.int .i64 ((h + b) % 24)) ∧ w = w' := by
  have hb := tmod_bd (h + b) 24 (by omega)
  go_enter Try.func124, Try.ntmps124
  go_wp2
  go_ret
  exact ⟨by simp; omega, rfl⟩

theorem inB_true {n a b : Int} (h : inB n a b = true) : a ≤ n ∧ n ≤ b := by simpa [inB] using h

def turnL (n : Int) : Int := if 12 < n % 24 then n % 24 - 24 else n % 24

def turnBetweenL (a b : Int) : Int × Int := if inB a 0 23 && inB b 0 23 then (turnL (b - a), 0) else (0, 2)

theorem l02Turn_any (a b : Int) (h1 : -1000 ≤ a ∧ a ≤ 1000) (h2 : -1000 ≤ b ∧ b ≤ 1000) (w : World) :
    Calls Try.prog 49 #[.int .i64 a, .int .i64 b] w fun e w' => e = .returned (.int .i64 (turnL (b - a))) ∧ w = w' := by
  unfold turnL
  by_cases h : 12 < (b - a) % 24
  all_goals
    go_enter Try.func49, Try.ntmps49
    go_wp2_with (go_at_call 75; refine (mod_any _ (by omega) (by omega) _).mono ?_; rintro e w1 ⟨rfl, rfl⟩)
    go_ret
    exact ⟨by simp [*], rfl⟩

theorem implTurnBetween_any (a b : Int) (w : World) :
    Calls Try.prog 123 #[.int .i64 a, .int .i64 b] w fun e w' => e = .returned (.tuple #[.int .i64 (turnBetweenL a b).1, .int .i64 (turnBetweenL a b).2]) ∧ w = w' := by
  unfold turnBetweenL turnL
  cases h1 : inB a 0 23 <;> cases h2 : inB b 0 23
  case true.true =>
    have g1 := inB_true h1
    have g2 := inB_true h2
    by_cases h : 12 < (b + -a) % 24
    all_goals
      go_enter Try.func123, Try.ntmps123
      go_wp2_with (first | (go_at_call 51; refine (valid_any _ _).mono ?_; rintro e w1 ⟨rfl, rfl⟩) | (go_at_call 124; refine (turned_any _ _ (by omega) (by omega) (by omega) (by omega) _).mono ?_; rintro e w1 ⟨rfl, rfl⟩))
      go_ret2
      exact ⟨by simp [h1, h2, Int.sub_eq_add_neg] <;> omega, rfl⟩
  all_goals
    go_enter Try.func123, Try.ntmps123
    go_wp2_with (go_at_call 51; refine (valid_any _ _).mono ?_; rintro e w1 ⟨rfl, rfl⟩)
    go_ret2
    exact ⟨by simp [*], rfl⟩

/-- The slice value reads as a list of numbers. -/
def RdI (w : World) (v : Value) (zs : List Int) : Prop :=
  zs.length ≤ 9223372036854775807 ∧ ∃ A c, v = .slice A zs.length c ∧ ∀ k, (hk : k < zs.length) → ∃ b off, A = some ⟨b, off, none⟩ ∧ b < w.heap.size ∧ w.cell? ⟨b, off + k, none⟩ = some (.int .i64 zs[k])

theorem RdI_kept {W w1 : World} {v : Value} {zs : List Int} (h : RdI W v zs) (hb : Below W.heap.size W w1) : RdI w1 v zs := by
  obtain ⟨hl, A, c, rfl, hr⟩ := h
  refine ⟨hl, A, c, rfl, fun k hk => ?_⟩
  obtain ⟨b, off, e, hlt, hc⟩ := hr k hk
  exact ⟨b, off, e, Nat.lt_of_lt_of_le hlt hb.size, by rw [kept_cell hb b _ hlt]; exact hc⟩

theorem mul_bd (a b p q : Int) (h1 : 0 ≤ a ∧ a ≤ p) (h2 : 0 ≤ b ∧ b ≤ q) : 0 ≤ a * b ∧ a * b ≤ p * q :=
  ⟨Int.mul_nonneg h1.1 h2.1, Int.mul_le_mul h1.2 h2.2 h2.1 (by omega)⟩

theorem max_any (a b : Int) (w : World) :
    Calls Try.prog 74 #[.int .i64 a, .int .i64 b] w fun e w' => e = .returned (.int .i64 (max a b)) ∧ w = w' := by
  by_cases h : b < a
  · rw [show max a b = a by omega]
    go_enter Try.func74, Try.ntmps74
    go_wp2
    go_ret
    exact ⟨rfl, rfl⟩
  · rw [show max a b = b by omega]
    go_enter Try.func74, Try.ntmps74
    go_wp2
    go_ret
    exact ⟨rfl, rfl⟩

/-- The first place at which p holds; -1 if there is none. -/
def idxL {α : Type} (p : α → Bool) (zs : List α) : Int := if zs.findIdx p < zs.length then (zs.findIdx p : Int) else -1

theorem idxL_is {α : Type} {p : α → Bool} {zs : List α} {k : Nat} (h : k < zs.length) (hk : p zs[k] = true) (hb : ∀ j (hj : j < zs.length), j < k → p zs[j] = false) : idxL p zs = (k : Int) := by
  unfold idxL
  have e : zs.findIdx p = k := by
    rw [List.findIdx_eq h]
    exact ⟨hk, fun j hj => hb j (by omega) hj⟩
  rw [e, if_pos h]

theorem idxL_none {α : Type} {p : α → Bool} {zs : List α} (hb : ∀ j (hj : j < zs.length), p zs[j] = false) : idxL p zs = -1 := by
  unfold idxL
  have e : zs.findIdx p = zs.length := by
    rw [List.findIdx_eq_length]
    intro x hx
    obtain ⟨i, hi, rfl⟩ := List.mem_iff_getElem.1 hx
    exact hb i hi
  rw [e, if_neg (by omega)]

theorem idxL_any {α : Type} (p : α → Bool) (zs : List α) : decide (0 ≤ idxL p zs) = zs.any p := by
  unfold idxL
  by_cases h : zs.findIdx p < zs.length
  · rw [if_pos h]
    have := List.findIdx_lt_length.1 h
    simp
    obtain ⟨x, hx, hp⟩ := this
    exact ⟨x, hx, hp⟩
  · rw [if_neg h]
    have : ¬ ∃ x ∈ zs, p x = true := fun hx => h (List.findIdx_lt_length.2 hx)
    simp at this ⊢
    exact this

theorem idxL_bd {α : Type} (p : α → Bool) (zs : List α) : -1 ≤ idxL p zs ∧ idxL p zs ≤ zs.length := by
  unfold idxL
  split <;> omega

/-- A moment without its sign. -/
def tiltL (n : Int) : Int := max n (-n)

theorem RdI_of (w : World) (g c : Nat) (zs : List Int) (hl : zs.length ≤ 9223372036854775807) (hg : g < w.heap.size) (hc : ∀ k, (hk : k < zs.length) → w.cell? ⟨g, k, none⟩ = some (.int .i64 zs[k])) : RdI w (.slice (some ⟨g, 0, none⟩) zs.length c) zs :=
  ⟨hl, _, _, rfl, fun k hk => ⟨g, 0, rfl, hg, by rw [Nat.zero_add]; exact hc k hk⟩⟩

set_option maxRecDepth 100000 in
theorem indexFuncI_any (v : Value) (zs : List Int) (g : FuncId) (he : Enters Try.prog g) (cap : Array Value) (p : Int → Bool) (w : World) (h : RdI w v zs)
    (hf : ∀ k (hk : k < zs.length) w1, Below w.heap.size w w1 → Calls Try.prog g (#[.int .i64 zs[k]] ++ cap) w1 fun e w2 => e = .returned (.bool (p zs[k])) ∧ Below w1.heap.size w1 w2) :
    Calls Try.prog 90 #[v, .func (.func g) #[] cap] w fun e w' => e = .returned (.int .i64 (idxL p zs)) ∧ Below w.heap.size w w' := by
  obtain ⟨hl, A, c, rfl, r1⟩ := h
  have R := Lib.hid r1; clear r1
  have Hf := Lib.hid hf; clear hf
  have HIS := Lib.hid (fun k (h : k < zs.length) => @idxL_is _ p zs k h)
  have HNO := Lib.hid (@idxL_none _ p zs)
  generalize idxL p zs = G at *
  go_enter Try.func90, Try.ntmps90
  go_wp2_with fail
  go_loopw [8] (fun i wr => ∃ k : Nat, k ≤ zs.length ∧ i = .int .i64 k ∧ (∀ j (hj : j < zs.length), j < k → p zs[j] = false) ∧ Below w.heap.size w wr) (fun i _ => zs.length - (intOf i).toNat)
  case atStart => exact ⟨0, by omega, rfl, fun j _ h => by omega, Below.refl _ _⟩
  case round =>
    obtain ⟨k, hk, rfl, hall, hb⟩ := hrel
    by_cases hlt : k < zs.length
    · obtain ⟨b, off, rfl, hbl, hc0⟩ := R.out k hlt
      rw [← kept_cell hb b _ hbl] at hc0
      have hc := Hf.out k hlt wr hb
      cases hp : p zs[k]
      · have hnx : ∀ j (hj : j < zs.length), j < k + 1 → p zs[j] = false := fun j hj hjk => by
          rcases Nat.lt_or_ge j k with h1 | h1
          · exact hall j hj h1
          · obtain rfl : j = k := by omega
            exact hp
        rw [hp] at hc
        have HNX := Lib.hid hnx; clear hnx hall hp
        have Hc := Lib.hid hc; clear hc
        generalize zs[k] = x at *
        go_wp2_with fail
        rw [he, Oper.upon_enter]
        refine Hc.out.mono ?_
        rintro e w1 ⟨rfl, hb1⟩
        go_wp2
        go_roundw
        case rel => exact ⟨k + 1, by omega, by go_num, HNX.out, kept_trans hb hb1⟩
        case measure => simp [intOf]; omega
      · have hE := HIS.out k hlt hp hall
        subst hE
        rw [hp] at hc
        have Hc := Lib.hid hc; clear hc hall hp
        generalize zs[k] = x at *
        go_wp2_with fail
        rw [he, Oper.upon_enter]
        refine Hc.out.mono ?_
        rintro e w1 ⟨rfl, hb1⟩
        go_wp2
        go_ret
        exact ⟨rfl, kept_trans hb hb1⟩
    · have : k = zs.length := by omega
      subst this
      have hE := HNO.out (fun j hj => hall j hj hj)
      clear hall
      subst hE
      go_wp2
      go_ret
      exact ⟨rfl, hb⟩

theorem containsFuncI_any (v : Value) (zs : List Int) (g : FuncId) (he : Enters Try.prog g) (cap : Array Value) (p : Int → Bool) (w : World) (h : RdI w v zs)
    (hf : ∀ k (hk : k < zs.length) w1, Below w.heap.size w w1 → Calls Try.prog g (#[.int .i64 zs[k]] ++ cap) w1 fun e w2 => e = .returned (.bool (p zs[k])) ∧ Below w1.heap.size w1 w2) :
    Calls Try.prog 72 #[v, .func (.func g) #[] cap] w fun e w' => e = .returned (.bool (zs.any p)) ∧ Below w.heap.size w w' := by
  have H := Lib.hid (indexFuncI_any v zs g he cap p w h hf)
  obtain ⟨hl, A, c, rfl, r1⟩ := h
  clear hf r1
  have hbd := idxL_bd p zs
  rw [← idxL_any]
  generalize idxL p zs = G at *
  go_enter Try.func72, Try.ntmps72
  go_wp2_with fail
  refine H.out.mono ?_
  rintro e w1 ⟨rfl, hb1⟩
  go_wp2
  go_ret
  exact ⟨rfl, hb1⟩

theorem outside_any (n lo hi : Int) (b1 b2 : Nat) (w : World) (h1 : w.cell? ⟨b1, 0, none⟩ = some (.int .i64 lo)) (h2 : w.cell? ⟨b2, 0, none⟩ = some (.int .i64 hi)) :
    Calls Try.prog 73 #[.int .i64 n, .pointer (some ⟨b1, 0, none⟩), .pointer (some ⟨b2, 0, none⟩)] w fun e w' => e = .returned (.bool (!inB n lo hi)) ∧ Below w.heap.size w w' := by
  unfold inB
  by_cases g1 : lo ≤ n <;> by_cases g2 : n ≤ hi
  all_goals
    go_enter Try.func73, Try.ntmps73
    go_wp2
    go_ret
    exact ⟨by simp [*], Below.refl _ _⟩

theorem within_any (lo hi : Int) (v : Value) (zs : List Int) (w : World) (h : RdI w v zs) :
    Calls Try.prog 46 #[.int .i64 lo, .int .i64 hi, v] w fun e w' => e = .returned (.bool (zs.all fun n => inB n lo hi)) ∧ Below w.heap.size w w' := by
  have hall : (zs.all fun n => inB n lo hi) = !(zs.any fun n => !inB n lo hi) := by simp [List.any_eq_not_all_not]
  rw [hall]
  clear hall
  have HC := Lib.hid (fun u (q : RdI u v zs) b1 b2 (l1 : b1 < u.heap.size) (l2 : b2 < u.heap.size) (c1 : u.cell? ⟨b1, 0, none⟩ = some (.int .i64 lo)) (c2 : u.cell? ⟨b2, 0, none⟩ = some (.int .i64 hi)) =>
    containsFuncI_any v zs 73 (enters_of Try.func73 (by kernel_rfl) rfl) #[.pointer (some ⟨b1, 0, none⟩), .pointer (some ⟨b2, 0, none⟩)] (fun n => !inB n lo hi) u q
      (fun k hk w1 hb => outside_any zs[k] lo hi b1 b2 w1 (by rw [kept_cell hb b1 0 l1]; exact c1) (by rw [kept_cell hb b2 0 l2]; exact c2)))
  obtain ⟨hl, A, c, rfl, r1⟩ := h
  have H := Lib.hid (show RdI w (.slice A zs.length c) zs from ⟨hl, A, c, rfl, r1⟩); clear r1
  generalize (zs.any fun n => !inB n lo hi) = X at *
  have hmf : ∀ (fn : Fn) (first cap : Array Value) (w : World), (Instr.makeFunc fn first cap).run Try.prog w = .ok (.func fn first cap) w := fun _ _ _ _ => rfl
  go_enter Try.func46, Try.ntmps46
  go_wp2_with fail
  refine (HC.out _ (RdI_kept H.out (by go_grown)) w.heap.size (w.heap.size + 1) (by simp; try omega) (by simp) (by simp) (by simp)).mono ?_
  rintro e w1 ⟨rfl, hb1⟩
  have b1 := kept_trans (a := w) (by go_grown) hb1
  go_wp2
  go_ret
  exact ⟨rfl, b1⟩

theorem four (p0 p1 p2 p3 : Bool) : p0 = false ∨ (p0 = true ∧ p1 = false) ∨ (p0 = true ∧ p1 = true ∧ p2 = false) ∨ (p0 = true ∧ p1 = true ∧ p2 = true ∧ p3 = false) ∨ (p0 = true ∧ p1 = true ∧ p2 = true ∧ p3 = true) := by
  cases p0 <;> cases p1 <;> cases p2 <;> cases p3 <;> simp

/-- A world in which all that was there in W stands as it was. -/
structure BelowBy (W : World) where
  w : World
  h : Below W.heap.size W w
instance belowBy_some (W : World) : Inhabited (BelowBy W) := ⟨⟨W, Below.refl _ _⟩⟩

/-- A region that draws its order, whose operations only read and whose callees only make memory: walked once. -/
theorem wp_region_below {P : Program} {id : Nat} {Q : Exit → Act → World → Prop} {a : Act} {w : World} {l : List Oper} (hm : P.follows .mixedOrders = true) (hB : Region.lexB .any l.toArray = true)
    (h : wpQuiet P l.toArray (fun w' => ∃ p : BelowBy w, w' = p.w) (fun a' => ∀ w', (∃ p : BelowBy w, w' = p.w) → Q .normal a' w') l a) : (Code.region id l.toArray true).wp P Q a w :=
  wp_region_quiet (C := fun w' => ∃ p : BelowBy w, w' = p.w) hm hB ⟨⟨{ w with drawn := w.drawn + 1 }, ⟨rfl, rfl, rfl, Nat.le_refl _, fun _ _ => rfl⟩⟩, rfl⟩ (by simpa using h)

theorem below_call {P : Program} {f : FuncId} {args : Array Value} {W : World} {x : BelowBy W} {v : Value}
    (h : Below W.heap.size W x.w → Calls P f args x.w fun e w' => e = .returned v ∧ Below x.w.heap.size x.w w') : Calls P f args x.w fun e w'' => e = .returned v ∧ ∃ p : BelowBy W, w'' = p.w :=
  (h x.h).mono fun _ w' ⟨he, hb⟩ => ⟨he, ⟨w', kept_trans x.h hb⟩, rfl⟩

theorem same_below {P : Program} {f : FuncId} {args : Array Value} {w : World} {v : Ending} (h : Calls P f args w fun e w' => e = v ∧ w = w') : Calls P f args w fun e w' => e = v ∧ Below w.heap.size w w' :=
  h.mono fun _ _ ⟨h1, h2⟩ => ⟨h1, by rw [← h2]; exact Below.refl _ _⟩

/-- A block begins with these values. -/
def BoxR (u : World) (b : Nat) (row : List Value) : Prop := b < u.heap.size ∧ ∀ i v, row[i]? = some v → u.cell? ⟨b, i, none⟩ = some v

theorem BoxR_kept {u u1 : World} {b : Nat} {row : List Value} (h : BoxR u b row) (hb : Below u.heap.size u u1) : BoxR u1 b row :=
  ⟨Nat.lt_of_lt_of_le h.1 hb.size, fun i v hv => (kept_cell hb b i h.1).trans (h.2 i v hv)⟩

theorem BoxR_new' {u : World} {b : Nat} {arr : Array Value} {t : TypeId} (h : b = u.heap.size) : BoxR (u.alloc (.cells arr t)) b arr.toList := by
  subst h
  refine ⟨by simp, fun i v hv => ?_⟩
  rw [cell_of_row _ _ i _ _ _ (heap_alloc_new u _)]
  simpa using hv

theorem wrap_in {n : Int} (h : -9223372036854775808 ≤ n ∧ n ≤ 9223372036854775807) : IntKind.i64.wrap n = n := IntWalk.i64_in n (by omega)

theorem max2_any {P : Program} (w : World) (ts : Array TypeId) (t : TypeId) (x y : Int) : (Builtin.max_ ts t #[.int .i64 x, .int .i64 y]).run P w = .ok (.int .i64 (max x y)) w := by
  have e1 : (if x < y then y else x) = max x y := by rw [Int.max_def]; split <;> split <;> omega
  simp [Builtin.max_, Builtin.max2, e1]

/-- Speeds (seconds a direction, decimetres a second of the trolley and of the hook, seconds to hook) are as asked. -/
def spB (va vb vc vd : Int) : Bool := inB va 1 600 && inB vb 1 600 && inB vc 1 600 && inB vd 1 600

theorem spB_true {va vb vc vd : Int} (h : spB va vb vc vd = true) : (1 ≤ va ∧ va ≤ 600) ∧ (1 ≤ vb ∧ vb ≤ 600) ∧ (1 ≤ vc ∧ vc ≤ 600) ∧ (1 ≤ vd ∧ vd ≤ 600) := by
  simp only [spB, Bool.and_eq_true] at h
  obtain ⟨⟨⟨g0, g1⟩, g2⟩, g3⟩ := h
  exact ⟨inB_true g0, inB_true g1, inB_true g2, inB_true g3⟩

theorem turnL_bd (n : Int) : -11 ≤ turnL n ∧ turnL n ≤ 12 := by unfold turnL; split <;> omega

theorem tiltL_bd {n a : Int} (h : -a ≤ n ∧ n ≤ a) : 0 ≤ tiltL n ∧ tiltL n ≤ a := by unfold tiltL; omega

/-- What SlewTime returns. -/
def slewL (va vb vc vd : Int) (a b : Int) : Int × Int := if spB va vb vc vd then (if inB a 0 23 && inB b 0 23 then (tiltL (turnL (b - a)) * va, 0) else (0, 2)) else (0, 1)

theorem speed_any (n : Int) (w : World) :
    Calls Try.prog 71 #[.int .i64 n] w fun e w' => e = .returned (.bool (inB n 1 600)) ∧ w = w' := by
  go_enter Try.func71, Try.ntmps71
  go_wp2_with (go_at_call 52; refine (in_any _ _ _ _).mono ?_; rintro e w1 ⟨rfl, rfl⟩)
  go_ret
  exact ⟨rfl, rfl⟩

theorem specSp_any (va vb vc vd : Int) (w : World) :
    Calls Try.prog 45 #[.agg #[.int .i64 va, .int .i64 vb, .int .i64 vc, .int .i64 vd]] w fun e w' => e = .returned (.bool (spB va vb vc vd)) ∧ Below w.heap.size w w' := by
  unfold spB
  rcases four (inB va 1 600) (inB vb 1 600) (inB vc 1 600) (inB vd 1 600) with g | ⟨g0, g⟩ | ⟨g0, g1, g⟩ | ⟨g0, g1, g2, g⟩ | ⟨g0, g1, g2, g⟩
  all_goals
    go_enter Try.func45, Try.ntmps45
    go_wp2_with (go_at_call 71; refine (speed_any _ _).mono ?_; rintro e w1 ⟨rfl, rfl⟩)
    go_ret
    exact ⟨by simp [*], by go_grown⟩

theorem rdI4 {w : World} {g c : Nat} {x y z t : Int} (hg : g < w.heap.size) (h0 : w.cell? ⟨g, 0, none⟩ = some (.int .i64 x)) (h1 : w.cell? ⟨g, 1, none⟩ = some (.int .i64 y)) (h2 : w.cell? ⟨g, 2, none⟩ = some (.int .i64 z)) (h3 : w.cell? ⟨g, 3, none⟩ = some (.int .i64 t)) : RdI w (.slice (some ⟨g, 0, none⟩) 4 c) [x, y, z, t] :=
  RdI_of w g c [x, y, z, t] (by simp) hg (fun k hk => by
    match k, hk with
    | 0, _ => exact h0
    | 1, _ => exact h1
    | 2, _ => exact h2
    | 3, _ => exact h3)

theorem implVSp_any (va vb vc vd : Int) (w : World) :
    Calls Try.prog 21 #[.agg #[.int .i64 va, .int .i64 vb, .int .i64 vc, .int .i64 vd]] w fun e w' => e = .returned (.bool (spB va vb vc vd)) ∧ Below w.heap.size w w' := by
  have e1 : spB va vb vc vd = ([va, vb, vc, vd].all (fun n => inB n 1 600)) := by simp [spB, Bool.and_assoc]
  rw [e1]; clear e1
  have H := Lib.hid (fun v u q => within_any 1 600 v [va, vb, vc, vd] u q)
  generalize [va, vb, vc, vd].all (fun n => inB n 1 600) = R at *
  go_enter Try.func21, Try.ntmps21
  go_wp2_with fail
  refine (H.out _ _ (rdI4 (by go_size) (by go_simp) (by go_simp) (by go_simp) (by go_simp))).mono ?_
  rintro e w1 ⟨rfl, b1⟩
  replace b1 := kept_trans (a := w) (by go_grown) b1
  go_wp2
  go_ret
  exact ⟨rfl, b1⟩

theorem size10_any (n : Int) (h : -1000000000000000000 ≤ n ∧ n ≤ 1000000000000000000) (w : World) :
    Calls Try.prog 48 #[.int .i64 n] w fun e w' => e = .returned (.int .i64 (tiltL n)) ∧ w = w' := by
  unfold tiltL
  go_enter Try.func48, Try.ntmps48
  go_wp2_with (go_at_call 74; refine (max_any _ _ _).mono ?_; rintro e w1 ⟨rfl, rfl⟩)
  go_ret
  exact ⟨rfl, rfl⟩

theorem toSp_any (va vb vc vd : Int) (w : World) :
    Calls Try.prog 20 #[.agg #[.int .i64 va, .int .i64 vb, .int .i64 vc, .int .i64 vd]] w fun e w' => e = .returned (.agg #[.int .i64 va, .int .i64 vb, .int .i64 vc, .int .i64 vd]) ∧ Below w.heap.size w w' := by
  go_enter Try.func20, Try.ntmps20
  go_wp2
  go_returns
  exact ⟨rfl, by go_grown⟩

theorem specSlw_any (va vb vc vd : Int) (a b : Int) (w : World) :
    Calls Try.prog 22 #[.agg #[.int .i64 va, .int .i64 vb, .int .i64 vc, .int .i64 vd], .int .i64 a, .int .i64 b] w fun e w' => e = .returned (.tuple #[.int .i64 (slewL va vb vc vd a b).1, .int .i64 (slewL va vb vc vd a b).2]) ∧ Below w.heap.size w w' := by
  have HV := Lib.hid (fun u => specSp_any va vb vc vd u)
  unfold slewL
  cases h0 : spB va vb vc vd <;> rw [h0] at HV
  case false =>
    clear h0
    simp only [Bool.false_eq_true, if_false]
    go_enter Try.func22, Try.ntmps22
    go_wp2_with fail
    refine (HV.out _).mono ?_
    rintro e w1 ⟨rfl, b1⟩
    replace b1 := kept_trans (a := w) (by go_grown) b1
    have l1 := kept_cell b1
    have zz1 := b1.size
    go_wp2
    go_ret2
    exact ⟨rfl, b1⟩
  have hs := spB_true h0
  simp only [if_true]
  cases h1 : inB a 0 23 <;> cases h2 : inB b 0 23
  case true.true =>
    have g1 := inB_true h1
    have g2 := inB_true h2
    have ht := turnL_bd (b - a)
    have hz := tiltL_bd (n := turnL (b - a)) (a := 12) (by omega)
    have hm := mul_bd (tiltL (turnL (b - a))) va 12 600 hz (by omega)
    have HT := Lib.hid (fun u => same_below (l02Turn_any a b (by omega) (by omega) u))
    have HZ := Lib.hid (fun u => same_below (size10_any (turnL (b - a)) (by omega) u))
    have e64 : IntKind.i64.wrap (tiltL (turnL (b - a)) * va) = tiltL (turnL (b - a)) * va := wrap_in (by omega)
    simp only [Bool.and_self, if_true]
    generalize hmm : tiltL (turnL (b - a)) * va = M at *
    clear h0 ht hs g1 g2
    have K0 : Hid (BoxR (w.alloc (.cells #[.int .i64 va, .int .i64 vb, .int .i64 vc, .int .i64 vd] 49)) w.heap.size [.int .i64 va, .int .i64 vb, .int .i64 vc, .int .i64 vd]) := Lib.hid (BoxR_new' rfl)
    go_enter Try.func22, Try.ntmps22
    go_wp2_with fail
    refine (HV.out _).mono ?_
    rintro e w1 ⟨rfl, hb1⟩
    have K1 := Lib.hid (BoxR_kept K0.out hb1)
    have b1 := kept_trans (a := w) (by go_grown) hb1
    have r0 := fun z : BelowBy w1 => (BoxR_kept K1.out z.h).2 0 _ rfl
    go_wp2_with (go_at_call 47; refine (dir_any _ _).mono ?_; rintro e w1 ⟨rfl, rfl⟩)
    refine wp_region_below (by kernel_rfl) (by kernel_rfl) ?_
    repeat (go_big_quiet_step ((first | (go_at_call 49; exact below_call (fun _ => HT.out _)) | (go_at_call 48; exact below_call (fun _ => HZ.out _)))))
    refine wpQuiet_nil ?_
    intro wq hw'
    obtain ⟨⟨_, hbq⟩, hwq⟩ := hw'
    subst hwq
    (try dsimp only)
    go_wp2
    go_ret2
    exact ⟨by simp, kept_trans b1 hbq⟩
  all_goals
    clear hs h0
    go_enter Try.func22, Try.ntmps22
    go_wp2_with fail
    refine (HV.out _).mono ?_
    rintro e w1 ⟨rfl, b1⟩
    refine kept_at b1 (w.heap.size) (by go_size) fun c1_0 z1_0 s1_0 => ?_
    replace b1 := kept_trans (a := w) (by go_grown) b1
    have l1 := kept_cell b1
    have zz1 := b1.size
    go_wp2_with (go_at_call 47; refine (dir_any _ _).mono ?_; rintro e w1 ⟨rfl, rfl⟩)
    go_ret2
    exact ⟨by simp [*], b1⟩

theorem turnBL_bd (a b : Int) : -11 ≤ (turnBetweenL a b).1 ∧ (turnBetweenL a b).1 ≤ 12 := by
  unfold turnBetweenL
  split
  · exact turnL_bd _
  · simp

/-- How long a turn takes. -/
theorem turnSecs_any (va vb vc vd : Int) (a b : Int) (hv : 1 ≤ va ∧ va ≤ 600) (w : World) :
    Calls Try.prog 122 #[.agg #[.int .i64 a, .int .i64 b], .agg #[.int .i64 va, .int .i64 vb, .int .i64 vc, .int .i64 vd]] w fun e w' => e = .returned (.int .i64 (tiltL (turnBetweenL a b).1 * va)) ∧ Below w.heap.size w w' := by
  have ht := turnBL_bd a b
  have HT := Lib.hid (fun u => implTurnBetween_any a b u)
  generalize (turnBetweenL a b).1 = n at *
  generalize (turnBetweenL a b).2 = n2 at *
  have hz := tiltL_bd (n := n) (a := 12) (by omega)
  have hm := mul_bd (tiltL n) va 12 600 hz (by omega)
  have hmx := fun ts t u (a b : Int) => max2_any (P := Try.prog) u ts t a b
  have e1 : wrap64 (-n) = -n := IntWalk.wrap64_in _ (by omega)
  have e2 : wrap64 (max n (-n) * va) = tiltL n * va := IntWalk.wrap64_in _ (by unfold tiltL at hm; omega)
  generalize hmm : tiltL n * va = M at *
  go_enter Try.func122, Try.ntmps122
  go_wp2_with (go_at_call 123; refine (HT.out _).mono ?_; rintro e w1 ⟨rfl, rfl⟩)
  go_ret
  exact ⟨by simp [*], by go_grown⟩

/-- What timeFor returns for a move that takes n seconds at valid speeds. -/
def timeForL (va vb vc vd : Int) (n : Int) (r : Bool) : Int × Int := if spB va vb vc vd then (if r then (n, 0) else (0, 2)) else (0, 1)

theorem timeForT_any (va vb vc vd : Int) (a b : Int) (r : Bool) (w : World) :
    Calls Try.prog 50 #[.agg #[.int .i64 va, .int .i64 vb, .int .i64 vc, .int .i64 vd], .iface 80 (.agg #[.int .i64 a, .int .i64 b]), .bool r] w fun e w' => e = .returned (.tuple #[.int .i64 (timeForL va vb vc vd (tiltL (turnBetweenL a b).1 * va) r).1, .int .i64 (timeForL va vb vc vd (tiltL (turnBetweenL a b).1 * va) r).2]) ∧ Below w.heap.size w w' := by
  have HV := Lib.hid (fun u => implVSp_any va vb vc vd u)
  unfold timeForL
  cases h0 : spB va vb vc vd <;> rw [h0] at HV
  case false =>
    clear h0
    go_enter Try.func50, Try.ntmps50
    go_wp2_with fail
    refine (HV.out _).mono ?_
    rintro e w1 ⟨rfl, b1⟩
    replace b1 := kept_trans (a := w) (by go_grown) b1
    have l1 := kept_cell b1
    have zz1 := b1.size
    go_wp2
    go_ret2
    exact ⟨rfl, b1⟩
  have hs := spB_true h0
  have HM := Lib.hid (fun u => turnSecs_any va vb vc vd a b hs.1 u)
  clear h0 hs
  generalize tiltL (turnBetweenL a b).1 * va = M at *
  cases r
  · go_enter Try.func50, Try.ntmps50
    go_wp2_with fail
    refine (HV.out _).mono ?_
    rintro e w1 ⟨rfl, b1⟩
    refine kept_at b1 (w.heap.size) (by go_size) fun c1_0 z1_0 s1_0 => ?_
    replace b1 := kept_trans (a := w) (by go_grown) b1
    have l1 := kept_cell b1
    have zz1 := b1.size
    go_wp2
    go_ret2
    exact ⟨rfl, b1⟩
  · go_enter Try.func50, Try.ntmps50
    go_wp2_with fail
    refine (HV.out _).mono ?_
    rintro e w1 ⟨rfl, b1⟩
    refine kept_at b1 (w.heap.size) (by go_size) fun c1_0 z1_0 s1_0 => ?_
    replace b1 := kept_trans (a := w) (by go_grown) b1
    have l1 := kept_cell b1
    have zz1 := b1.size
    go_wp2_with fail
    refine (HM.out _).mono ?_
    rintro e w2 ⟨rfl, b2⟩
    replace b2 := kept_trans (a := w) (by go_grown) b2
    have l2 := kept_cell b2
    have zz2 := b2.size
    go_wp2
    go_ret2
    exact ⟨rfl, b2⟩

theorem implSlw_any (va vb vc vd : Int) (a b : Int) (w : World) :
    Calls Try.prog 23 #[.agg #[.int .i64 va, .int .i64 vb, .int .i64 vc, .int .i64 vd], .int .i64 a, .int .i64 b] w fun e w' => e = .returned (.tuple #[.int .i64 (slewL va vb vc vd a b).1, .int .i64 (slewL va vb vc vd a b).2]) ∧ Below w.heap.size w w' := by
  have HV := Lib.hid (fun u => valid_any a u)
  have HW := Lib.hid (fun u => valid_any b u)
  have HT := Lib.hid (fun u r => timeForT_any va vb vc vd a b r u)
  have e : slewL va vb vc vd a b = timeForL va vb vc vd (tiltL (turnBetweenL a b).1 * va) (inB a 0 23 && inB b 0 23) := by
    unfold slewL timeForL turnBetweenL
    cases inB a 0 23 <;> cases inB b 0 23 <;> simp
  rw [e]
  clear e
  have K0 : Hid (BoxR (w.alloc (.cells #[.int .i64 va, .int .i64 vb, .int .i64 vc, .int .i64 vd] 49)) w.heap.size [.int .i64 va, .int .i64 vb, .int .i64 vc, .int .i64 vd]) := Lib.hid (BoxR_new' rfl)
  have HW0 : Hid (Below w.heap.size w (w.alloc (.cells #[.int .i64 va, .int .i64 vb, .int .i64 vc, .int .i64 vd] 49))) := Lib.hid (by go_grown)
  obtain ⟨I, hI⟩ : ∃ I : Int → Bool, I = fun n => inB n 0 23 := ⟨_, rfl⟩
  have HVA : Hid (∀ u n, Calls Try.prog 51 #[.int .i64 n] u fun e w' => e = .returned (.bool (I n)) ∧ Below u.heap.size u w') := Lib.hid (fun u n => by subst hI; exact same_below (valid_any n u))
  rw [show inB a 0 23 = I a by rw [hI], show inB b 0 23 = I b by rw [hI]] at *
  clear HV HW hI
  generalize timeForL va vb vc vd (tiltL (turnBetweenL a b).1 * va) = G at *
  have HV1 := fun u => HVA.out u a
  have HV2 := fun u => HVA.out u b
  cases h1 : I a <;> cases h2 : I b
  all_goals
    rw [h1] at HV1
    rw [h2] at HV2
    have HV1 := Lib.hid HV1
    have HV2 := Lib.hid HV2
    clear HVA
    have r0 := fun z : BelowBy (w.alloc (.cells #[.int .i64 va, .int .i64 vb, .int .i64 vc, .int .i64 vd] 49)) => (BoxR_kept K0.out z.h).2 0 _ rfl
    have r1 := fun z : BelowBy (w.alloc (.cells #[.int .i64 va, .int .i64 vb, .int .i64 vc, .int .i64 vd] 49)) => (BoxR_kept K0.out z.h).2 1 _ rfl
    have r2 := fun z : BelowBy (w.alloc (.cells #[.int .i64 va, .int .i64 vb, .int .i64 vc, .int .i64 vd] 49)) => (BoxR_kept K0.out z.h).2 2 _ rfl
    have r3 := fun z : BelowBy (w.alloc (.cells #[.int .i64 va, .int .i64 vb, .int .i64 vc, .int .i64 vd] 49)) => (BoxR_kept K0.out z.h).2 3 _ rfl
    go_enter Try.func23, Try.ntmps23
    go_wp2_with fail
    refine wp_region_below (by kernel_rfl) (by kernel_rfl) ?_
    repeat (go_big_quiet_step ((first | (go_at_call 51; with_reducible exact below_call (fun _ => HV1.out _)) | (go_at_call 51; with_reducible exact below_call (fun _ => HV2.out _)) | (go_at_call 50; exact below_call (fun _ => HT.out _ _)))))
    refine wpQuiet_nil ?_
    intro wq hw'
    obtain ⟨⟨_, hbq⟩, hwq⟩ := hw'
    subst hwq
    (try dsimp only)
    go_wp2
    go_ret2
    exact ⟨by simp, kept_trans HW0.out hbq⟩

theorem walk_FnExactSlewTime (va : Int) (wva : (Lit.int .i64 va).wf = true) (vb : Int) (wvb : (Lit.int .i64 vb).wf = true) (vc : Int) (wvc : (Lit.int .i64 vc).wf = true) (vd : Int) (wvd : (Lit.int .i64 vd).wf = true) (a : Int) (wa : (Lit.int .i64 a).wf = true) (b : Int) (wb : (Lit.int .i64 b).wf = true) (w : World) :
    Calls Try.prog 6 #[.agg #[.int .i64 va, .int .i64 vb, .int .i64 vc, .int .i64 vd], .int .i64 a, .int .i64 b] w fun e w' => e = .returned (.bool true) ∧ Below w.heap.size w w' := by
  have hS := fun u => specSlw_any va vb vc vd a b u
  have hI := fun u => implSlw_any va vb vc vd a b u
  generalize slewL va vb vc vd a b = L at *
  obtain ⟨la, lb⟩ := L
  (try dsimp only at hS hI)
  have HS := Lib.hid hS; clear hS
  have HI := Lib.hid hI; clear hI
  go_enter Try.func6, Try.ntmps6
  go_wp2_with fail
  refine (toSp_any va vb vc vd _).mono ?_
  rintro e w1 ⟨rfl, b1⟩
  refine kept_at b1 (w.heap.size) (by go_size) fun c1_0 z1_0 s1_0 => ?_
  replace b1 := kept_trans (a := w) (by go_grown) b1
  have l1 := kept_cell b1
  have zz1 := b1.size
  go_wp2_with fail
  refine (HS.out _).mono ?_
  rintro e w2 ⟨rfl, b2⟩
  refine kept_at b2 (w.heap.size) (by go_size) fun c2_0 z2_0 s2_0 => ?_
  replace b2 := kept_trans (a := w) (by go_grown) b2
  have l2 := kept_cell b2
  have zz2 := b2.size
  go_wp2_with fail
  refine (toSp_any va vb vc vd _).mono ?_
  rintro e w3 ⟨rfl, b3⟩
  refine kept_at b3 (w.heap.size) (by go_size) fun c3_0 z3_0 s3_0 => ?_
  replace b3 := kept_trans (a := w) (by go_grown) b3
  have l3 := kept_cell b3
  have zz3 := b3.size
  go_wp2_with fail
  refine (HI.out _).mono ?_
  rintro e w4 ⟨rfl, b4⟩
  replace b4 := kept_trans (a := w) (by go_grown) b4
  have l4 := kept_cell b4
  have zz4 := b4.size
  go_wp2
  go_ret
  exact ⟨rfl, by go_grown⟩

end Go.Proofs.Ytnflaeimiegepab
namespace Go.Proofs.Ytnflaeimiegepab.fnExactSlewTime
open Go.ChangeShapes Go.WideShapes Go.ChangeAt Go.RowKit
set_option linter.unusedVariables false
set_option linter.unusedSimpArgs false
open Go.Joins Go.ChangeMaps
set_option maxRecDepth 100000 in
theorem lifted (os : Os) (started : os.Started) (H : Type) (enc : TypeId × Value → H) :
    ReturnsInHanded {} Try.checked os 6 .any (Rows.fnExactSlewTimeSpec.pre6 enc Try.prog Try.f6 Rows.fnExactSlewTimeRow.domain false) (Rows.fnExactSlewTimeSpec.post enc Try.prog Try.f6 false true false false) := by
  refine returnsInHanded_of_change (C := Try.checked) (show ownKnob Try.prog.godebug = none by kernel_rfl) started (by kernel_rfl) Try.func6
    (ChangeSpec.witness6 (enc := enc) (C := Try.checked) false ⟨#[], #[.agg #[.int .i64 0, .int .i64 0, .int .i64 0, .int .i64 0], .int .i64 0, .int .i64 0], []⟩ 8 (by kernel_rfl) (by kernel_rfl) (by kernel_rfl) (by kernel_rfl)) ?_
  intro W base args ds gs before hval0 hW hcnd _
  have hval : ∀ (j : Nat) t v, Try.f6.params[j]? = some t → args[j]? = some v → Value.okWide Try.prog W .any base t v := hval0
  have hW' := hW
  obtain ⟨p, q, hA0, hV, rfl, hfz, hnd⟩ := hW
  have hA : DataW.TrodAll enc Try.prog W 0 (fun _ => true) true Try.f6.params.toList args.toList ds p := hA0
  rw [Try.params6] at hA hval
  obtain ⟨v0, vs0, d0, ds0, p0, q0, hargs, rfl, rfl, h0, r0⟩ := trodAll_cons hA
  obtain ⟨v1, vs1, d1, ds1, p1, q1, rfl, rfl, rfl, h1, r1⟩ := trodAll_cons r0
  obtain ⟨v2, vs2, d2, ds2, p2, q2, rfl, rfl, rfl, h2, r2⟩ := trodAll_cons r1
  obtain ⟨rfl, rfl, rfl⟩ := trodAll_nil r2
  obtain rfl : args = #[v0, v1, v2] := by cases args; simp_all
  obtain ⟨rfl, rfl⟩ := trodVars_none hV
  obtain ⟨c0_0, c0_1, c0_2, c0_3, y0_0, y0_1, y0_2, y0_3, m0, rfl, rfl, rfl, h0_0, h0_1, h0_2, h0_3⟩ := Joins.open_agg4 Try.underlying47 (by kernel_rfl) (show Try.prog.cellsOf 47 = 4 by kernel_rfl) (hval 0 47 v0 rfl rfl) h0
  obtain ⟨a0_0, e0_0, rfl, w0_0⟩ := DataW.trod_int Try.underlying2 h0_0
  simp at e0_0
  subst e0_0
  obtain ⟨a0_1, e0_1, rfl, w0_1⟩ := DataW.trod_int Try.underlying2 h0_1
  simp at e0_1
  subst e0_1
  obtain ⟨a0_2, e0_2, rfl, w0_2⟩ := DataW.trod_int Try.underlying2 h0_2
  simp at e0_2
  subst e0_2
  obtain ⟨a0_3, e0_3, rfl, w0_3⟩ := DataW.trod_int Try.underlying2 h0_3
  simp at e0_3
  subst e0_3
  obtain ⟨a1, rfl, rfl, rfl, w1⟩ := open_int Try.underlying2 (hval 1 2 v1 rfl rfl) h1
  obtain ⟨a2, rfl, rfl, rfl, w2⟩ := open_int Try.underlying2 (hval 2 2 v2 rfl rfl) h2
  clear hA0 hval0
  refine (walk_FnExactSlewTime (w := W) a0_0 w0_0 a0_1 w0_1 a0_2 w0_2 a0_3 w0_3 a1 w1 a2 w2 ).mono fun e W' ⟨he, hb⟩ => ?_
  subst he
  exact ⟨_, rfl, law_post (B := 4) (by kernel_rfl) (by kernel_rfl) rfl Try.underlying4 rfl hW' rfl hb⟩

/-- The statement: for every input the law returns true, and the arguments read afterwards as before. -/
theorem proved : Rows.FnExactSlewTimeSaid :=
  OpenClaim.holds_of_wide 6 Try.f6 rfl rfl rfl rfl rfl rfl rfl ⟨rfl, rfl, rfl, rfl, rfl⟩ rfl rfl rfl rfl rfl (by kernel_rfl) Try.func6 (by kernel_rfl)
    (of_decide_eq_true (by kernel_rfl)) (by unfold Func.isWrapper; first | (rw [if_pos (by decide +kernel)]; kernel_rfl) | (rw [if_neg (by decide +kernel)]; exact ⟨rfl, rfl⟩))
    (fun os started H enc _ => lifted os started H enc)
end Go.Proofs.Ytnflaeimiegepab.fnExactSlewTime
