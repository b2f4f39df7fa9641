/- Proved: for every input the law FnExactSlowerSpeeds returns true, and each argument reads afterwards as it read before; no condition beside those of the given row. -/
import Derived.Test.YtnflaeimiegepacRows
import Derived.WalkKit
import Derived.ProofKit
import Derived.OpenShut
import Derived.Lib.Hide
import Derived.Handy
import Derived.Carry
import Derived.Deep.RegionHeld3
import Derived.Laws.ResultCell
import Derived.Shelf.Abstract
import Derived.Lib.SmallJoins
import Derived.ChangeMaps5
namespace Go.Proofs.Ytnflaeimiegepac
open Go.ChangeShapes Go.WideShapes Go.ChangeAt Go.RowKit
set_option linter.unusedVariables false
set_option linter.unusedSimpArgs false

theorem trodAll_stay {H : Type} {enc : TypeId × Value → H} {P : Program} (hl : laidOutB P = true) {W W' : World} (hb : Below W.heap.size W W') :
    ∀ (ts : List TypeId) (vs : List Value) (ds : List (DataW H)) (ps : List MemPlace), ts.all (fun t => P.readableRec t && decide (t < P.types.size)) = true →
      DataW.TrodAll enc P W 0 (fun _ => true) true ts vs ds ps → (∀ x ∈ ps, x.block < W.heap.size) →
      DataW.TrodAll enc P W' 0 (fun b => decide (b < W.heap.size)) true ts vs ds ps := by
  intro ts
  induction ts with
  | nil => intro vs ds ps _ h _; obtain ⟨rfl, rfl, rfl⟩ := trodAll_nil h; exact rfl
  | cons t ts ih =>
    intro vs ds ps hr h hlt
    simp only [List.all_cons, Bool.and_eq_true, decide_eq_true_eq] at hr
    obtain ⟨v, vs', d, ds', p, q, rfl, rfl, rfl, h0, h1⟩ := trodAll_cons h
    exact ⟨p, q, Below.trod hl hr.1.1 hr.1.2 h0 hb (fun x hx => hlt x (by simp [hx])), ih _ _ _ hr.2 h1 (fun x hx => hlt x (by simp [hx])), rfl⟩

/-- A law's row at its end: it returned true, and of what was there nothing has turned. -/
theorem law_post {H : Type} {enc : TypeId × Value → H} {P : Program} {f : Func} {s : ChangeSpec} {W W' : World} {args : Array Value} {ds gs : List (DataW H)} {before : List MemPlace} {B : TypeId}
    (hl : laidOutB P = true) (hr : f.params.toList.all (fun t => P.readableRec t && decide (t < P.types.size)) = true)
    (hres : f.resultTypes = #[B]) (hB : P.underlying B = some .bool) (hv : s.vars = [])
    (hW : DataW.Whole enc P f.params.toList s.vars false W args.toList ds gs before)
    (hfn : s.fn H (ds ++ gs) = { results := [.lit (.bool true)], args := ds }) (hb : Below W.heap.size W W') :
    s.post enc P f false true false false W args (.bool true) W' := by
  have hlt : ∀ p ∈ before, p.block < W.heap.size := fun p hp => hW.lt p hp
  have hW' := hW
  obtain ⟨p, q, hA, hV, rfl, _, _⟩ := hW'
  rw [hv] at hV
  obtain ⟨rfl, rfl⟩ := trodVars_none hV
  refine ⟨ds, [], p ++ [], [], p, [], hW, ?_, ?_, ?_, hb.frame _, fun h => by cases h⟩
  · rw [hfn, hres]
    exact trodAll_cons_mk (shut_bool hB _) trodAll_mk0
  · rw [hfn]
    exact trodAll_stay hl hb _ _ _ _ hr hA (fun x hx => hlt x (by simp [hx]))
  · rw [hfn, hv]
    exact rfl

theorem kept_cell {W w1 : World} (hb : Below W.heap.size W w1) (b o : Nat) (h : b < W.heap.size) : w1.cell? ⟨b, o, none⟩ = W.cell? ⟨b, o, none⟩ := hb.cell (p := ⟨b, o, none⟩) h

theorem kept_frozen {W w1 : World} (hb : Below W.heap.size W w1) (b o : Nat) (h : b < W.heap.size) : w1.frozen? ⟨b, o, none⟩ = W.frozen? ⟨b, o, none⟩ := hb.frozen (p := ⟨b, o, none⟩) h

theorem kept_trans {a b c : World} (h : Below a.heap.size a b) (k : Below b.heap.size b c) : Below a.heap.size a c := h.trans (k.mono h.size)

theorem kept_at {W w1 : World} (hb : Below W.heap.size W w1) (b : Nat) {G : Prop} (h : b < W.heap.size)
    (k : (∀ o, w1.cell? ⟨b, o, none⟩ = W.cell? ⟨b, o, none⟩) → (∀ o, w1.frozen? ⟨b, o, none⟩ = W.frozen? ⟨b, o, none⟩) → b < w1.heap.size → G) : G :=
  k (fun o => kept_cell hb b o h) (fun o => kept_frozen hb b o h) (Nat.lt_of_lt_of_le h hb.size)

def inB (n low high : Int) : Bool := decide (low ≤ n) && decide (n ≤ high)

theorem in_any (n low high : Int) (w : World) :
    Calls Try.prog 9 #[.int .i64 n, .int .i64 low, .int .i64 high] w fun e w' => e = .returned (.bool (inB n low high)) ∧ w = w' := by
  unfold inB
  by_cases h1 : low ≤ n <;> by_cases h2 : n ≤ high <;>
  · go_enter Try.func9, Try.ntmps9
    go_wp2
    go_ret
    exact ⟨by simp [*], rfl⟩

theorem inB_true {n a b : Int} (h : inB n a b = true) : a ≤ n ∧ n ≤ b := by simpa [inB] using h

/-- The slice value reads as a list of numbers. -/
def RdI (w : World) (v : Value) (zs : List Int) : Prop :=
  zs.length ≤ 9223372036854775807 ∧ ∃ A c, v = .slice A zs.length c ∧ ∀ k, (hk : k < zs.length) → ∃ b off, A = some ⟨b, off, none⟩ ∧ b < w.heap.size ∧ w.cell? ⟨b, off + k, none⟩ = some (.int .i64 zs[k])

theorem RdI_kept {W w1 : World} {v : Value} {zs : List Int} (h : RdI W v zs) (hb : Below W.heap.size W w1) : RdI w1 v zs := by
  obtain ⟨hl, A, c, rfl, hr⟩ := h
  refine ⟨hl, A, c, rfl, fun k hk => ?_⟩
  obtain ⟨b, off, e, hlt, hc⟩ := hr k hk
  exact ⟨b, off, e, Nat.lt_of_lt_of_le hlt hb.size, by rw [kept_cell hb b _ hlt]; exact hc⟩

/-- A quotient, rounded up. -/
def upL (n d : Int) : Int := (n + d - 1) / d

theorem mul_bd (a b p q : Int) (h1 : 0 ≤ a ∧ a ≤ p) (h2 : 0 ≤ b ∧ b ≤ q) : 0 ≤ a * b ∧ a * b ≤ p * q :=
  ⟨Int.mul_nonneg h1.1 h2.1, Int.mul_le_mul h1.2 h2.2 h2.1 (by omega)⟩

theorem specUp_any (n d : Int) (h1 : 0 ≤ n ∧ n ≤ 1000000000) (h2 : 1 ≤ d ∧ d ≤ 1000000) (w : World) :
    Calls Try.prog 10 #[.int .i64 n, .int .i64 d] w fun e w' => e = .returned (.int .i64 (upL n d)) ∧ w = w' := by
  have e : (n + d - 1).tdiv d = upL n d := by rw [upL, Int.tdiv_eq_ediv_of_nonneg (by omega)]
  have hd : (d == 0) = false := by simp; omega
  have hd2 : ¬ d = 0 := by omega
  have hd3 : ¬ d = -1 := by omega
  have hb : 0 ≤ upL n d ∧ upL n d ≤ 2000000000 := by
    rw [upL]
    refine ⟨Int.ediv_nonneg (by omega) (by omega), ?_⟩
    have := Int.ediv_le_self (a := n + d - 1) d (by omega)
    omega
  generalize upL n d = q at *
  go_enter Try.func10, Try.ntmps10
  go_wp2
  go_ret
  exact ⟨by first | rfl | rw [e], rfl⟩

theorem implUp_any (n d : Int) (h1 : 0 ≤ n ∧ n ≤ 1000000000) (h2 : 1 ≤ d ∧ d ≤ 1000000) (w : World) :
    Calls Try.prog 13 #[.int .i64 n, .int .i64 d] w fun e w' => e = .returned (.int .i64 (upL n d)) ∧ w = w' := by
  have e : (n + d - 1).tdiv d = upL n d := by rw [upL, Int.tdiv_eq_ediv_of_nonneg (by omega)]
  have hd : (d == 0) = false := by simp; omega
  have hd2 : ¬ d = 0 := by omega
  have hd3 : ¬ d = -1 := by omega
  have hb : 0 ≤ upL n d ∧ upL n d ≤ 2000000000 := by
    rw [upL]
    refine ⟨Int.ediv_nonneg (by omega) (by omega), ?_⟩
    have := Int.ediv_le_self (a := n + d - 1) d (by omega)
    omega
  generalize upL n d = q at *
  go_enter Try.func13, Try.ntmps13
  go_wp2
  go_ret
  exact ⟨by first | rfl | rw [e], rfl⟩

/-- The first place at which p holds; -1 if there is none. -/
def idxL {α : Type} (p : α → Bool) (zs : List α) : Int := if zs.findIdx p < zs.length then (zs.findIdx p : Int) else -1

theorem idxL_is {α : Type} {p : α → Bool} {zs : List α} {k : Nat} (h : k < zs.length) (hk : p zs[k] = true) (hb : ∀ j (hj : j < zs.length), j < k → p zs[j] = false) : idxL p zs = (k : Int) := by
  unfold idxL
  have e : zs.findIdx p = k := by
    rw [List.findIdx_eq h]
    exact ⟨hk, fun j hj => hb j (by omega) hj⟩
  rw [e, if_pos h]

theorem idxL_none {α : Type} {p : α → Bool} {zs : List α} (hb : ∀ j (hj : j < zs.length), p zs[j] = false) : idxL p zs = -1 := by
  unfold idxL
  have e : zs.findIdx p = zs.length := by
    rw [List.findIdx_eq_length]
    intro x hx
    obtain ⟨i, hi, rfl⟩ := List.mem_iff_getElem.1 hx
    exact hb i hi
  rw [e, if_neg (by omega)]

theorem idxL_any {α : Type} (p : α → Bool) (zs : List α) : decide (0 ≤ idxL p zs) = zs.any p := by
  unfold idxL
  by_cases h : zs.findIdx p < zs.length
  · rw [if_pos h]
    have := List.findIdx_lt_length.1 h
    simp
    obtain ⟨x, hx, hp⟩ := this
    exact ⟨x, hx, hp⟩
  · rw [if_neg h]
    have : ¬ ∃ x ∈ zs, p x = true := fun hx => h (List.findIdx_lt_length.2 hx)
    simp at this ⊢
    exact this

theorem idxL_bd {α : Type} (p : α → Bool) (zs : List α) : -1 ≤ idxL p zs ∧ idxL p zs ≤ zs.length := by
  unfold idxL
  split <;> omega

theorem RdI_of (w : World) (g c : Nat) (zs : List Int) (hl : zs.length ≤ 9223372036854775807) (hg : g < w.heap.size) (hc : ∀ k, (hk : k < zs.length) → w.cell? ⟨g, k, none⟩ = some (.int .i64 zs[k])) : RdI w (.slice (some ⟨g, 0, none⟩) zs.length c) zs :=
  ⟨hl, _, _, rfl, fun k hk => ⟨g, 0, rfl, hg, by rw [Nat.zero_add]; exact hc k hk⟩⟩

theorem rdI1 {w : World} {g c : Nat} {x : Int} (hg : g < w.heap.size) (h0 : w.cell? ⟨g, 0, none⟩ = some (.int .i64 x)) : RdI w (.slice (some ⟨g, 0, none⟩) 1 c) [x] :=
  RdI_of w g c [x] (by simp) hg (fun k hk => by simp at hk; subst hk; exact h0)

set_option maxRecDepth 100000 in
theorem indexFuncI_any (v : Value) (zs : List Int) (g : FuncId) (he : Enters Try.prog g) (cap : Array Value) (p : Int → Bool) (w : World) (h : RdI w v zs)
    (hf : ∀ k (hk : k < zs.length) w1, Below w.heap.size w w1 → Calls Try.prog g (#[.int .i64 zs[k]] ++ cap) w1 fun e w2 => e = .returned (.bool (p zs[k])) ∧ Below w1.heap.size w1 w2) :
    Calls Try.prog 18 #[v, .func (.func g) #[] cap] w fun e w' => e = .returned (.int .i64 (idxL p zs)) ∧ Below w.heap.size w w' := by
  obtain ⟨hl, A, c, rfl, r1⟩ := h
  have R := Lib.hid r1; clear r1
  have Hf := Lib.hid hf; clear hf
  have HIS := Lib.hid (fun k (h : k < zs.length) => @idxL_is _ p zs k h)
  have HNO := Lib.hid (@idxL_none _ p zs)
  generalize idxL p zs = G at *
  go_enter Try.func18, Try.ntmps18
  go_wp2_with fail
  go_loopw [8] (fun i wr => ∃ k : Nat, k ≤ zs.length ∧ i = .int .i64 k ∧ (∀ j (hj : j < zs.length), j < k → p zs[j] = false) ∧ Below w.heap.size w wr) (fun i _ => zs.length - (intOf i).toNat)
  case atStart => exact ⟨0, by omega, rfl, fun j _ h => by omega, Below.refl _ _⟩
  case round =>
    obtain ⟨k, hk, rfl, hall, hb⟩ := hrel
    by_cases hlt : k < zs.length
    · obtain ⟨b, off, rfl, hbl, hc0⟩ := R.out k hlt
      rw [← kept_cell hb b _ hbl] at hc0
      have hc := Hf.out k hlt wr hb
      cases hp : p zs[k]
      · have hnx : ∀ j (hj : j < zs.length), j < k + 1 → p zs[j] = false := fun j hj hjk => by
          rcases Nat.lt_or_ge j k with h1 | h1
          · exact hall j hj h1
          · obtain rfl : j = k := by omega
            exact hp
        rw [hp] at hc
        have HNX := Lib.hid hnx; clear hnx hall hp
        have Hc := Lib.hid hc; clear hc
        generalize zs[k] = x at *
        go_wp2_with fail
        rw [he, Oper.upon_enter]
        refine Hc.out.mono ?_
        rintro e w1 ⟨rfl, hb1⟩
        go_wp2
        go_roundw
        case rel => exact ⟨k + 1, by omega, by go_num, HNX.out, kept_trans hb hb1⟩
        case measure => simp [intOf]; omega
      · have hE := HIS.out k hlt hp hall
        subst hE
        rw [hp] at hc
        have Hc := Lib.hid hc; clear hc hall hp
        generalize zs[k] = x at *
        go_wp2_with fail
        rw [he, Oper.upon_enter]
        refine Hc.out.mono ?_
        rintro e w1 ⟨rfl, hb1⟩
        go_wp2
        go_ret
        exact ⟨rfl, kept_trans hb hb1⟩
    · have : k = zs.length := by omega
      subst this
      have hE := HNO.out (fun j hj => hall j hj hj)
      clear hall
      subst hE
      go_wp2
      go_ret
      exact ⟨rfl, hb⟩

theorem containsFuncI_any (v : Value) (zs : List Int) (g : FuncId) (he : Enters Try.prog g) (cap : Array Value) (p : Int → Bool) (w : World) (h : RdI w v zs)
    (hf : ∀ k (hk : k < zs.length) w1, Below w.heap.size w w1 → Calls Try.prog g (#[.int .i64 zs[k]] ++ cap) w1 fun e w2 => e = .returned (.bool (p zs[k])) ∧ Below w1.heap.size w1 w2) :
    Calls Try.prog 16 #[v, .func (.func g) #[] cap] w fun e w' => e = .returned (.bool (zs.any p)) ∧ Below w.heap.size w w' := by
  have H := Lib.hid (indexFuncI_any v zs g he cap p w h hf)
  obtain ⟨hl, A, c, rfl, r1⟩ := h
  clear hf r1
  have hbd := idxL_bd p zs
  rw [← idxL_any]
  generalize idxL p zs = G at *
  go_enter Try.func16, Try.ntmps16
  go_wp2_with fail
  refine H.out.mono ?_
  rintro e w1 ⟨rfl, hb1⟩
  go_wp2
  go_ret
  exact ⟨rfl, hb1⟩

theorem outside_any (n lo hi : Int) (b1 b2 : Nat) (w : World) (h1 : w.cell? ⟨b1, 0, none⟩ = some (.int .i64 lo)) (h2 : w.cell? ⟨b2, 0, none⟩ = some (.int .i64 hi)) :
    Calls Try.prog 17 #[.int .i64 n, .pointer (some ⟨b1, 0, none⟩), .pointer (some ⟨b2, 0, none⟩)] w fun e w' => e = .returned (.bool (!inB n lo hi)) ∧ Below w.heap.size w w' := by
  unfold inB
  by_cases g1 : lo ≤ n <;> by_cases g2 : n ≤ hi
  all_goals
    go_enter Try.func17, Try.ntmps17
    go_wp2
    go_ret
    exact ⟨by simp [*], Below.refl _ _⟩

theorem within_any (lo hi : Int) (v : Value) (zs : List Int) (w : World) (h : RdI w v zs) :
    Calls Try.prog 15 #[.int .i64 lo, .int .i64 hi, v] w fun e w' => e = .returned (.bool (zs.all fun n => inB n lo hi)) ∧ Below w.heap.size w w' := by
  have hall : (zs.all fun n => inB n lo hi) = !(zs.any fun n => !inB n lo hi) := by simp [List.any_eq_not_all_not]
  rw [hall]
  clear hall
  have HC := Lib.hid (fun u (q : RdI u v zs) b1 b2 (l1 : b1 < u.heap.size) (l2 : b2 < u.heap.size) (c1 : u.cell? ⟨b1, 0, none⟩ = some (.int .i64 lo)) (c2 : u.cell? ⟨b2, 0, none⟩ = some (.int .i64 hi)) =>
    containsFuncI_any v zs 17 (enters_of Try.func17 (by kernel_rfl) rfl) #[.pointer (some ⟨b1, 0, none⟩), .pointer (some ⟨b2, 0, none⟩)] (fun n => !inB n lo hi) u q
      (fun k hk w1 hb => outside_any zs[k] lo hi b1 b2 w1 (by rw [kept_cell hb b1 0 l1]; exact c1) (by rw [kept_cell hb b2 0 l2]; exact c2)))
  obtain ⟨hl, A, c, rfl, r1⟩ := h
  have H := Lib.hid (show RdI w (.slice A zs.length c) zs from ⟨hl, A, c, rfl, r1⟩); clear r1
  generalize (zs.any fun n => !inB n lo hi) = X at *
  have hmf : ∀ (fn : Fn) (first cap : Array Value) (w : World), (Instr.makeFunc fn first cap).run Try.prog w = .ok (.func fn first cap) w := fun _ _ _ _ => rfl
  go_enter Try.func15, Try.ntmps15
  go_wp2_with fail
  refine (HC.out _ (RdI_kept H.out (by go_grown)) w.heap.size (w.heap.size + 1) (by simp; try omega) (by simp) (by simp) (by simp)).mono ?_
  rintro e w1 ⟨rfl, hb1⟩
  have b1 := kept_trans (a := w) (by go_grown) hb1
  go_wp2
  go_ret
  exact ⟨rfl, b1⟩

theorem four (p0 p1 p2 p3 : Bool) : p0 = false ∨ (p0 = true ∧ p1 = false) ∨ (p0 = true ∧ p1 = true ∧ p2 = false) ∨ (p0 = true ∧ p1 = true ∧ p2 = true ∧ p3 = false) ∨ (p0 = true ∧ p1 = true ∧ p2 = true ∧ p3 = true) := by
  cases p0 <;> cases p1 <;> cases p2 <;> cases p3 <;> simp

theorem validPercent_any (n : Int) (w : World) :
    Calls Try.prog 12 #[.int .i64 n] w fun e w' => e = .returned (.bool (inB n 100 1000)) ∧ Below w.heap.size w w' := by
  have H := fun v u q => within_any 100 1000 v [n] u q
  rw [show ([n].all fun n => inB n 100 1000) = inB n 100 1000 by simp] at H
  have H := Lib.hid H
  generalize inB n 100 1000 = p at *
  go_enter Try.func12, Try.ntmps12
  go_wp2_with fail
  refine (H.out _ _ (rdI1 (by go_size) (by go_simp))).mono ?_
  rintro e w1 ⟨rfl, hb1⟩
  have b1 := kept_trans (a := w) (by go_grown) hb1
  go_wp2
  go_ret
  exact ⟨rfl, b1⟩

/-- A block begins with these values. -/
def BoxR (u : World) (b : Nat) (row : List Value) : Prop := b < u.heap.size ∧ ∀ i v, row[i]? = some v → u.cell? ⟨b, i, none⟩ = some v

theorem BoxR_kept {u u1 : World} {b : Nat} {row : List Value} (h : BoxR u b row) (hb : Below u.heap.size u u1) : BoxR u1 b row :=
  ⟨Nat.lt_of_lt_of_le h.1 hb.size, fun i v hv => (kept_cell hb b i h.1).trans (h.2 i v hv)⟩

theorem BoxR_new' {u : World} {b : Nat} {arr : Array Value} {t : TypeId} (h : b = u.heap.size) : BoxR (u.alloc (.cells arr t)) b arr.toList := by
  subst h
  refine ⟨by simp, fun i v hv => ?_⟩
  rw [cell_of_row _ _ i _ _ _ (heap_alloc_new u _)]
  simpa using hv

theorem BoxR_up {u : World} {b : Nat} {row : List Value} {x : Obj} (h : BoxR u b row) : BoxR (u.alloc x) b row := BoxR_kept h (by go_grown)

theorem wrap_in {n : Int} (h : -9223372036854775808 ≤ n ∧ n ≤ 9223372036854775807) : IntKind.i64.wrap n = n := IntWalk.i64_in n (by omega)

/-- Speeds (seconds a direction, decimetres a second of the trolley and of the hook, seconds to hook) are as asked. -/
def spB (va vb vc vd : Int) : Bool := inB va 1 600 && inB vb 1 600 && inB vc 1 600 && inB vd 1 600

theorem spB_true {va vb vc vd : Int} (h : spB va vb vc vd = true) : (1 ≤ va ∧ va ≤ 600) ∧ (1 ≤ vb ∧ vb ≤ 600) ∧ (1 ≤ vc ∧ vc ≤ 600) ∧ (1 ≤ vd ∧ vd ≤ 600) := by
  simp only [spB, Bool.and_eq_true] at h
  obtain ⟨⟨⟨g0, g1⟩, g2⟩, g3⟩ := h
  exact ⟨inB_true g0, inB_true g1, inB_true g2, inB_true g3⟩

theorem speed_any (n : Int) (w : World) :
    Calls Try.prog 14 #[.int .i64 n] w fun e w' => e = .returned (.bool (inB n 1 600)) ∧ w = w' := by
  go_enter Try.func14, Try.ntmps14
  go_wp2_with (go_at_call 9; refine (in_any _ _ _ _).mono ?_; rintro e w1 ⟨rfl, rfl⟩)
  go_ret
  exact ⟨rfl, rfl⟩

theorem specSp_any (va vb vc vd : Int) (w : World) :
    Calls Try.prog 8 #[.agg #[.int .i64 va, .int .i64 vb, .int .i64 vc, .int .i64 vd]] w fun e w' => e = .returned (.bool (spB va vb vc vd)) ∧ Below w.heap.size w w' := by
  unfold spB
  rcases four (inB va 1 600) (inB vb 1 600) (inB vc 1 600) (inB vd 1 600) with g | ⟨g0, g⟩ | ⟨g0, g1, g⟩ | ⟨g0, g1, g2, g⟩ | ⟨g0, g1, g2, g⟩
  all_goals
    go_enter Try.func8, Try.ntmps8
    go_wp2_with (go_at_call 14; refine (speed_any _ _).mono ?_; rintro e w1 ⟨rfl, rfl⟩)
    go_ret
    exact ⟨by simp [*], by go_grown⟩

theorem rdI4 {w : World} {g c : Nat} {x y z t : Int} (hg : g < w.heap.size) (h0 : w.cell? ⟨g, 0, none⟩ = some (.int .i64 x)) (h1 : w.cell? ⟨g, 1, none⟩ = some (.int .i64 y)) (h2 : w.cell? ⟨g, 2, none⟩ = some (.int .i64 z)) (h3 : w.cell? ⟨g, 3, none⟩ = some (.int .i64 t)) : RdI w (.slice (some ⟨g, 0, none⟩) 4 c) [x, y, z, t] :=
  RdI_of w g c [x, y, z, t] (by simp) hg (fun k hk => by
    match k, hk with
    | 0, _ => exact h0
    | 1, _ => exact h1
    | 2, _ => exact h2
    | 3, _ => exact h3)

theorem implVSp_any (va vb vc vd : Int) (w : World) :
    Calls Try.prog 11 #[.agg #[.int .i64 va, .int .i64 vb, .int .i64 vc, .int .i64 vd]] w fun e w' => e = .returned (.bool (spB va vb vc vd)) ∧ Below w.heap.size w w' := by
  have e1 : spB va vb vc vd = ([va, vb, vc, vd].all (fun n => inB n 1 600)) := by simp [spB, Bool.and_assoc]
  rw [e1]; clear e1
  have H := Lib.hid (fun v u q => within_any 1 600 v [va, vb, vc, vd] u q)
  generalize [va, vb, vc, vd].all (fun n => inB n 1 600) = R at *
  go_enter Try.func11, Try.ntmps11
  go_wp2_with fail
  refine (H.out _ _ (rdI4 (by go_size) (by go_simp) (by go_simp) (by go_simp) (by go_simp))).mono ?_
  rintro e w1 ⟨rfl, b1⟩
  replace b1 := kept_trans (a := w) (by go_grown) b1
  go_wp2
  go_ret
  exact ⟨rfl, b1⟩

theorem toSp_any (va vb vc vd : Int) (w : World) :
    Calls Try.prog 5 #[.agg #[.int .i64 va, .int .i64 vb, .int .i64 vc, .int .i64 vd]] w fun e w' => e = .returned (.agg #[.int .i64 va, .int .i64 vb, .int .i64 vc, .int .i64 vd]) ∧ Below w.heap.size w w' := by
  go_enter Try.func5, Try.ntmps5
  go_wp2
  go_returns
  exact ⟨rfl, by go_grown⟩

theorem eqSp_any (va vb vc vd : Int) (w : World) :
    Calls Try.prog 7 #[.agg #[.int .i64 va, .int .i64 vb, .int .i64 vc, .int .i64 vd], .agg #[.int .i64 va, .int .i64 vb, .int .i64 vc, .int .i64 vd]] w fun e w' => e = .returned (.bool true) ∧ Below w.heap.size w w' := by
  go_enter Try.func7, Try.ntmps7
  go_wp2
  go_ret
  exact ⟨rfl, by go_grown⟩

/-- The slower speeds. -/
def slowA (n q : Int) : Int := upL (n * q) 100

def slowB (n q : Int) : Int := n * 100 / q

/-- What SlowerSpeeds returns. -/
def slowL (va vb vc vd : Int) (q : Int) : (Int × Int × Int × Int) × Int :=
  if spB va vb vc vd then (if inB q 100 1000 then (if spB (slowA va q) (slowB vb q) (slowB vc q) (slowA vd q) then ((slowA va q, slowB vb q, slowB vc q, slowA vd q), 0) else ((0, 0, 0, 0), 5)) else ((0, 0, 0, 0), 2)) else ((0, 0, 0, 0), 1)

theorem slow_parts {va vb vc vd q : Int} (h : spB va vb vc vd = true) (hq : 100 ≤ q ∧ q ≤ 1000) : (0 ≤ va * q ∧ va * q ≤ 600000) ∧ (0 ≤ vd * q ∧ vd * q ≤ 600000) ∧ (0 ≤ vb * 100 ∧ vb * 100 ≤ 60000) ∧ (0 ≤ vc * 100 ∧ vc * 100 ≤ 60000) := by
  have g := spB_true h
  exact ⟨mul_bd va q 600 1000 (by omega) (by omega), mul_bd vd q 600 1000 (by omega) (by omega), by omega, by omega⟩

set_option maxHeartbeats 4000000 in
theorem specSlo_any (va vb vc vd : Int) (q : Int) (w : World) :
    Calls Try.prog 4 #[.agg #[.int .i64 va, .int .i64 vb, .int .i64 vc, .int .i64 vd], .int .i64 q] w fun e w' => e = .returned (.tuple #[.agg #[.int .i64 (slowL va vb vc vd q).1.1, .int .i64 (slowL va vb vc vd q).1.2.1, .int .i64 (slowL va vb vc vd q).1.2.2.1, .int .i64 (slowL va vb vc vd q).1.2.2.2], .int .i64 (slowL va vb vc vd q).2]) ∧ Below w.heap.size w w' := by
  have HV := Lib.hid (fun u => specSp_any va vb vc vd u)
  have KV : Hid (BoxR ((w.alloc (.cells #[.int .i64 va, .int .i64 vb, .int .i64 vc, .int .i64 vd] 24)).alloc (.cells #[.int .i64 0, .int .i64 0, .int .i64 0, .int .i64 0] 24)) w.heap.size [.int .i64 va, .int .i64 vb, .int .i64 vc, .int .i64 vd]) := Lib.hid (BoxR_up (BoxR_new' rfl))
  have KR : Hid (BoxR ((w.alloc (.cells #[.int .i64 va, .int .i64 vb, .int .i64 vc, .int .i64 vd] 24)).alloc (.cells #[.int .i64 0, .int .i64 0, .int .i64 0, .int .i64 0] 24)) (w.heap.size + 1) [.int .i64 0, .int .i64 0, .int .i64 0, .int .i64 0]) := Lib.hid (BoxR_new' (by simp))
  have HW0 : Hid (Below w.heap.size w ((w.alloc (.cells #[.int .i64 va, .int .i64 vb, .int .i64 vc, .int .i64 vd] 24)).alloc (.cells #[.int .i64 0, .int .i64 0, .int .i64 0, .int .i64 0] 24))) := Lib.hid (by go_grown)
  unfold slowL
  cases h0 : spB va vb vc vd <;> rw [h0] at HV
  case false =>
    clear h0
    simp only [Bool.false_eq_true, if_false]
    go_enter Try.func4, Try.ntmps4
    go_wp2_with fail
    refine (HV.out _).mono ?_
    rintro e w1 ⟨rfl, hb1⟩
    refine kept_at hb1 (w.heap.size + 1) (by go_size) fun c1_1 z1_1 s1_1 => ?_
    have b1 := kept_trans HW0.out hb1
    go_wp2
    (try simp only [Exit.inBlock, Exit.then])
    refine bodyPost_ret (v := .tuple #[.agg #[.int .i64 0, .int .i64 0, .int .i64 0, .int .i64 0], .int .i64 1]) ?_ rfl ⟨rfl, ?_⟩
    · rw [results_cell_tmp rfl]
      go_simp
    · go_grown
  simp only [if_true]
  cases h1 : inB q 100 1000
  case false =>
    simp only [Bool.false_eq_true, if_false]
    go_enter Try.func4, Try.ntmps4
    go_wp2_with fail
    refine (HV.out _).mono ?_
    rintro e w1 ⟨rfl, hb1⟩
    refine kept_at hb1 (w.heap.size + 1) (by go_size) fun c1_1 z1_1 s1_1 => ?_
    have b1 := kept_trans HW0.out hb1
    go_wp2_with (go_at_call 9; refine (in_any _ _ _ _).mono ?_; rintro e w1 ⟨rfl, rfl⟩)
    (try simp only [Exit.inBlock, Exit.then])
    refine bodyPost_ret (v := .tuple #[.agg #[.int .i64 0, .int .i64 0, .int .i64 0, .int .i64 0], .int .i64 2]) ?_ rfl ⟨rfl, ?_⟩
    · rw [results_cell_tmp rfl]
      go_simp
    · go_grown
  have g := inB_true h1
  obtain ⟨p1, p2, p3, p4⟩ := slow_parts h0 g
  simp only [if_true]
  have HU1 := Lib.hid (fun u => specUp_any (va * q) 100 (by omega) (by omega) u)
  have HU2 := Lib.hid (fun u => specUp_any (vd * q) 100 (by omega) (by omega) u)
  have d1 : (vb * 100).tdiv q = slowB vb q := by rw [slowB, Int.tdiv_eq_ediv_of_nonneg (by omega)]
  have d2 : (vc * 100).tdiv q = slowB vc q := by rw [slowB, Int.tdiv_eq_ediv_of_nonneg (by omega)]
  have c1 : 0 ≤ slowB vb q ∧ slowB vb q ≤ 60000 := by unfold slowB; exact ⟨Int.ediv_nonneg (by omega) (by omega), Int.le_trans (Int.ediv_le_self _ (by omega)) (by omega)⟩
  have c2 : 0 ≤ slowB vc q ∧ slowB vc q ≤ 60000 := by unfold slowB; exact ⟨Int.ediv_nonneg (by omega) (by omega), Int.le_trans (Int.ediv_le_self _ (by omega)) (by omega)⟩
  have e1 : wrap64 (va * q) = va * q := IntWalk.wrap64_in _ (by omega)
  have e2 : wrap64 (vd * q) = vd * q := IntWalk.wrap64_in _ (by omega)
  have e3 : wrap64 (vb * 100) = vb * 100 := IntWalk.wrap64_in _ (by omega)
  have e4 : wrap64 (vc * 100) = vc * 100 := IntWalk.wrap64_in _ (by omega)
  have i1 : IntKind.i64.wrap (va * q) = va * q := wrap_in (by omega)
  have i2 : IntKind.i64.wrap (vd * q) = vd * q := wrap_in (by omega)
  have i3 : IntKind.i64.wrap (vb * 100) = vb * 100 := wrap_in (by omega)
  have i4 : IntKind.i64.wrap (vc * 100) = vc * 100 := wrap_in (by omega)
  have i5 : IntKind.i64.wrap (slowB vb q) = slowB vb q := wrap_in (by omega)
  have e5 : wrap64 (slowB vc q) = slowB vc q := IntWalk.wrap64_in _ (by omega)
  have hq1 : (q == 0) = false := by simp; omega
  have hq2 : ¬ q = 0 := by omega
  have HW := Lib.hid (fun u => specSp_any (slowA va q) (slowB vb q) (slowB vc q) (slowA vd q) u)
  have f1 : upL (va * q) 100 = slowA va q := rfl
  have f2 : upL (vd * q) 100 = slowA vd q := rfl
  rw [f1] at HU1
  rw [f2] at HU2
  clear f1 f2 h0
  generalize slowA va q = ta at *
  generalize slowA vd q = td at *
  generalize slowB vb q = tb at *
  generalize slowB vc q = tc at *
  generalize spB ta tb tc td = R at *
  cases R
  case false =>
    simp only [Bool.false_eq_true, if_false, if_true]
    go_enter Try.func4, Try.ntmps4
    go_wp2_with fail
    refine (HV.out _).mono ?_
    rintro e w1 ⟨rfl, hb1⟩
    refine kept_at hb1 (w.heap.size) (by go_size) fun c1_0 z1_0 s1_0 => ?_
    refine kept_at hb1 (w.heap.size + 1) (by go_size) fun c1_1 z1_1 s1_1 => ?_
    have b1 := kept_trans HW0.out hb1
    have SOF := Lib.hid (show ∀ u, Below w1.heap.size w1 u → (fun w' => w'.cell? ⟨w.heap.size, 0, none⟩ = some (.int .i64 va) ∧ w'.cell? ⟨w.heap.size, 1, none⟩ = some (.int .i64 vb) ∧ w'.cell? ⟨w.heap.size, 2, none⟩ = some (.int .i64 vc) ∧ w'.cell? ⟨w.heap.size, 3, none⟩ = some (.int .i64 vd)) u from fun u q => by have h := BoxR_kept (BoxR_kept KV.out hb1) q; exact ⟨h.2 0 _ rfl, h.2 1 _ rfl, h.2 2 _ rfl, h.2 3 _ rfl⟩)
    have hrefl := Below.refl w1.heap.size w1
    go_wp2_with (first | (go_at_call 9; refine (in_any _ _ _ _).mono ?_; rintro e w1 ⟨rfl, rfl⟩))
    first
      | go_region_held3 (fun w' => w'.cell? ⟨w.heap.size, 0, none⟩ = some (.int .i64 va) ∧ w'.cell? ⟨w.heap.size, 1, none⟩ = some (.int .i64 vb) ∧ w'.cell? ⟨w.heap.size, 2, none⟩ = some (.int .i64 vc) ∧ w'.cell? ⟨w.heap.size, 3, none⟩ = some (.int .i64 vd)) (first | (refine SOF.out _ ?_; assumption) | (refine SOF.out _ ?_; go_grown)) (first
          | (go_at_call 10; refine (HU1.out _).mono ?_; rintro e v1 ⟨rfl, rfl⟩))
      | fail
    all_goals
      go_wp2_with fail
      refine (HU2.out _).mono ?_
      rintro e w2 ⟨rfl, rfl⟩
      go_wp2_with fail
      refine (HW.out _).mono ?_
      rintro e w2 ⟨rfl, hb2⟩
      refine kept_at hb2 (w.heap.size + 1) (by go_size) fun c2_1 z2_1 s2_1 => ?_
      refine kept_at hb2 (w1.heap.size) (by go_size) fun c2_2 z2_2 s2_2 => ?_
      have b2 := kept_trans (a := w) (by go_grown) hb2
      go_wp2
      (try simp only [Exit.inBlock, Exit.then])
      refine bodyPost_ret (v := .tuple #[.agg #[.int .i64 0, .int .i64 0, .int .i64 0, .int .i64 0], .int .i64 5]) ?_ rfl ⟨rfl, ?_⟩
      · rw [results_cell_tmp rfl]
        go_simp
      · go_grown
  case true =>
    simp only [Bool.false_eq_true, if_false, if_true]
    go_enter Try.func4, Try.ntmps4
    go_wp2_with fail
    refine (HV.out _).mono ?_
    rintro e w1 ⟨rfl, hb1⟩
    refine kept_at hb1 (w.heap.size) (by go_size) fun c1_0 z1_0 s1_0 => ?_
    refine kept_at hb1 (w.heap.size + 1) (by go_size) fun c1_1 z1_1 s1_1 => ?_
    have b1 := kept_trans HW0.out hb1
    have SOF := Lib.hid (show ∀ u, Below w1.heap.size w1 u → (fun w' => w'.cell? ⟨w.heap.size, 0, none⟩ = some (.int .i64 va) ∧ w'.cell? ⟨w.heap.size, 1, none⟩ = some (.int .i64 vb) ∧ w'.cell? ⟨w.heap.size, 2, none⟩ = some (.int .i64 vc) ∧ w'.cell? ⟨w.heap.size, 3, none⟩ = some (.int .i64 vd)) u from fun u q => by have h := BoxR_kept (BoxR_kept KV.out hb1) q; exact ⟨h.2 0 _ rfl, h.2 1 _ rfl, h.2 2 _ rfl, h.2 3 _ rfl⟩)
    have hrefl := Below.refl w1.heap.size w1
    go_wp2_with (first | (go_at_call 9; refine (in_any _ _ _ _).mono ?_; rintro e w1 ⟨rfl, rfl⟩))
    first
      | go_region_held3 (fun w' => w'.cell? ⟨w.heap.size, 0, none⟩ = some (.int .i64 va) ∧ w'.cell? ⟨w.heap.size, 1, none⟩ = some (.int .i64 vb) ∧ w'.cell? ⟨w.heap.size, 2, none⟩ = some (.int .i64 vc) ∧ w'.cell? ⟨w.heap.size, 3, none⟩ = some (.int .i64 vd)) (first | (refine SOF.out _ ?_; assumption) | (refine SOF.out _ ?_; go_grown)) (first
          | (go_at_call 10; refine (HU1.out _).mono ?_; rintro e v1 ⟨rfl, rfl⟩))
      | fail
    all_goals
      go_wp2_with fail
      refine (HU2.out _).mono ?_
      rintro e w2 ⟨rfl, rfl⟩
      go_wp2_with fail
      refine (HW.out _).mono ?_
      rintro e w2 ⟨rfl, hb2⟩
      refine kept_at hb2 (w.heap.size + 1) (by go_size) fun c2_1 z2_1 s2_1 => ?_
      refine kept_at hb2 (w1.heap.size) (by go_size) fun c2_2 z2_2 s2_2 => ?_
      have b2 := kept_trans (a := w) (by go_grown) hb2
      go_wp2
      (try simp only [Exit.inBlock, Exit.then])
      refine bodyPost_ret (v := .tuple #[.agg #[.int .i64 ta, .int .i64 tb, .int .i64 tc, .int .i64 td], .int .i64 0]) ?_ rfl ⟨rfl, ?_⟩
      · rw [results_cell_tmp rfl]
        go_simp
      · go_grown

set_option maxHeartbeats 4000000 in
theorem implSlo_any (va vb vc vd : Int) (q : Int) (w : World) :
    Calls Try.prog 6 #[.agg #[.int .i64 va, .int .i64 vb, .int .i64 vc, .int .i64 vd], .int .i64 q] w fun e w' => e = .returned (.tuple #[.agg #[.int .i64 (slowL va vb vc vd q).1.1, .int .i64 (slowL va vb vc vd q).1.2.1, .int .i64 (slowL va vb vc vd q).1.2.2.1, .int .i64 (slowL va vb vc vd q).1.2.2.2], .int .i64 (slowL va vb vc vd q).2]) ∧ Below w.heap.size w w' := by
  have HV := Lib.hid (fun u => implVSp_any va vb vc vd u)
  have KV : Hid (BoxR ((w.alloc (.cells #[.int .i64 va, .int .i64 vb, .int .i64 vc, .int .i64 vd] 24)).alloc (.cells #[.int .i64 0, .int .i64 0, .int .i64 0, .int .i64 0] 24)) w.heap.size [.int .i64 va, .int .i64 vb, .int .i64 vc, .int .i64 vd]) := Lib.hid (BoxR_up (BoxR_new' rfl))
  have KR : Hid (BoxR ((w.alloc (.cells #[.int .i64 va, .int .i64 vb, .int .i64 vc, .int .i64 vd] 24)).alloc (.cells #[.int .i64 0, .int .i64 0, .int .i64 0, .int .i64 0] 24)) (w.heap.size + 1) [.int .i64 0, .int .i64 0, .int .i64 0, .int .i64 0]) := Lib.hid (BoxR_new' (by simp))
  have HW0 : Hid (Below w.heap.size w ((w.alloc (.cells #[.int .i64 va, .int .i64 vb, .int .i64 vc, .int .i64 vd] 24)).alloc (.cells #[.int .i64 0, .int .i64 0, .int .i64 0, .int .i64 0] 24))) := Lib.hid (by go_grown)
  unfold slowL
  cases h0 : spB va vb vc vd <;> rw [h0] at HV
  case false =>
    clear h0
    simp only [Bool.false_eq_true, if_false]
    go_enter Try.func6, Try.ntmps6
    go_wp2_with fail
    refine (HV.out _).mono ?_
    rintro e w1 ⟨rfl, hb1⟩
    refine kept_at hb1 (w.heap.size + 1) (by go_size) fun c1_1 z1_1 s1_1 => ?_
    have b1 := kept_trans HW0.out hb1
    go_wp2
    (try simp only [Exit.inBlock, Exit.then])
    refine bodyPost_ret (v := .tuple #[.agg #[.int .i64 0, .int .i64 0, .int .i64 0, .int .i64 0], .int .i64 1]) ?_ rfl ⟨rfl, ?_⟩
    · rw [results_cell_tmp rfl]
      go_simp
    · go_grown
  simp only [if_true]
  cases h1 : inB q 100 1000
  case false =>
    simp only [Bool.false_eq_true, if_false]
    go_enter Try.func6, Try.ntmps6
    go_wp2_with fail
    refine (HV.out _).mono ?_
    rintro e w0 ⟨rfl, hb0⟩
    go_wp2_with fail
    refine (validPercent_any _ _).mono ?_
    rintro e w1 ⟨rfl, hb1'⟩
    rw [h1]
    have hb1 := kept_trans hb0 hb1'
    clear hb0 hb1'
    refine kept_at hb1 (w.heap.size + 1) (by go_size) fun c1_1 z1_1 s1_1 => ?_
    have b1 := kept_trans HW0.out hb1
    go_wp2
    (try simp only [Exit.inBlock, Exit.then])
    refine bodyPost_ret (v := .tuple #[.agg #[.int .i64 0, .int .i64 0, .int .i64 0, .int .i64 0], .int .i64 2]) ?_ rfl ⟨rfl, ?_⟩
    · rw [results_cell_tmp rfl]
      go_simp
    · go_grown
  have g := inB_true h1
  obtain ⟨p1, p2, p3, p4⟩ := slow_parts h0 g
  simp only [if_true]
  have HU1 := Lib.hid (fun u => implUp_any (va * q) 100 (by omega) (by omega) u)
  have HU2 := Lib.hid (fun u => implUp_any (vd * q) 100 (by omega) (by omega) u)
  have d1 : (vb * 100).tdiv q = slowB vb q := by rw [slowB, Int.tdiv_eq_ediv_of_nonneg (by omega)]
  have d2 : (vc * 100).tdiv q = slowB vc q := by rw [slowB, Int.tdiv_eq_ediv_of_nonneg (by omega)]
  have c1 : 0 ≤ slowB vb q ∧ slowB vb q ≤ 60000 := by unfold slowB; exact ⟨Int.ediv_nonneg (by omega) (by omega), Int.le_trans (Int.ediv_le_self _ (by omega)) (by omega)⟩
  have c2 : 0 ≤ slowB vc q ∧ slowB vc q ≤ 60000 := by unfold slowB; exact ⟨Int.ediv_nonneg (by omega) (by omega), Int.le_trans (Int.ediv_le_self _ (by omega)) (by omega)⟩
  have e1 : wrap64 (va * q) = va * q := IntWalk.wrap64_in _ (by omega)
  have e2 : wrap64 (vd * q) = vd * q := IntWalk.wrap64_in _ (by omega)
  have e3 : wrap64 (vb * 100) = vb * 100 := IntWalk.wrap64_in _ (by omega)
  have e4 : wrap64 (vc * 100) = vc * 100 := IntWalk.wrap64_in _ (by omega)
  have i1 : IntKind.i64.wrap (va * q) = va * q := wrap_in (by omega)
  have i2 : IntKind.i64.wrap (vd * q) = vd * q := wrap_in (by omega)
  have i3 : IntKind.i64.wrap (vb * 100) = vb * 100 := wrap_in (by omega)
  have i4 : IntKind.i64.wrap (vc * 100) = vc * 100 := wrap_in (by omega)
  have i5 : IntKind.i64.wrap (slowB vb q) = slowB vb q := wrap_in (by omega)
  have e5 : wrap64 (slowB vc q) = slowB vc q := IntWalk.wrap64_in _ (by omega)
  have i6 : IntKind.i64.wrap (slowB vc q) = slowB vc q := wrap_in (by omega)
  have hq1 : (q == 0) = false := by simp; omega
  have hq2 : ¬ q = 0 := by omega
  have HW := Lib.hid (fun u => implVSp_any (slowA va q) (slowB vb q) (slowB vc q) (slowA vd q) u)
  have f1 : upL (va * q) 100 = slowA va q := rfl
  have f2 : upL (vd * q) 100 = slowA vd q := rfl
  rw [f1] at HU1
  rw [f2] at HU2
  clear f1 f2 h0
  generalize slowA va q = ta at *
  generalize slowA vd q = td at *
  generalize slowB vb q = tb at *
  generalize slowB vc q = tc at *
  generalize spB ta tb tc td = R at *
  cases R
  case false =>
    simp only [Bool.false_eq_true, if_false, if_true]
    go_enter Try.func6, Try.ntmps6
    go_wp2_with fail
    refine (HV.out _).mono ?_
    rintro e w0 ⟨rfl, hb0⟩
    go_wp2_with fail
    refine (validPercent_any _ _).mono ?_
    rintro e w1 ⟨rfl, hb1'⟩
    rw [h1]
    have hb1 := kept_trans hb0 hb1'
    clear hb0 hb1'
    refine kept_at hb1 (w.heap.size) (by go_size) fun c1_0 z1_0 s1_0 => ?_
    refine kept_at hb1 (w.heap.size + 1) (by go_size) fun c1_1 z1_1 s1_1 => ?_
    have b1 := kept_trans HW0.out hb1
    have SOF := Lib.hid (show ∀ u, Below w1.heap.size w1 u → (fun w' => w'.cell? ⟨w.heap.size, 0, none⟩ = some (.int .i64 va) ∧ w'.cell? ⟨w.heap.size, 1, none⟩ = some (.int .i64 vb) ∧ w'.cell? ⟨w.heap.size, 2, none⟩ = some (.int .i64 vc) ∧ w'.cell? ⟨w.heap.size, 3, none⟩ = some (.int .i64 vd)) u from fun u q => by have h := BoxR_kept (BoxR_kept KV.out hb1) q; exact ⟨h.2 0 _ rfl, h.2 1 _ rfl, h.2 2 _ rfl, h.2 3 _ rfl⟩)
    have hrefl := Below.refl w1.heap.size w1
    go_wp2_with fail
    first
      | go_region_held3 (fun w' => w'.cell? ⟨w.heap.size, 0, none⟩ = some (.int .i64 va) ∧ w'.cell? ⟨w.heap.size, 1, none⟩ = some (.int .i64 vb) ∧ w'.cell? ⟨w.heap.size, 2, none⟩ = some (.int .i64 vc) ∧ w'.cell? ⟨w.heap.size, 3, none⟩ = some (.int .i64 vd)) (first | (refine SOF.out _ ?_; assumption) | (refine SOF.out _ ?_; go_grown)) (first
          | (go_at_call 13; have mk2 := mk; refine (HU2.out _).mono ?_; rintro e v2 ⟨rfl, rfl⟩)
          | (go_at_call 13; refine (HU1.out _).mono ?_; rintro e v1 ⟨rfl, rfl⟩; have mk := True.intro))
      | fail
    all_goals
      go_wp2_with fail
      refine (HW.out _).mono ?_
      rintro e w2 ⟨rfl, hb2⟩
      refine kept_at hb2 (w.heap.size + 1) (by go_size) fun c2_1 z2_1 s2_1 => ?_
      refine kept_at hb2 (w1.heap.size) (by go_size) fun c2_2 z2_2 s2_2 => ?_
      have b2 := kept_trans (a := w) (by go_grown) hb2
      go_wp2
      (try simp only [Exit.inBlock, Exit.then])
      refine bodyPost_ret (v := .tuple #[.agg #[.int .i64 0, .int .i64 0, .int .i64 0, .int .i64 0], .int .i64 5]) ?_ rfl ⟨rfl, ?_⟩
      · rw [results_cell_tmp rfl]
        go_simp
      · go_grown
  case true =>
    simp only [Bool.false_eq_true, if_false, if_true]
    go_enter Try.func6, Try.ntmps6
    go_wp2_with fail
    refine (HV.out _).mono ?_
    rintro e w0 ⟨rfl, hb0⟩
    go_wp2_with fail
    refine (validPercent_any _ _).mono ?_
    rintro e w1 ⟨rfl, hb1'⟩
    rw [h1]
    have hb1 := kept_trans hb0 hb1'
    clear hb0 hb1'
    refine kept_at hb1 (w.heap.size) (by go_size) fun c1_0 z1_0 s1_0 => ?_
    refine kept_at hb1 (w.heap.size + 1) (by go_size) fun c1_1 z1_1 s1_1 => ?_
    have b1 := kept_trans HW0.out hb1
    have SOF := Lib.hid (show ∀ u, Below w1.heap.size w1 u → (fun w' => w'.cell? ⟨w.heap.size, 0, none⟩ = some (.int .i64 va) ∧ w'.cell? ⟨w.heap.size, 1, none⟩ = some (.int .i64 vb) ∧ w'.cell? ⟨w.heap.size, 2, none⟩ = some (.int .i64 vc) ∧ w'.cell? ⟨w.heap.size, 3, none⟩ = some (.int .i64 vd)) u from fun u q => by have h := BoxR_kept (BoxR_kept KV.out hb1) q; exact ⟨h.2 0 _ rfl, h.2 1 _ rfl, h.2 2 _ rfl, h.2 3 _ rfl⟩)
    have hrefl := Below.refl w1.heap.size w1
    go_wp2_with fail
    first
      | go_region_held3 (fun w' => w'.cell? ⟨w.heap.size, 0, none⟩ = some (.int .i64 va) ∧ w'.cell? ⟨w.heap.size, 1, none⟩ = some (.int .i64 vb) ∧ w'.cell? ⟨w.heap.size, 2, none⟩ = some (.int .i64 vc) ∧ w'.cell? ⟨w.heap.size, 3, none⟩ = some (.int .i64 vd)) (first | (refine SOF.out _ ?_; assumption) | (refine SOF.out _ ?_; go_grown)) (first
          | (go_at_call 13; have mk2 := mk; refine (HU2.out _).mono ?_; rintro e v2 ⟨rfl, rfl⟩)
          | (go_at_call 13; refine (HU1.out _).mono ?_; rintro e v1 ⟨rfl, rfl⟩; have mk := True.intro))
      | fail
    all_goals
      go_wp2_with fail
      refine (HW.out _).mono ?_
      rintro e w2 ⟨rfl, hb2⟩
      refine kept_at hb2 (w.heap.size + 1) (by go_size) fun c2_1 z2_1 s2_1 => ?_
      refine kept_at hb2 (w1.heap.size) (by go_size) fun c2_2 z2_2 s2_2 => ?_
      have b2 := kept_trans (a := w) (by go_grown) hb2
      go_wp2
      (try simp only [Exit.inBlock, Exit.then])
      refine bodyPost_ret (v := .tuple #[.agg #[.int .i64 ta, .int .i64 tb, .int .i64 tc, .int .i64 td], .int .i64 0]) ?_ rfl ⟨rfl, ?_⟩
      · rw [results_cell_tmp rfl]
        go_simp
      · go_grown

set_option maxHeartbeats 1000000 in
theorem walk_FnExactSlowerSpeeds (va : Int) (wva : (Lit.int .i64 va).wf = true) (vb : Int) (wvb : (Lit.int .i64 vb).wf = true) (vc : Int) (wvc : (Lit.int .i64 vc).wf = true) (vd : Int) (wvd : (Lit.int .i64 vd).wf = true) (q : Int) (wq : (Lit.int .i64 q).wf = true) (w : World) :
    Calls Try.prog 3 #[.agg #[.int .i64 va, .int .i64 vb, .int .i64 vc, .int .i64 vd], .int .i64 q] w fun e w' => e = .returned (.bool true) ∧ Below w.heap.size w w' := by
  have hS := fun u => specSlo_any va vb vc vd q u
  have hI := fun u => implSlo_any va vb vc vd q u
  generalize slowL va vb vc vd q = L at *
  obtain ⟨⟨la, lb, lc, ld⟩, le⟩ := L
  (try dsimp only at hS hI)
  have HS := Lib.hid hS; clear hS
  have HI := Lib.hid hI; clear hI
  go_enter Try.func3, Try.ntmps3
  go_wp2_with fail
  refine (toSp_any va vb vc vd _).mono ?_
  rintro e w1 ⟨rfl, b1⟩
  refine kept_at b1 (w.heap.size) (by go_size) fun c1_0 z1_0 s1_0 => ?_
  replace b1 := kept_trans (a := w) (by go_grown) b1
  have l1 := kept_cell b1
  have zz1 := b1.size
  go_wp2_with fail
  refine (HS.out _).mono ?_
  rintro e w2 ⟨rfl, b2⟩
  refine kept_at b2 (w.heap.size) (by go_size) fun c2_0 z2_0 s2_0 => ?_
  replace b2 := kept_trans (a := w) (by go_grown) b2
  have l2 := kept_cell b2
  have zz2 := b2.size
  go_wp2_with fail
  refine (toSp_any va vb vc vd _).mono ?_
  rintro e w3 ⟨rfl, b3⟩
  refine kept_at b3 (w.heap.size) (by go_size) fun c3_0 z3_0 s3_0 => ?_
  refine kept_at b3 (w2.heap.size) (by go_size) fun c3_1 z3_1 s3_1 => ?_
  replace b3 := kept_trans (a := w) (by go_grown) b3
  have l3 := kept_cell b3
  have zz3 := b3.size
  go_wp2_with fail
  refine (HI.out _).mono ?_
  rintro e w4 ⟨rfl, b4⟩
  refine kept_at b4 (w.heap.size) (by go_size) fun c4_0 z4_0 s4_0 => ?_
  refine kept_at b4 (w2.heap.size) (by go_size) fun c4_1 z4_1 s4_1 => ?_
  replace b4 := kept_trans (a := w) (by go_grown) b4
  have l4 := kept_cell b4
  have zz4 := b4.size
  go_wp2_with fail
  refine (eqSp_any _ _ _ _ _).mono ?_
  rintro e w5 ⟨rfl, b5⟩
  refine kept_at b5 (w.heap.size) (by go_size) fun c5_0 z5_0 s5_0 => ?_
  replace b5 := kept_trans (a := w) (by go_grown) b5
  have l5 := kept_cell b5
  have zz5 := b5.size
  go_wp2
  go_ret
  exact ⟨rfl, by go_grown⟩

end Go.Proofs.Ytnflaeimiegepac
namespace Go.Proofs.Ytnflaeimiegepac.fnExactSlowerSpeeds
open Go.ChangeShapes Go.WideShapes Go.ChangeAt Go.RowKit
set_option linter.unusedVariables false
set_option linter.unusedSimpArgs false
open Go.Joins Go.ChangeMaps
set_option maxRecDepth 100000 in
theorem lifted (os : Os) (started : os.Started) (H : Type) (enc : TypeId × Value → H) :
    ReturnsInHanded {} Try.checked os 3 .any (Rows.fnExactSlowerSpeedsSpec.pre6 enc Try.prog Try.f3 Rows.fnExactSlowerSpeedsRow.domain false) (Rows.fnExactSlowerSpeedsSpec.post enc Try.prog Try.f3 false true false false) := by
  refine returnsInHanded_of_change (C := Try.checked) (show ownKnob Try.prog.godebug = none by kernel_rfl) started (by kernel_rfl) Try.func3
    (ChangeSpec.witness6 (enc := enc) (C := Try.checked) false ⟨#[], #[.agg #[.int .i64 0, .int .i64 0, .int .i64 0, .int .i64 0], .int .i64 0], []⟩ 8 (by kernel_rfl) (by kernel_rfl) (by kernel_rfl) (by kernel_rfl)) ?_
  intro W base args ds gs before hval0 hW hcnd _
  have hval : ∀ (j : Nat) t v, Try.f3.params[j]? = some t → args[j]? = some v → Value.okWide Try.prog W .any base t v := hval0
  have hW' := hW
  obtain ⟨p, q, hA0, hV, rfl, hfz, hnd⟩ := hW
  have hA : DataW.TrodAll enc Try.prog W 0 (fun _ => true) true Try.f3.params.toList args.toList ds p := hA0
  rw [Try.params3] at hA hval
  obtain ⟨v0, vs0, d0, ds0, p0, q0, hargs, rfl, rfl, h0, r0⟩ := trodAll_cons hA
  obtain ⟨v1, vs1, d1, ds1, p1, q1, rfl, rfl, rfl, h1, r1⟩ := trodAll_cons r0
  obtain ⟨rfl, rfl, rfl⟩ := trodAll_nil r1
  obtain rfl : args = #[v0, v1] := by cases args; simp_all
  obtain ⟨rfl, rfl⟩ := trodVars_none hV
  obtain ⟨c0_0, c0_1, c0_2, c0_3, y0_0, y0_1, y0_2, y0_3, m0, rfl, rfl, rfl, h0_0, h0_1, h0_2, h0_3⟩ := Joins.open_agg4 Try.underlying23 (by kernel_rfl) (show Try.prog.cellsOf 23 = 4 by kernel_rfl) (hval 0 23 v0 rfl rfl) h0
  obtain ⟨a0_0, e0_0, rfl, w0_0⟩ := DataW.trod_int Try.underlying2 h0_0
  simp at e0_0
  subst e0_0
  obtain ⟨a0_1, e0_1, rfl, w0_1⟩ := DataW.trod_int Try.underlying2 h0_1
  simp at e0_1
  subst e0_1
  obtain ⟨a0_2, e0_2, rfl, w0_2⟩ := DataW.trod_int Try.underlying2 h0_2
  simp at e0_2
  subst e0_2
  obtain ⟨a0_3, e0_3, rfl, w0_3⟩ := DataW.trod_int Try.underlying2 h0_3
  simp at e0_3
  subst e0_3
  obtain ⟨a1, rfl, rfl, rfl, w1⟩ := open_int Try.underlying2 (hval 1 2 v1 rfl rfl) h1
  clear hA0 hval0
  refine (walk_FnExactSlowerSpeeds (w := W) a0_0 w0_0 a0_1 w0_1 a0_2 w0_2 a0_3 w0_3 a1 w1 ).mono fun e W' ⟨he, hb⟩ => ?_
  subst he
  exact ⟨_, rfl, law_post (B := 4) (by kernel_rfl) (by kernel_rfl) rfl Try.underlying4 rfl hW' rfl hb⟩

/-- The statement: for every input the law returns true, and the arguments read afterwards as before. -/
theorem proved : Rows.FnExactSlowerSpeedsSaid :=
  OpenClaim.holds_of_wide 3 Try.f3 rfl rfl rfl rfl rfl rfl rfl ⟨rfl, rfl, rfl, rfl, rfl⟩ rfl rfl rfl rfl rfl (by kernel_rfl) Try.func3 (by kernel_rfl)
    (of_decide_eq_true (by kernel_rfl)) (by unfold Func.isWrapper; first | (rw [if_pos (by decide +kernel)]; kernel_rfl) | (rw [if_neg (by decide +kernel)]; exact ⟨rfl, rfl⟩))
    (fun os started H enc _ => lifted os started H enc)
end Go.Proofs.Ytnflaeimiegepac.fnExactSlowerSpeeds
