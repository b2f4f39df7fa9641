import Derived.Test.YtedmpjgpgbmolaaGreatDoorRows
import Derived.WalkKit
import Derived.ProofKit
import Derived.OpenShut
import Derived.Lib.Hide
import Derived.Handy
import Derived.BigQuiet
import Derived.Carry
import Derived.ChangeSlices
import Derived.Deep.Cut
import Derived.Deep.DeepCutAuto
import Derived.Deep.Draws
import Derived.Deep.QuietTactic
import Derived.Deep.RegionHeld3
import Derived.Laws.ResultCell
import Derived.Lib.CutLaws
import Derived.Lib.FieldsP
import Derived.Lib.ItoaLen
import Derived.Lib.ItoaNum
import Derived.Lib.Join
import Derived.Lib.LaidTab
import Derived.Lib.LaidU8
import Derived.Lib.ParseIntB
import Derived.Lib.SmallJoins
import Derived.Lib.Strings
import Derived.Lib.TrimUEq
import Derived.OwnWalk
import Derived.Shelf.Abstract
import Derived.Shelf.Strings.FieldsFuncAny
import Derived.Shelf.Strconv.Itoa0
import Derived.Shelf.Strconv.Itoa1
import Derived.Shelf.LaysM
import Derived.Shelf.Strconv.Itoa2
import Derived.Shelf.Strconv.Itoa3
import Derived.Shelf.Strconv.Itoa4
import Derived.Shelf.Strconv.ParseIntEmpty
import Derived.Shelf.Strconv.Clone
import Derived.Shelf.Strconv.SyntaxError
import Derived.Shelf.LaysC
import Derived.Shelf.Strconv.ToError
import Derived.Shelf.Strconv.Lower
import Derived.Shelf.Strconv.ParseUint10
import Derived.Shelf.Strconv.ParseUint10Empty
import Derived.Shelf.Strconv.ParseUint10Any
import Derived.Shelf.Strconv.ParseInt10
import Derived.Shelf.Strconv.RangeError
import Derived.Shelf.Strconv.ToErrorRange
import Derived.Shelf.Strconv.ParseUintEmpty
import Derived.Shelf.Strconv.ParseUint10b64
import Derived.Shelf.Strconv.ParseUint10b32
import Derived.Shelf.Strconv.ParseUint10b16
import Derived.Shelf.Strconv.ParseUint10b8
import Derived.Shelf.Strconv.ParseUint10At
import Derived.Shelf.Strconv.ParseInt10At64
import Derived.Shelf.Strconv.ParseInt10At32
import Derived.Shelf.Strconv.ParseInt10At16
import Derived.Shelf.Strconv.ParseInt10At8
import Derived.Shelf.Strconv.ParseInt10All
import Derived.Shelf.Strconv.ParseIntPublic10
import Derived.Shelf.Strings.Prefix
import Derived.Shelf.Strings.FieldsFuncAny
import Derived.Test.YtedmpjgpgbmolaaGreatDoorCards
import Derived.Test.YtedmpjgpgbmolaaGreatDoorTie
import Derived.Lib.SmallJoins
import Derived.ChangeMaps5
import Derived.Deep.DeepHandedRow
import Derived.Deep.DeepWitnessRowRef
import Derived.Lib.LaidTab
import Derived.SevenTiedAt
import Derived.Test.YtedmpjgpgbmolaaGreatDoorSlingsWalka
namespace Go.Proofs.YtedmpjgpgbmolaaGreatDoor
open Go.ChangeShapes Go.WideShapes Go.ChangeAt Go.RowKit
set_option linter.unusedVariables false
set_option linter.unusedSimpArgs false


theorem specFU_any (g p r m : Int) (k : Int) (w : World) :
    Calls Tryz.prog 11 #[.agg #[.int .i64 g, .int .i64 p, .int .i64 r, .int .i64 m], .int .i64 k] w fun e w' => e = .returned (.tuple #[.int .i64 (fuL g p r m k).1, .int .i64 (fuL g p r m k).2]) ∧ Below w.heap.size w w' := by
  have HA := Lib.hid (SlAt_new g p r m w)
  have HC := fun u (x : SlAt u w.heap.size 0 ⟨g, p, r, m⟩) => specSlCode_any w.heap.size 0 ⟨g, p, r, m⟩ k u x
  have hE : okSl ⟨g, p, r, m⟩ = slB g p r m := rfl
  rw [hE] at HC
  unfold fuL
  by_cases hK : codeL3 (slB g p r m) [inB k 0 50000] = 0
  · rw [hK] at HC
    rw [if_pos hK]
    obtain ⟨hv, hbs⟩ := codeL3_ok hK
    have hk := inB_true (hbs _ (List.mem_singleton.2 rfl))
    have HC := Lib.hid HC
    have HF := fun u (x : SlAt u w.heap.size 0 ⟨g, p, r, m⟩) => specSlUp_any w.heap.size 0 ⟨g, p, r, m⟩ k u x (by rw [hE]; exact hv) hk
    dsimp only at HF
    clear hK hbs
    generalize slUp g p r k = U at *
    have HF := Lib.hid HF
    go_enter Tryz.func11, Tryz.ntmps11
    go_wp2_with fail
    refine (HC.out _ (SlAt_kept HA.out (by go_grown))).mono ?_
    rintro e w1 ⟨rfl, rfl⟩
    go_wp2_with fail
    refine (HF.out _ (SlAt_kept HA.out (by go_grown))).mono ?_
    rintro e w2 ⟨rfl, hb2⟩
    have b2 := kept_trans (a := w) (by go_grown) hb2
    go_wp2
    go_ret2
    exact ⟨rfl, b2⟩
  · rw [if_neg hK]
    have hK1 : (codeL3 (slB g p r m) [inB k 0 50000] == 0) = false := by simpa using hK
    have hK2 : (codeL3 (slB g p r m) [inB k 0 50000] != 0) = true := by simpa using hK
    generalize codeL3 (slB g p r m) [inB k 0 50000] = K at *
    have HC := Lib.hid HC
    go_enter Tryz.func11, Tryz.ntmps11
    go_wp2_with fail
    refine (HC.out _ (SlAt_kept HA.out (by go_grown))).mono ?_
    rintro e w1 ⟨rfl, rfl⟩
    go_wp2
    go_ret2
    exact ⟨rfl, by go_grown⟩

theorem specAC_any (g p r m : Int) (w : World) :
    Calls Tryz.prog 9 #[.agg #[.int .i64 g, .int .i64 p, .int .i64 r, .int .i64 m]] w fun e w' => e = .returned (.tuple #[.int .i64 (acL g p r m).1, .int .i64 (acL g p r m).2]) ∧ Below w.heap.size w w' := by
  have HA := Lib.hid (SlAt_new g p r m w)
  have HO := fun u (x : SlAt u w.heap.size 0 ⟨g, p, r, m⟩) => specSlOk_any w.heap.size 0 ⟨g, p, r, m⟩ u x
  have hE : okSl ⟨g, p, r, m⟩ = slB g p r m := rfl
  rw [hE] at HO
  unfold acL
  cases hv : slB g p r m
  · rw [hv] at HO
    have HO := Lib.hid HO
    go_enter Tryz.func9, Tryz.ntmps9
    go_wp2_with fail
    refine (HO.out _ (SlAt_kept HA.out (by go_grown))).mono ?_
    rintro e w1 ⟨rfl, rfl⟩
    go_wp2
    go_ret2
    exact ⟨rfl, by go_grown⟩
  · rw [hv] at HO
    have HO := Lib.hid HO
    have HD := fun u (x : SlAt u w.heap.size 0 ⟨g, p, r, m⟩) => specSlK_any w.heap.size 0 ⟨g, p, r, m⟩ u x (by rw [hE]; exact hv)
    dsimp only at HD
    generalize slK g p r = K at *
    have HD := Lib.hid HD
    go_enter Tryz.func9, Tryz.ntmps9
    go_wp2_with fail
    refine (HO.out _ (SlAt_kept HA.out (by go_grown))).mono ?_
    rintro e w1 ⟨rfl, rfl⟩
    go_wp2_with fail
    refine (HD.out _ (SlAt_kept HA.out (by go_grown))).mono ?_
    rintro e w2 ⟨rfl, hb2⟩
    have b2 := kept_trans (a := w) (by go_grown) hb2
    go_wp2
    go_ret2
    exact ⟨rfl, b2⟩

theorem rise_ok {g p r m n : Int} (h : slB g p r m = true) (hn : 1 ≤ n ∧ n ≤ 400) : slB g p n m = true := by
  simp only [slB, Bool.and_eq_true] at h ⊢
  obtain ⟨⟨⟨⟨a, b⟩, c⟩, d⟩, e⟩ := h
  exact ⟨⟨⟨⟨a, b⟩, by simp [inB]; omega⟩, d⟩, e⟩

theorem lrL_step (g p k q : Int) (n : Nat) : lrL g p k q (n + 1) = if slHolds g p (400 - n) k q then (400 - (n : Int), 0) else lrL g p k q n := rfl

set_option maxHeartbeats 1000000 in
theorem specLR_any (g p r m : Int) (k q : Int) (w : World) :
    Calls Tryz.prog 7 #[.agg #[.int .i64 g, .int .i64 p, .int .i64 r, .int .i64 m], .int .i64 k, .int .i64 q] w fun e w' => e = .returned (.tuple #[.int .i64 (lrAll g p r m k q).1, .int .i64 (lrAll g p r m k q).2]) ∧ Below w.heap.size w w' := by
  have HX := Lib.hid (SlBox_new g p r m w)
  have HC := fun u (x : SlAt u w.heap.size 0 ⟨g, p, r, m⟩) => specSlCode_any w.heap.size 0 ⟨g, p, r, m⟩ k u x
  have hE : okSl ⟨g, p, r, m⟩ = slB g p r m := rfl
  rw [hE] at HC
  have hB0 : Below w.heap.size w (w.alloc (.cells #[.int .i64 g, .int .i64 p, .int .i64 r, .int .i64 m] 25)) := by go_grown
  unfold lrAll
  rcases three (slB g p r m) (inB k 0 50000) (inB q 0 50000) with hv | ⟨hv, hk⟩ | ⟨hv, hk, hq⟩ | ⟨hv, hk, hq⟩
  case inr.inr.inr =>
    rw [if_pos (by rw [hv, hk, hq]; rfl)]
    rw [show codeL3 (slB g p r m) [inB k 0 50000] = 0 by rw [hv, hk]; rfl] at HC
    have HC := Lib.hid HC
    have hkb := inB_true hk
    have HH := fun n (hn : 1 ≤ n ∧ n ≤ 400) u (x : SlAt u w.heap.size 0 ⟨g, p, n, m⟩) => specSlH_any w.heap.size 0 ⟨g, p, n, m⟩ k q u x (rise_ok hv hn) hkb
    unfold holdsSl at HH
    dsimp only at HH
    have hst := lrL_step g p k q
    have hz0 : lrL g p k q 0 = (0, 3) := rfl
    have hfn : ∃ F : Int → Bool, ∀ n, slHolds g p n k q = F n := ⟨_, fun _ => rfl⟩
    obtain ⟨F, hF⟩ := hfn
    simp only [hF] at HH hst
    generalize lrL g p k q = G at *
    have HST := Lib.hid hst; clear hst
    have HZ0 := Lib.hid hz0; clear hz0
    have HH := Lib.hid HH
    clear hF hE hv hkb
    go_enter Tryz.func7, Tryz.ntmps7
    go_wp2_with fail
    refine (HC.out _ (SlBox_at HX.out)).mono ?_
    rintro e w1 ⟨rfl, rfl⟩
    go_wp2_with fail
    refine (in_any _ _ _ _).mono ?_
    rintro e w2 ⟨rfl, rfl⟩
    rw [hq]
    clear hq hk
    go_wp2_with fail
    generalize w.alloc (.cells #[.int .i64 g, .int .i64 p, .int .i64 r, .int .i64 m] 25) = u0 at *
    go_loopw [9] (fun i wr => ∃ n : Nat, n ≤ 400 ∧ i = .int .i64 (401 - n) ∧ G 400 = G n ∧ (∃ x, SlBox wr w.heap.size g p x m) ∧ Below w.heap.size w wr) (fun i _ => 401 - (intOf i).toNat)
    case atStart => exact ⟨400, by omega, rfl, rfl, ⟨r, HX.out⟩, hB0⟩
    case round =>
      obtain ⟨n, hn, rfl, hG, ⟨x, hx⟩, hb⟩ := hrel
      cases n with
      | zero =>
        clear hx
        have HG := Lib.hid (hG.trans HZ0.out); clear hG
        go_wp2
        go_ret2
        exact ⟨by rw [HG.out]; rfl, hb⟩
      | succ n =>
        obtain ⟨y, hy⟩ : ∃ y : Int, y = 400 - n := ⟨_, rfl⟩
        have e1 : (401 : Int) - ((n + 1 : Nat) : Int) = y := by omega
        rw [e1]
        have hs := HST.out n
        rw [← hy] at hs
        obtain ⟨⟨a0, a1, a2, a3⟩, fz⟩ := SlBox_facts hx
        have fz2 := fz 2
        clear fz
        have X2 := Lib.hid (SlBox_put hx y).2.2.1
        have hb2 : Below w.heap.size w (wr.setCell ⟨w.heap.size, 2, none⟩ (.int .i64 y)) := hb.setCell (Nat.le_refl _) _
        have hy1 : 1 ≤ y ∧ y ≤ 400 := by omega
        clear hx
        have HB2 := Lib.hid hb2; clear hb2 hb e1
        have HY := Lib.hid hy; clear hy
        have HG := Lib.hid hG; clear hG
        have HS := Lib.hid hs; clear hs
        go_wp2_with fail
        clear a0 a1 a2 a3 fz2
        have hat := SlBox_at X2.out
        generalize wr.setCell ⟨w.heap.size, 2, none⟩ (.int .i64 y) = u2 at *
        refine (HH.out y hy1 _ hat).mono ?_
        rintro e w3 ⟨rfl, hb3⟩
        have hs := HS.out
        cases hf : F y
        · rw [hf] at hs
          simp only [Bool.false_eq_true, if_false] at hs
          replace HS := Lib.hid hs; clear hs
          have hw : IntKind.i64.wrap (y + 1) = y + 1 := IntWalk.i64_in _ (by omega)
          have hw' : wrap64 (y + 1) = y + 1 := IntWalk.wrap64_in _ (by omega)
          go_wp2
          go_roundw
          case rel => exact ⟨n, by omega, by (have := HY.out; simp <;> omega), by rw [HG.out, HS.out], ⟨y, SlBox_kept X2.out hb3⟩, kept_trans HB2.out hb3⟩
          case measure => have := HY.out; simp [intOf] <;> omega
        · rw [hf] at hs
          simp only [if_true] at hs
          have HG2 := Lib.hid (HG.out.trans hs); clear hs
          go_wp2
          go_ret2
          exact ⟨by rw [HG2.out]; have := HY.out; simp, kept_trans HB2.out hb3⟩
  all_goals
    have HX2 := Lib.hid (SlBox_at HX.out)
    first | rw [hv] at HC ⊢ | skip
  case inl =>
    rw [show codeL3 false [inB k 0 50000] = 1 from rfl] at HC
    rw [if_neg (by simp [codeL3])]
    have HC := Lib.hid HC
    go_enter Tryz.func7, Tryz.ntmps7
    go_wp2_with fail
    refine (HC.out _ HX2.out).mono ?_
    rintro e w1 ⟨rfl, rfl⟩
    go_wp2
    go_ret2
    exact ⟨by simp [codeL3], hB0⟩
  case inr.inl =>
    rw [hk] at HC ⊢
    rw [show codeL3 true [false] = 2 from rfl] at HC
    rw [if_neg (by simp [codeL3])]
    have HC := Lib.hid HC
    go_enter Tryz.func7, Tryz.ntmps7
    go_wp2_with fail
    refine (HC.out _ HX2.out).mono ?_
    rintro e w1 ⟨rfl, rfl⟩
    go_wp2
    go_ret2
    exact ⟨by simp [codeL3], hB0⟩
  case inr.inr.inl =>
    rw [hk] at HC ⊢
    rw [hq]
    rw [show codeL3 true [true] = 0 from rfl] at HC
    rw [if_neg (by simp [codeL3])]
    have HC := Lib.hid HC
    go_enter Tryz.func7, Tryz.ntmps7
    go_wp2_with fail
    refine (HC.out _ HX2.out).mono ?_
    rintro e w1 ⟨rfl, rfl⟩
    go_wp2_with fail
    refine (in_any _ _ _ _).mono ?_
    rintro e w2 ⟨rfl, rfl⟩
    rw [hq]
    go_wp2
    go_ret2
    exact ⟨by simp [codeL3], hB0⟩

set_option maxHeartbeats 1000000 in
theorem implSlV_any (g p r m : Int) (w : World) :
    Calls Tryz.prog 23 #[.agg #[.int .i64 g, .int .i64 p, .int .i64 r, .int .i64 m]] w fun e w' => e = .returned (.bool (slB g p r m)) ∧ Below w.heap.size w w' := by
  have e1 : slB g p r m = ([g].all (fun n => inB n 1 4) && [p].all (fun n => inB n 0 400) && (decide (1 < g) || decide (p = 0)) && [r].all (fun n => inB n 1 400) && [m].all (fun n => inB n 0 1000)) := by
    simp only [slB, List.all_cons, List.all_nil, Bool.and_true]
    cases inB g 1 4 <;> cases inB p 0 400 <;> cases inB r 1 400 <;> cases inB m 0 1000 <;> simp
  rw [e1]; clear e1
  have H0 := fun v u q => within_any 1 4 v [g] u q
  have H1 := fun v u q => within_any 0 400 v [p] u q
  have H2 := fun v u q => within_any 1 400 v [r] u q
  have H3 := fun v u q => within_any 0 1000 v [m] u q
  generalize [g].all (fun n => inB n 1 4) = p0 at *
  generalize [p].all (fun n => inB n 0 400) = p1 at *
  generalize [r].all (fun n => inB n 1 400) = p2 at *
  generalize [m].all (fun n => inB n 0 1000) = p3 at *
  cases p0
  case false =>
    have H0 := Lib.hid H0
    go_enter Tryz.func23, Tryz.ntmps23
    go_wp2_with fail
    refine (H0.out _ _ (rdI1 (by go_size) (by go_simp))).mono ?_
    rintro e w1 ⟨rfl, hb1⟩
    have b1 := kept_trans (a := w) (by go_grown) hb1
    go_wp2
    go_ret
    exact ⟨rfl, b1⟩
  cases p1
  case false =>
    have H0 := Lib.hid H0
    have H1 := Lib.hid H1
    go_enter Tryz.func23, Tryz.ntmps23
    go_wp2_with fail
    refine (H0.out _ _ (rdI1 (by go_size) (by go_simp))).mono ?_
    rintro e w1 ⟨rfl, hb1⟩
    refine kept_at hb1 w.heap.size (by go_size) fun c1_0 z1_0 s1_0 => ?_
    have b1 := kept_trans (a := w) (by go_grown) hb1
    go_wp2_with fail
    refine (H1.out _ _ (rdI1 (by go_size) (by go_simp))).mono ?_
    rintro e w2 ⟨rfl, hb2⟩
    have b2 := kept_trans (a := w) (by go_grown) hb2
    go_wp2
    go_ret
    exact ⟨rfl, b2⟩
  by_cases hc : 1 < g ∨ p = 0
  case neg =>
    have d0 : decide (1 < g) = false := by simp; omega
    have d1 : (p == 0) = false := by simp; omega
    have d2 : (decide (1 < g) || decide (p = 0)) = false := by simp; omega
    have d3 : ¬ 1 < g := by omega
    have d4 : ¬ p = 0 := by omega
    rw [d2]
    clear hc d2
    have H0 := Lib.hid H0
    have H1 := Lib.hid H1
    go_enter Tryz.func23, Tryz.ntmps23
    go_wp2_with fail
    refine (H0.out _ _ (rdI1 (by go_size) (by go_simp))).mono ?_
    rintro e w1 ⟨rfl, hb1⟩
    refine kept_at hb1 w.heap.size (by go_size) fun c1_0 z1_0 s1_0 => ?_
    have b1 := kept_trans (a := w) (by go_grown) hb1
    go_wp2_with fail
    refine (H1.out _ _ (rdI1 (by go_size) (by go_simp))).mono ?_
    rintro e w2 ⟨rfl, hb2⟩
    refine kept_at hb2 w.heap.size (by go_size) fun c2_0 z2_0 s2_0 => ?_
    have b2 := kept_trans (a := w) (by go_grown) hb2
    go_wp2
    go_ret
    exact ⟨by simp, b2⟩
  have d2 : (decide (1 < g) || decide (p = 0)) = true := by simp; omega
  rw [d2]
  clear d2
  have hc2 : (1 < g) ∨ (¬ 1 < g ∧ p = 0) := by omega
  clear hc
  cases p2
  case false =>
    rcases hc2 with hg | ⟨hg, hp⟩
    all_goals
      (try subst hp)
      have H0 := Lib.hid H0
      have H1 := Lib.hid H1
      have H2 := Lib.hid H2
      go_enter Tryz.func23, Tryz.ntmps23
      go_wp2_with fail
      refine (H0.out _ _ (rdI1 (by go_size) (by go_simp))).mono ?_
      rintro e w1 ⟨rfl, hb1⟩
      refine kept_at hb1 w.heap.size (by go_size) fun c1_0 z1_0 s1_0 => ?_
      have b1 := kept_trans (a := w) (by go_grown) hb1
      go_wp2_with fail
      refine (H1.out _ _ (rdI1 (by go_size) (by go_simp))).mono ?_
      rintro e w2 ⟨rfl, hb2⟩
      refine kept_at hb2 w.heap.size (by go_size) fun c2_0 z2_0 s2_0 => ?_
      have b2 := kept_trans (a := w) (by go_grown) hb2
      go_wp2_with fail
      refine (H2.out _ _ (rdI1 (by go_size) (by go_simp))).mono ?_
      rintro e w3 ⟨rfl, hb3⟩
      have b3 := kept_trans (a := w) (by go_grown) hb3
      go_wp2
      go_ret
      exact ⟨by simp, b3⟩
  case true =>
    rcases hc2 with hg | ⟨hg, hp⟩
    all_goals
      (try subst hp)
      have H0 := Lib.hid H0
      have H1 := Lib.hid H1
      have H2 := Lib.hid H2
      have H3 := Lib.hid H3
      go_enter Tryz.func23, Tryz.ntmps23
      go_wp2_with fail
      refine (H0.out _ _ (rdI1 (by go_size) (by go_simp))).mono ?_
      rintro e w1 ⟨rfl, hb1⟩
      refine kept_at hb1 w.heap.size (by go_size) fun c1_0 z1_0 s1_0 => ?_
      have b1 := kept_trans (a := w) (by go_grown) hb1
      go_wp2_with fail
      refine (H1.out _ _ (rdI1 (by go_size) (by go_simp))).mono ?_
      rintro e w2 ⟨rfl, hb2⟩
      refine kept_at hb2 w.heap.size (by go_size) fun c2_0 z2_0 s2_0 => ?_
      have b2 := kept_trans (a := w) (by go_grown) hb2
      go_wp2_with fail
      refine (H2.out _ _ (rdI1 (by go_size) (by go_simp))).mono ?_
      rintro e w3 ⟨rfl, hb3⟩
      refine kept_at hb3 w.heap.size (by go_size) fun c3_0 z3_0 s3_0 => ?_
      have b3 := kept_trans (a := w) (by go_grown) hb3
      go_wp2_with fail
      refine (H3.out _ _ (rdI1 (by go_size) (by go_simp))).mono ?_
      rintro e w4 ⟨rfl, hb4⟩
      have b4 := kept_trans (a := w) (by go_grown) hb4
      go_wp2
      go_ret
      exact ⟨by simp, b4⟩

theorem slCode_any (g p r m : Int) (v : Value) (zs : List Int) (w : World) (hz : RdI w v zs) :
    Calls Tryz.prog 28 #[.agg #[.int .i64 g, .int .i64 p, .int .i64 r, .int .i64 m], v] w fun e w' => e = .returned (.int .i64 (codeL3 (slB g p r m) (zs.map fun n => inB n 0 50000))) ∧ Below w.heap.size w w' := by
  have HV := Lib.hid (fun u => implSlV_any g p r m u)
  have HW := fun u (q : RdI u v zs) => within_any 0 50000 v zs u q
  have eA : (zs.all fun n => inB n 0 50000) = (zs.map fun n => inB n 0 50000).all id := by simp [List.all_map]
  rw [eA] at HW
  obtain ⟨A, n, c, hv⟩ : ∃ A n c, v = .slice A n c := by obtain ⟨_, A, c, e, _⟩ := hz; exact ⟨_, _, _, e⟩
  unfold codeL3
  have H := Lib.hid hz; clear hz eA
  generalize (zs.map fun n => inB n 0 50000).all id = P at *
  have HW := Lib.hid HW
  generalize slB g p r m = B at *
  subst hv
  cases B
  case false =>
    go_enter Tryz.func28, Tryz.ntmps28
    go_wp2_with fail
    refine (HV.out _).mono ?_
    rintro e w1 ⟨rfl, hb1⟩
    have b1 := kept_trans (a := w) (by go_grown) hb1
    go_wp2
    go_ret
    exact ⟨rfl, b1⟩
  case true =>
    cases P
    all_goals
      go_enter Tryz.func28, Tryz.ntmps28
      go_wp2_with fail
      refine (HV.out _).mono ?_
      rintro e w1 ⟨rfl, hb1⟩
      have b1 := kept_trans (a := w) (by go_grown) hb1
      go_wp2_with fail
      refine (HW.out _ (RdI_kept H.out b1)).mono ?_
      rintro e w2 ⟨rfl, hb2⟩
      go_wp2
      go_ret
      exact ⟨rfl, kept_trans b1 hb2⟩

set_option maxHeartbeats 1000000 in
theorem doubleLen_any (g p r m : Int) (hp : 0 ≤ p ∧ p ≤ 400) (hr : 1 ≤ r ∧ r ≤ 400) (w : World) :
    Calls Tryz.prog 44 #[.agg #[.int .i64 g, .int .i64 p, .int .i64 r, .int .i64 m]] w fun e w' => e = .returned (.int .i64 (slD p r)) ∧ Below w.heap.size w w' := by
  have hb := slSq_bd p r hp hr
  have q1 := mul_bd p p 400 400 hp hp
  have q2 := mul_bd (4 * r) r 1600 400 (by omega) (by omega)
  have hini : slSq p r < (p + 2 * r + 1) * (p + 2 * r + 1) := by
    have e : (p + 2 * r + 1) * (p + 2 * r + 1) = slSq p r + 4 * (p * r) + 2 * p + 4 * r + 1 := by unfold slSq; grind
    have := Int.mul_nonneg hp.1 (show 0 ≤ r by omega)
    omega
  have HN := Lib.hid (fun x => newton_end (slSq p r) x)
  unfold slD
  have eS : slSq p r = p * p + 4 * r * r := rfl
  have w1 : IntKind.i64.wrap (p * p) = p * p := IntWalk.i64_in _ (by omega)
  have w2 : IntKind.i64.wrap (4 * r) = 4 * r := IntWalk.i64_in _ (by omega)
  have w3 : IntKind.i64.wrap (4 * r * r) = 4 * r * r := IntWalk.i64_in _ (by omega)
  have w4 : IntKind.i64.wrap (p * p + 4 * r * r) = slSq p r := by rw [eS]; exact IntWalk.i64_in _ (by omega)
  have v1 : wrap64 (p * p) = p * p := IntWalk.wrap64_in _ (by omega)
  have v2 : wrap64 (4 * r) = 4 * r := IntWalk.wrap64_in _ (by omega)
  have v3 : wrap64 (4 * r * r) = 4 * r * r := IntWalk.wrap64_in _ (by omega)
  have v4 : wrap64 (p * p + 4 * r * r) = slSq p r := by rw [eS]; exact IntWalk.wrap64_in _ (by omega)
  clear eS
  generalize slSq p r = S at *
  generalize rootL S = D at *
  go_enter Tryz.func44, Tryz.ntmps44
  go_wp2_with fail
  clear w1 w2 w3 w4 v1 v2 v3 v4
  go_loopw [4] (fun i wr => ∃ x : Int, 0 ≤ x ∧ x ≤ 1200 ∧ i = .int .i64 x ∧ S < (x + 1) * (x + 1) ∧ Below w.heap.size w wr) (fun i _ => (intOf i).toNat)
  case atStart => exact ⟨p + 2 * r, by omega, by omega, rfl, hini, by go_grown⟩
  case round =>
    obtain ⟨x, h0, h1, rfl, h2, hb⟩ := hrel
    have hx := sq_bd x 1200 (by omega) h1
    have y1 : IntKind.i64.wrap (x * x) = x * x := IntWalk.i64_in _ (by omega)
    have y2 : wrap64 (x * x) = x * x := IntWalk.wrap64_in _ (by omega)
    by_cases hlt : S < x * x
    · have hx0 : 0 < x := by
        rcases Int.lt_or_le 0 x with h | h
        · exact h
        · have : x = 0 := by omega
          subst this
          omega
      have hne : ¬ x = 0 := by omega
      have hne1 : ¬ x = -1 := by omega
      have hneb : (x == 0) = false := by simpa using hne
      have hd1 : S.tdiv x = S / x := Int.tdiv_eq_ediv_of_nonneg (by omega)
      have hst := newton_step S x (by omega) hx0
      have hdn := newton_down S x (by omega) hx0 hlt
      have hq0 : 0 ≤ S / x := Int.ediv_nonneg (by omega) (by omega)
      have hqx : S / x < x := Int.ediv_lt_of_lt_mul hx0 hlt
      have HD1 := Lib.hid hd1; clear hd1
      have hw5 : IntKind.i64.wrap (S.tdiv x) = S / x := by rw [HD1.out]; exact IntWalk.i64_in _ (by omega)
      have hw6 : wrap64 (S.tdiv x) = S / x := by rw [HD1.out]; exact IntWalk.wrap64_in _ (by omega)
      generalize S / x = q at *
      have hd2 : (x + q).tdiv 2 = (x + q) / 2 := Int.tdiv_eq_ediv_of_nonneg (by omega)
      have HST := Lib.hid hst; clear hst
      go_wp2
      go_roundw
      case rel => exact ⟨(x + q) / 2, by omega, by omega, by simp [*, HD1.out] <;> omega, HST.out, hb⟩
      case measure => simp [intOf] <;> omega
    · have hE := HN.out x h0 h2 (by omega)
      by_cases hlt2 : x * x < S
      · rw [if_pos hlt2] at hE
        subst hE
        have y3 : IntKind.i64.wrap (x + 1) = x + 1 := IntWalk.i64_in _ (by omega)
        have y4 : wrap64 (x + 1) = x + 1 := IntWalk.wrap64_in _ (by omega)
        clear h2
        go_wp2
        go_ret
        exact ⟨rfl, hb⟩
      · rw [if_neg hlt2] at hE
        subst hE
        clear h2
        go_wp2
        go_ret
        exact ⟨rfl, hb⟩

/-- What depends on whether a sling has one leg or several. -/
def shapeL (g p r m : Int) : Value := if g = 1 then .iface 87 (.agg #[]) else .iface 89 (.agg #[.int .i64 g, .int .i64 p, .int .i64 r, .int .i64 m])

theorem rigged_any (g p r m : Int) (w : World) :
    Calls Tryz.prog 29 #[.agg #[.int .i64 g, .int .i64 p, .int .i64 r, .int .i64 m]] w fun e w' => e = .returned (.agg #[.int .i64 g, .int .i64 p, .int .i64 r, .int .i64 m, shapeL g p r m]) ∧ Below w.heap.size w w' := by
  unfold shapeL
  by_cases h : g = 1
  · rw [if_pos h]
    subst h
    go_enter Tryz.func29, Tryz.ntmps29
    go_wp2
    (try simp only [Exit.inBlock, Exit.then])
    refine bodyPost_ret (v := .agg #[.int .i64 1, .int .i64 p, .int .i64 r, .int .i64 m, .iface 87 (.agg #[])]) ?_ rfl ⟨rfl, ?_⟩
    · rw [results_cell1 rfl]
      go_simp
    · go_grown
  · rw [if_neg h]
    have hb : (g == 1) = false := by simpa using h
    go_enter Tryz.func29, Tryz.ntmps29
    go_wp2
    (try simp only [Exit.inBlock, Exit.then])
    refine bodyPost_ret (v := .agg #[.int .i64 g, .int .i64 p, .int .i64 r, .int .i64 m, .iface 89 (.agg #[.int .i64 g, .int .i64 p, .int .i64 r, .int .i64 m])]) ?_ rfl ⟨rfl, ?_⟩
    · rw [results_cell1 rfl]
      go_simp
    · go_grown

theorem plumbB_any (w : World) : Calls Tryz.prog 122 #[.agg #[]] w fun e w' => e = .returned (.int .i64 1) ∧ Below w.heap.size w w' := by
  go_enter Tryz.func122, Tryz.ntmps122
  go_wp2
  go_ret
  exact ⟨rfl, by go_grown⟩

theorem plumbK_any (w : World) : Calls Tryz.prog 123 #[.agg #[]] w fun e w' => e = .returned (.int .i64 0) ∧ Below w.heap.size w w' := by
  go_enter Tryz.func123, Tryz.ntmps123
  go_wp2
  go_ret
  exact ⟨rfl, by go_grown⟩

theorem spreadB_any (g p r m : Int) (w : World) : Calls Tryz.prog 124 #[.agg #[.int .i64 g, .int .i64 p, .int .i64 r, .int .i64 m]] w fun e w' => e = .returned (.int .i64 (bearL g)) ∧ Below w.heap.size w w' := by
  unfold bearL
  by_cases h : 3 < g
  · rw [if_pos h]
    go_enter Tryz.func124, Tryz.ntmps124
    go_wp2
    all_goals
      go_ret
      exact ⟨by simp <;> omega, by go_grown⟩
  · rw [if_neg h]
    go_enter Tryz.func124, Tryz.ntmps124
    go_wp2
    all_goals
      go_ret
      exact ⟨by simp <;> omega, by go_grown⟩

theorem spreadK_any (g p r m : Int) (hp : 0 ≤ p ∧ p ≤ 400) (hr : 1 ≤ r ∧ r ≤ 400) (hg : ¬ g = 1) (w : World) : Calls Tryz.prog 125 #[.agg #[.int .i64 g, .int .i64 p, .int .i64 r, .int .i64 m]] w fun e w' => e = .returned (.int .i64 (slK g p r)) ∧ Below w.heap.size w w' := by
  have q1 := mul_bd p p 400 400 hp hp
  have q2 := mul_bd (12 * r) r 4800 400 (by omega) (by omega)
  have w1 : IntKind.i64.wrap (p * p) = p * p := IntWalk.i64_in _ (by omega)
  have w2 : IntKind.i64.wrap (12 * r) = 12 * r := IntWalk.i64_in _ (by omega)
  have w3 : IntKind.i64.wrap (12 * r * r) = 12 * r * r := IntWalk.i64_in _ (by omega)
  have w4 : IntKind.i64.wrap (2 * r) = 2 * r := IntWalk.i64_in _ (by omega)
  have v1 : wrap64 (p * p) = p * p := IntWalk.wrap64_in _ (by omega)
  have v2 : wrap64 (12 * r) = 12 * r := IntWalk.wrap64_in _ (by omega)
  have v3 : wrap64 (12 * r * r) = 12 * r * r := IntWalk.wrap64_in _ (by omega)
  have v4 : wrap64 (2 * r) = 2 * r := IntWalk.wrap64_in _ (by omega)
  unfold slK
  rw [if_neg hg]
  clear hg
  by_cases h2 : p ≤ 2 * r
  · have d2 : decide (p ≤ 2 * r) = true := by simpa using h2
    rw [if_pos h2]
    go_enter Tryz.func125, Tryz.ntmps125
    go_wp2
    go_ret
    exact ⟨rfl, by go_grown⟩
  have d2 : decide (p ≤ 2 * r) = false := by simpa using h2
  rw [if_neg h2]
  by_cases h3 : p * p ≤ 12 * r * r
  · have d3 : decide (p * p ≤ 12 * r * r) = true := by simpa using h3
    rw [if_pos h3]
    go_enter Tryz.func125, Tryz.ntmps125
    go_wp2
    go_ret
    exact ⟨rfl, by go_grown⟩
  · have d3 : decide (p * p ≤ 12 * r * r) = false := by simpa using h3
    rw [if_neg h3]
    go_enter Tryz.func125, Tryz.ntmps125
    go_wp2
    go_ret
    exact ⟨rfl, by go_grown⟩

set_option maxHeartbeats 4000000 in
theorem force_any (g p r m : Int) (k : Int) (w : World) (hv : slB g p r m = true) (hk : 0 ≤ k ∧ k ≤ 50000) :
    Calls Tryz.prog 40 #[.agg #[.int .i64 g, .int .i64 p, .int .i64 r, .int .i64 m, shapeL g p r m], .int .i64 k] w fun e w' => e = .returned (.agg #[.int .i64 (k * slD p r), .int .i64 (slE g r)]) ∧ Below w.heap.size w w' := by
  obtain ⟨hg, hp, hr, _⟩ := slB_bd hv
  clear hv
  have HD := Lib.hid (fun u => doubleLen_any g p r m hp hr u)
  have hD := slD_bd p r hp hr
  have hN := mul_bd k (slD p r) 50000 1200 hk (by omega)
  generalize slD p r = D at *
  have w1 : IntKind.i64.wrap (k * D) = k * D := IntWalk.i64_in _ (by omega)
  have v1 : wrap64 (k * D) = k * D := IntWalk.wrap64_in _ (by omega)
  unfold slE shapeL
  by_cases h1 : g = 1
  · rw [if_pos h1]
    subst h1
    rw [show 2 * bearL 1 * r = 2 * r from rfl]
    have kw2 : IntKind.i64.wrap (2 * r) = 2 * r := IntWalk.i64_in _ (by omega)
    have v2 : wrap64 (2 * r) = 2 * r := IntWalk.wrap64_in _ (by omega)
    go_enter Tryz.func40, Tryz.ntmps40
    go_wp2_with fail
    first
      | go_region_held3 (fun w' => w'.cell? ⟨w.heap.size, 0, none⟩ = some (.int .i64 1) ∧ w'.cell? ⟨w.heap.size, 1, none⟩ = some (.int .i64 p) ∧ w'.cell? ⟨w.heap.size, 2, none⟩ = some (.int .i64 r) ∧ w'.cell? ⟨w.heap.size, 3, none⟩ = some (.int .i64 m) ∧ w'.cell? ⟨w.heap.size, 4, none⟩ = some (.iface 87 (.agg #[])))
          (first | go_keep | (simp [*]; done)) (first
          | (go_at_call 44; refine (HD.out _).mono ?_; rintro e w1 ⟨rfl, hb1⟩; refine kept_at hb1 (w.heap.size) (by go_size) fun c1_0 z1_0 s1_0 => ?_; refine kept_at hb1 (w.heap.size + 1) (by go_size) fun c1_1 z1_1 s1_1 => ?_; have b1 := kept_trans (a := w) (by first | (go_grown; done) | (refine kept_drewN ?_ _; go_grown; done) | (go_grown; refine kept_drewN ?_ _; go_grown)) hb1)
          | (go_at_call 122; refine (plumbB_any _).mono ?_; rintro e w2 ⟨rfl, hb2⟩; refine kept_at hb2 (w.heap.size) (by go_size) fun c2_0 z2_0 s2_0 => ?_; refine kept_at hb2 (w.heap.size + 1) (by go_size) fun c2_1 z2_1 s2_1 => ?_; have b2 := kept_trans (a := w) (by first | (go_grown; done) | (refine kept_drewN ?_ _; go_grown; done) | (go_grown; refine kept_drewN ?_ _; go_grown)) hb2))
      | fail
    all_goals
      go_wp2
      (try simp only [Exit.inBlock, Exit.then])
      refine bodyPost_ret (v := .agg #[.int .i64 (k * D), .int .i64 (2 * r)]) ?_ rfl ⟨rfl, ?_⟩
      · rw [results_cell1 rfl]
        go_simp
        first | done | (rw [show IntKind.i64.wrap 2 = 2 from rfl]; exact kw2)
      · exact (by first | (go_grown; done) | (refine kept_drewN ?_ _; go_grown; done) | (go_grown; refine kept_drewN ?_ _; go_grown))
  · rw [if_neg h1]
    have hB := bearL_bd hg
    have HB := Lib.hid (fun u => spreadB_any g p r m u)
    generalize bearL g = Be at *
    have q2 := mul_bd (2 * Be) r 6 400 (by omega) (by omega)
    have w2 : IntKind.i64.wrap (2 * Be) = 2 * Be := IntWalk.i64_in _ (by omega)
    have v2 : wrap64 (2 * Be) = 2 * Be := IntWalk.wrap64_in _ (by omega)
    have w3 : IntKind.i64.wrap (2 * Be * r) = 2 * Be * r := IntWalk.i64_in _ (by omega)
    have v3 : wrap64 (2 * Be * r) = 2 * Be * r := IntWalk.wrap64_in _ (by omega)
    go_enter Tryz.func40, Tryz.ntmps40
    go_wp2_with fail
    first
      | go_region_held3 (fun w' => w'.cell? ⟨w.heap.size, 0, none⟩ = some (.int .i64 g) ∧ w'.cell? ⟨w.heap.size, 1, none⟩ = some (.int .i64 p) ∧ w'.cell? ⟨w.heap.size, 2, none⟩ = some (.int .i64 r) ∧ w'.cell? ⟨w.heap.size, 3, none⟩ = some (.int .i64 m) ∧ w'.cell? ⟨w.heap.size, 4, none⟩ = some (.iface 89 (.agg #[.int .i64 g, .int .i64 p, .int .i64 r, .int .i64 m])))
          (first | go_keep | (simp [*]; done)) (first
          | (go_at_call 44; refine (HD.out _).mono ?_; rintro e w1 ⟨rfl, hb1⟩; refine kept_at hb1 (w.heap.size) (by go_size) fun c1_0 z1_0 s1_0 => ?_; refine kept_at hb1 (w.heap.size + 1) (by go_size) fun c1_1 z1_1 s1_1 => ?_; have b1 := kept_trans (a := w) (by first | (go_grown; done) | (refine kept_drewN ?_ _; go_grown; done) | (go_grown; refine kept_drewN ?_ _; go_grown)) hb1)
          | (go_at_call 124; refine (HB.out _).mono ?_; rintro e w2 ⟨rfl, hb2⟩; refine kept_at hb2 (w.heap.size) (by go_size) fun c2_0 z2_0 s2_0 => ?_; refine kept_at hb2 (w.heap.size + 1) (by go_size) fun c2_1 z2_1 s2_1 => ?_; have b2 := kept_trans (a := w) (by first | (go_grown; done) | (refine kept_drewN ?_ _; go_grown; done) | (go_grown; refine kept_drewN ?_ _; go_grown)) hb2))
      | fail
    all_goals
      go_wp2
      (try simp only [Exit.inBlock, Exit.then])
      refine bodyPost_ret (v := .agg #[.int .i64 (k * D), .int .i64 (2 * Be * r)]) ?_ rfl ⟨rfl, ?_⟩
      · rw [results_cell1 rfl]
        go_simp
      · exact (by first | (go_grown; done) | (refine kept_drewN ?_ _; go_grown; done) | (go_grown; refine kept_drewN ?_ _; go_grown))

theorem forceUp_any (g p r m : Int) (k : Int) (w : World) (hv : slB g p r m = true) (hk : 0 ≤ k ∧ k ≤ 50000) :
    Calls Tryz.prog 42 #[.agg #[.int .i64 g, .int .i64 p, .int .i64 r, .int .i64 m, shapeL g p r m], .int .i64 k] w fun e w' => e = .returned (.int .i64 (slUp g p r k)) ∧ Below w.heap.size w w' := by
  have HF := Lib.hid (fun u => force_any g p r m k u hv hk)
  obtain ⟨hg, hp, hr, _⟩ := slB_bd hv
  have hD := slD_bd p r hp hr
  have hE := slE_bd g r hg hr
  have hN := mul_bd k (slD p r) 50000 1200 hk (by omega)
  have HU := Lib.hid (fun u => implUp_any (k * slD p r) (slE g r) (by omega) (by omega) u)
  unfold slUp
  clear hv
  generalize upL (k * slD p r) (slE g r) = U at *
  generalize k * slD p r = X at *
  generalize slE g r = Y at *
  have hs : ∃ t v, shapeL g p r m = .iface t v := by unfold shapeL; split <;> exact ⟨_, _, rfl⟩
  obtain ⟨t, v, hs⟩ := hs
  rw [hs] at HF ⊢
  clear hs
  go_enter Tryz.func42, Tryz.ntmps42
  go_wp2_with fail
  refine (HF.out _).mono ?_
  rintro e w1 ⟨rfl, hb1⟩
  have b1 := kept_trans (a := w) (by go_grown) hb1
  go_wp2_with fail
  refine (HU.out _).mono ?_
  rintro e w2 ⟨rfl, rfl⟩
  go_wp2
  go_ret
  exact ⟨rfl, kept_trans b1 (by go_grown)⟩

theorem holds_any (g p r m : Int) (k q : Int) (w : World) (hv : slB g p r m = true) (hk : 0 ≤ k ∧ k ≤ 50000) :
    Calls Tryz.prog 30 #[.agg #[.int .i64 g, .int .i64 p, .int .i64 r, .int .i64 m, shapeL g p r m], .int .i64 k, .int .i64 q] w fun e w' => e = .returned (.bool (slHolds g p r k q)) ∧ Below w.heap.size w w' := by
  have hU := fun u => forceUp_any g p r m k u hv hk
  obtain ⟨hg, hp, hr, _⟩ := slB_bd hv
  clear hv hk
  unfold slHolds
  unfold shapeL at *
  by_cases h1 : g = 1
  · rw [if_pos h1] at hU ⊢
    have eK : slK g p r = 0 := by unfold slK; rw [if_pos h1]
    rw [eK]
    clear eK
    subst h1
    generalize slUp 1 p r k = U at *
    have HU := Lib.hid hU
    go_enter Tryz.func30, Tryz.ntmps30
    go_wp2_with fail
    refine (plumbK_any _).mono ?_
    rintro e w1 ⟨rfl, hb1⟩
    refine kept_at hb1 w.heap.size (by go_size) fun c1_0 z1_0 s1_0 => ?_
    have b1 := kept_trans (a := w) (by go_grown) hb1
    go_wp2_with fail
    refine (HU.out _).mono ?_
    rintro e w2 ⟨rfl, hb2⟩
    have b2 := kept_trans b1 hb2
    go_wp2
    go_ret
    exact ⟨by simp, b2⟩
  · rw [if_neg h1] at hU ⊢
    have HK := fun u => spreadK_any g p r m hp hr h1 u
    have hle := slK_le g p r
    generalize slK g p r = K at *
    generalize slUp g p r k = U at *
    have HK := Lib.hid HK
    have HU := Lib.hid hU
    by_cases hK : K = 3
    · subst hK
      go_enter Tryz.func30, Tryz.ntmps30
      go_wp2_with fail
      refine (HK.out _).mono ?_
      rintro e w1 ⟨rfl, hb1⟩
      have b1 := kept_trans (a := w) (by go_grown) hb1
      go_wp2
      go_ret
      exact ⟨by simp, b1⟩
    · have hKb : (K != 3) = true := by simpa using hK
      have hKc : (K == 3) = false := by simpa using hK
      have hlt : decide (K < 3) = true := by simp; omega
      rw [hlt]
      go_enter Tryz.func30, Tryz.ntmps30
      go_wp2_with fail
      refine (HK.out _).mono ?_
      rintro e w1 ⟨rfl, hb1⟩
      refine kept_at hb1 w.heap.size (by go_size) fun c1_0 z1_0 s1_0 => ?_
      have b1 := kept_trans (a := w) (by go_grown) hb1
      go_wp2_with fail
      refine (HU.out _).mono ?_
      rintro e w2 ⟨rfl, hb2⟩
      have b2 := kept_trans b1 hb2
      go_wp2
      go_ret
      exact ⟨by simp, b2⟩

theorem rdI0 (w : World) : RdI w (.slice none 0 0) [] := ⟨by simp, none, 0, rfl, fun k hk => by simp at hk⟩

theorem implLL_any (g p r m : Int) (w : World) :
    Calls Tryz.prog 15 #[.agg #[.int .i64 g, .int .i64 p, .int .i64 r, .int .i64 m]] w fun e w' => e = .returned (.tuple #[.int .i64 (llL g p r m).1, .int .i64 (llL g p r m).2]) ∧ Below w.heap.size w w' := by
  have HC := fun u v (x : RdI u v []) => slCode_any g p r m v [] u x
  rw [show (([] : List Int).map fun n => inB n 0 50000) = [] from rfl] at HC
  unfold llL
  cases hv : slB g p r m
  · rw [hv, show codeL3 false [] = 1 from rfl] at HC
    have HC := Lib.hid (fun u v x => HC u v x)
    go_enter Tryz.func15, Tryz.ntmps15
    go_wp2_with fail
    refine (HC.out _ _ (rdI0 _)).mono ?_
    rintro e w1 ⟨rfl, hb1⟩
    have b1 := kept_trans (a := w) (by go_grown) hb1
    go_wp2
    go_ret2
    exact ⟨rfl, b1⟩
  · rw [hv, show codeL3 true [] = 0 from rfl] at HC
    have HC := Lib.hid (fun u v x => HC u v x)
    obtain ⟨hg, hp, hr, _⟩ := slB_bd hv
    have HD := fun u => doubleLen_any g p r m hp hr u
    have hD := slD_bd p r hp hr
    generalize slD p r = D at *
    have HD := Lib.hid HD
    have HU := fun u => implUp_any D 2 (by omega) (by omega) u
    rw [show upL D 2 = (D + 1) / 2 by unfold upL; congr 1; omega] at HU
    have HU := Lib.hid HU
    generalize (D + 1) / 2 = E at *
    go_enter Tryz.func15, Tryz.ntmps15
    go_wp2_with fail
    refine (HC.out _ _ (rdI0 _)).mono ?_
    rintro e w1 ⟨rfl, hb1⟩
    refine kept_at hb1 w.heap.size (by go_size) fun c1_0 z1_0 s1_0 => ?_
    have b1 := kept_trans (a := w) (by go_grown) hb1
    go_wp2_with fail
    refine (HD.out _).mono ?_
    rintro e w2 ⟨rfl, hb2⟩
    have b2 := kept_trans b1 hb2
    go_wp2_with fail
    refine (HU.out _).mono ?_
    rintro e w3 ⟨rfl, rfl⟩
    go_wp2
    go_ret2
    exact ⟨rfl, b2⟩

theorem implLF_any (g p r m : Int) (k : Int) (w : World) :
    Calls Tryz.prog 13 #[.agg #[.int .i64 g, .int .i64 p, .int .i64 r, .int .i64 m], .int .i64 k] w fun e w' => e = .returned (.tuple #[.agg #[.int .i64 (lfL g p r m k).1.1, .int .i64 (lfL g p r m k).1.2], .int .i64 (lfL g p r m k).2]) ∧ Below w.heap.size w w' := by
  have HC := fun u v (x : RdI u v [k]) => slCode_any g p r m v [k] u x
  rw [show ([k].map fun n => inB n 0 50000) = [inB k 0 50000] from rfl] at HC
  unfold lfL
  by_cases hK : codeL3 (slB g p r m) [inB k 0 50000] = 0
  · rw [hK] at HC
    rw [if_pos hK]
    obtain ⟨hv, hbs⟩ := codeL3_ok hK
    have hk := inB_true (hbs _ (List.mem_singleton.2 rfl))
    have HC := Lib.hid (fun u v x => HC u v x)
    have HR := Lib.hid (fun u => rigged_any g p r m u)
    have HF := Lib.hid (fun u => force_any g p r m k u hv hk)
    obtain ⟨hg, hp, hr, _⟩ := slB_bd hv
    have hD := slD_bd p r hp hr
    have hE := slE_bd g r hg hr
    have hN := mul_bd k (slD p r) 50000 1200 hk (by omega)
    have HL := Lib.hid (fun u => lowest_any (k * slD p r) (slE g r) (by omega) (by omega) u)
    clear hK hbs hv
    generalize lowL (k * slD p r) (slE g r) = Z at *
    generalize k * slD p r = X at *
    generalize slE g r = Y at *
    generalize shapeL g p r m = V at *
    obtain ⟨z0, z1⟩ := Z
    dsimp only at *
    go_enter Tryz.func13, Tryz.ntmps13
    go_wp2_with fail
    refine (HC.out _ _ (rdI1 (by go_size) (by go_simp))).mono ?_
    rintro e w1 ⟨rfl, hb1⟩
    refine kept_at hb1 w.heap.size (by go_size) fun c1_0 z1_0 s1_0 => ?_
    refine kept_at hb1 (w.heap.size + 1) (by go_size) fun c1_1 z1_1 s1_1 => ?_
    have b1 := kept_trans (a := w) (by go_grown) hb1
    go_wp2_with fail
    refine (HR.out _).mono ?_
    rintro e w2 ⟨rfl, hb2⟩
    refine kept_at hb2 w.heap.size (by go_size) fun c2_0 z2_0 s2_0 => ?_
    refine kept_at hb2 (w.heap.size + 1) (by go_size) fun c2_1 z2_1 s2_1 => ?_
    have b2 := kept_trans b1 hb2
    go_wp2_with fail
    refine (HF.out _).mono ?_
    rintro e w3 ⟨rfl, hb3⟩
    refine kept_at hb3 w.heap.size (by go_size) fun c3_0 z3_0 s3_0 => ?_
    refine kept_at hb3 (w.heap.size + 1) (by go_size) fun c3_1 z3_1 s3_1 => ?_
    have b3 := kept_trans b2 hb3
    go_wp2_with fail
    refine (HL.out _).mono ?_
    rintro e w4 ⟨rfl, hb4⟩
    refine kept_at hb4 (w.heap.size + 1) (by go_size) fun c4_1 z4_1 s4_1 => ?_
    have b4 := kept_trans b3 hb4
    go_wp2
    (try simp only [Exit.inBlock, Exit.then])
    refine bodyPost_ret (v := .tuple #[.agg #[.int .i64 z0, .int .i64 z1], .int .i64 0]) ?_ rfl ⟨rfl, ?_⟩
    · rw [results_cell_tmp rfl]
      go_simp
    · go_grown
  · rw [if_neg hK]
    have hK1 : (codeL3 (slB g p r m) [inB k 0 50000] == 0) = false := by simpa using hK
    have hK2 : (codeL3 (slB g p r m) [inB k 0 50000] != 0) = true := by simpa using hK
    generalize codeL3 (slB g p r m) [inB k 0 50000] = K at *
    have HC := Lib.hid (fun u v x => HC u v x)
    go_enter Tryz.func13, Tryz.ntmps13
    go_wp2_with fail
    refine (HC.out _ _ (rdI1 (by go_size) (by go_simp))).mono ?_
    rintro e w1 ⟨rfl, hb1⟩
    refine kept_at hb1 (w.heap.size + 1) (by go_size) fun c1_1 z1_1 s1_1 => ?_
    have b1 := kept_trans (a := w) (by go_grown) hb1
    go_wp2
    (try simp only [Exit.inBlock, Exit.then])
    refine bodyPost_ret (v := .tuple #[.agg #[.int .i64 0, .int .i64 0], .int .i64 K]) ?_ rfl ⟨rfl, ?_⟩
    · rw [results_cell_tmp rfl]
      go_simp
    · go_grown

theorem implFU_any (g p r m : Int) (k : Int) (w : World) :
    Calls Tryz.prog 14 #[.agg #[.int .i64 g, .int .i64 p, .int .i64 r, .int .i64 m], .int .i64 k] w fun e w' => e = .returned (.tuple #[.int .i64 (fuL g p r m k).1, .int .i64 (fuL g p r m k).2]) ∧ Below w.heap.size w w' := by
  have HC := fun u v (x : RdI u v [k]) => slCode_any g p r m v [k] u x
  rw [show ([k].map fun n => inB n 0 50000) = [inB k 0 50000] from rfl] at HC
  unfold fuL
  by_cases hK : codeL3 (slB g p r m) [inB k 0 50000] = 0
  · rw [hK] at HC
    rw [if_pos hK]
    obtain ⟨hv, hbs⟩ := codeL3_ok hK
    have hk := inB_true (hbs _ (List.mem_singleton.2 rfl))
    have HC := Lib.hid (fun u v x => HC u v x)
    have HR := Lib.hid (fun u => rigged_any g p r m u)
    have HF := Lib.hid (fun u => forceUp_any g p r m k u hv hk)
    clear hK hbs hv
    generalize slUp g p r k = U at *
    generalize shapeL g p r m = V at *
    go_enter Tryz.func14, Tryz.ntmps14
    go_wp2_with fail
    refine (HC.out _ _ (rdI1 (by go_size) (by go_simp))).mono ?_
    rintro e w1 ⟨rfl, hb1⟩
    refine kept_at hb1 w.heap.size (by go_size) fun c1_0 z1_0 s1_0 => ?_
    have b1 := kept_trans (a := w) (by go_grown) hb1
    go_wp2_with fail
    refine (HR.out _).mono ?_
    rintro e w2 ⟨rfl, hb2⟩
    have b2 := kept_trans b1 hb2
    go_wp2_with fail
    refine (HF.out _).mono ?_
    rintro e w3 ⟨rfl, hb3⟩
    have b3 := kept_trans b2 hb3
    go_wp2
    go_ret2
    exact ⟨rfl, b3⟩
  · rw [if_neg hK]
    have hK1 : (codeL3 (slB g p r m) [inB k 0 50000] == 0) = false := by simpa using hK
    have hK2 : (codeL3 (slB g p r m) [inB k 0 50000] != 0) = true := by simpa using hK
    generalize codeL3 (slB g p r m) [inB k 0 50000] = K at *
    have HC := Lib.hid (fun u v x => HC u v x)
    go_enter Tryz.func14, Tryz.ntmps14
    go_wp2_with fail
    refine (HC.out _ _ (rdI1 (by go_size) (by go_simp))).mono ?_
    rintro e w1 ⟨rfl, hb1⟩
    have b1 := kept_trans (a := w) (by go_grown) hb1
    go_wp2
    go_ret2
    exact ⟨rfl, b1⟩

theorem rig_field (g p r m : Int) (t : TypeId) (v : Value) (w : World) : (Instr.field 52 (.agg #[.int .i64 g, .int .i64 p, .int .i64 r, .int .i64 m, .iface t v]) 1).run Tryz.prog w = .ok (.iface t v) w := by kernel_rfl

set_option maxRecDepth 100000 in
theorem implAC_any (g p r m : Int) (w : World) :
    Calls Tryz.prog 16 #[.agg #[.int .i64 g, .int .i64 p, .int .i64 r, .int .i64 m]] w fun e w' => e = .returned (.tuple #[.int .i64 (acL g p r m).1, .int .i64 (acL g p r m).2]) ∧ Below w.heap.size w w' := by
  have HC := fun u v (x : RdI u v []) => slCode_any g p r m v [] u x
  rw [show (([] : List Int).map fun n => inB n 0 50000) = [] from rfl] at HC
  have HR := fun u => rigged_any g p r m u
  unfold acL
  cases hv : slB g p r m
  · rw [hv, show codeL3 false [] = 1 from rfl] at HC
    have HC := Lib.hid (fun u v x => HC u v x)
    go_enter Tryz.func16, Tryz.ntmps16
    go_wp2_with fail
    refine (HC.out _ _ (rdI0 _)).mono ?_
    rintro e w1 ⟨rfl, hb1⟩
    have b1 := kept_trans (a := w) (by go_grown) hb1
    go_wp2
    go_ret2
    exact ⟨rfl, b1⟩
  · rw [hv, show codeL3 true [] = 0 from rfl] at HC
    have HC := Lib.hid (fun u v x => HC u v x)
    obtain ⟨hg, hp, hr, _⟩ := slB_bd hv
    unfold shapeL at HR
    by_cases h1 : g = 1
    · rw [if_pos h1] at HR
      subst h1
      have HR := Lib.hid HR
      have hfl := rig_field 1 p r m 87 (.agg #[])
      go_enter Tryz.func16, Tryz.ntmps16
      go_wp2_with fail
      refine (HC.out _ _ (rdI0 _)).mono ?_
      rintro e w1 ⟨rfl, hb1⟩
      refine kept_at hb1 w.heap.size (by go_size) fun c1_0 z1_0 s1_0 => ?_
      have b1 := kept_trans (a := w) (by go_grown) hb1
      go_wp2_with fail
      refine (HR.out _).mono ?_
      rintro e w2 ⟨rfl, hb2⟩
      have b2 := kept_trans b1 hb2
      go_wp2_with fail
      refine (plumbK_any _).mono ?_
      rintro e w3 ⟨rfl, hb3⟩
      have b3 := kept_trans b2 hb3
      go_wp2
      go_ret2
      exact ⟨by simp [slK], b3⟩
    · rw [if_neg h1] at HR
      have HR := Lib.hid HR
      have HK := fun u => spreadK_any g p r m hp hr h1 u
      generalize slK g p r = K at *
      have HK := Lib.hid HK
      have hfl := rig_field g p r m 89 (.agg #[.int .i64 g, .int .i64 p, .int .i64 r, .int .i64 m])
      go_enter Tryz.func16, Tryz.ntmps16
      go_wp2_with fail
      refine (HC.out _ _ (rdI0 _)).mono ?_
      rintro e w1 ⟨rfl, hb1⟩
      refine kept_at hb1 w.heap.size (by go_size) fun c1_0 z1_0 s1_0 => ?_
      have b1 := kept_trans (a := w) (by go_grown) hb1
      go_wp2_with fail
      refine (HR.out _).mono ?_
      rintro e w2 ⟨rfl, hb2⟩
      have b2 := kept_trans b1 hb2
      go_wp2_with fail
      refine (HK.out _).mono ?_
      rintro e w3 ⟨rfl, hb3⟩
      have b3 := kept_trans b2 hb3
      go_wp2
      go_ret2
      exact ⟨rfl, b3⟩

set_option maxHeartbeats 1000000 in
theorem implLR_any (g p r m : Int) (k q : Int) (w : World) :
    Calls Tryz.prog 6 #[.agg #[.int .i64 g, .int .i64 p, .int .i64 r, .int .i64 m], .int .i64 k, .int .i64 q] w fun e w' => e = .returned (.tuple #[.int .i64 (lrAll g p r m k q).1, .int .i64 (lrAll g p r m k q).2]) ∧ Below w.heap.size w w' := by
  have HC := fun u v (x : RdI u v [k, q]) => slCode_any g p r m v [k, q] u x
  rw [show ([k, q].map fun n => inB n 0 50000) = [inB k 0 50000, inB q 0 50000] from rfl] at HC
  have HX := Lib.hid (SlBox_new g p r m w)
  unfold lrAll
  by_cases hK : codeL3 (slB g p r m) [inB k 0 50000, inB q 0 50000] = 0
  · rw [hK] at HC
    rw [if_pos hK]
    obtain ⟨hv, hbs⟩ := codeL3_ok hK
    have hkb := inB_true (hbs (inB k 0 50000) (by simp))
    have HC := Lib.hid (fun u v x => HC u v x)
    have HR := Lib.hid (fun n u => rigged_any g p n m u)
    have HH := fun n (hn : 1 ≤ n ∧ n ≤ 400) u => holds_any g p n m k q u (rise_ok hv hn) hkb
    have hst := lrL_step g p k q
    have hz0 : lrL g p k q 0 = (0, 3) := rfl
    have hfn : ∃ F : Int → Bool, ∀ n, slHolds g p n k q = F n := ⟨_, fun _ => rfl⟩
    obtain ⟨F, hF⟩ := hfn
    simp only [hF] at HH hst
    generalize lrL g p k q = G at *
    have HST := Lib.hid hst; clear hst
    have HZ0 := Lib.hid hz0; clear hz0
    have HH := Lib.hid HH
    clear hF hv hkb hK hbs
    go_enter Tryz.func6, Tryz.ntmps6
    go_wp2_with fail
    refine (HC.out _ _ (rdI2 (by go_size) (by go_simp) (by go_simp))).mono ?_
    rintro e w1 ⟨rfl, hb1⟩
    refine kept_at hb1 w.heap.size (by go_size) fun c1_0 z1_0 s1_0 => ?_
    have X1 := Lib.hid (SlBox_kept (SlBox_kept HX.out (by go_grown)) hb1)
    have b1 := kept_trans (a := w) (by go_grown) hb1
    have hX2 := (SlBox_put X1.out 1).2.2.1
    have hb2 : Below w.heap.size w (w1.setCell ⟨w.heap.size, 2, none⟩ (.int .i64 1)) := b1.setCell (Nat.le_refl _) _
    go_wp2_with fail
    clear c1_0 z1_0 X1
    generalize w1.setCell ⟨w.heap.size, 2, none⟩ (.int .i64 1) = u1 at *
    go_loopw [] (fun wr => ∃ n : Nat, n ≤ 400 ∧ G 400 = G n ∧ SlBox wr w.heap.size g p (401 - (n : Int)) m ∧ Below w.heap.size w wr) (fun wr => 401 - (intOf ((wr.cell? ⟨w.heap.size, 2, none⟩).getD undef)).toNat)
    case atStart => exact ⟨400, by omega, rfl, hX2, hb2⟩
    case round =>
      obtain ⟨n, hn, hG, hx, hb⟩ := hrel
      have hlt : w.heap.size < wr.heap.size := SlBox_lt hx
      cases n with
      | zero =>
        obtain ⟨⟨a0, a1, a2, a3⟩, fz⟩ := SlBox_facts hx
        have HG := Lib.hid (hG.trans HZ0.out); clear hG
        go_wp2
        go_ret2
        exact ⟨by rw [HG.out]; rfl, hb⟩
      | succ n =>
        obtain ⟨y, hy⟩ : ∃ y : Int, y = 400 - n := ⟨_, rfl⟩
        have e1 : (401 : Int) - ((n + 1 : Nat) : Int) = y := by omega
        rw [e1] at hx
        have hs := HST.out n
        rw [← hy] at hs
        have hy1 : 1 ≤ y ∧ y ≤ 400 := by omega
        have HY := Lib.hid hy; clear hy e1
        have HG := Lib.hid hG; clear hG
        have HS := Lib.hid hs; clear hs
        have X2 := Lib.hid hx
        obtain ⟨⟨a0, a1, a2, a3⟩, fz⟩ := SlBox_facts hx
        clear hx fz
        go_wp2_with fail
        refine (HR.out y _).mono ?_
        rintro e w3 ⟨rfl, hb3⟩
        have b3 := kept_trans hb hb3
        go_wp2_with fail
        refine (HH.out y hy1 _).mono ?_
        rintro e w4 ⟨rfl, hb4⟩
        have b4 := kept_trans b3 hb4
        have X4 := SlBox_kept X2.out (kept_trans hb3 hb4)
        clear a0 a1 a2 a3
        obtain ⟨⟨a0, a1, a2, a3⟩, fz⟩ := SlBox_facts X4
        have a2' : wr.cell? ⟨w.heap.size, 2, none⟩ = some (.int .i64 y) := (SlBox_facts X2.out).1.2.2.1
        have hs := HS.out
        cases hf : F y
        · rw [hf] at hs
          simp only [Bool.false_eq_true, if_false] at hs
          have HS2 := Lib.hid hs; clear hs
          have kw : IntKind.i64.wrap (y + 1) = y + 1 := IntWalk.i64_in _ (by omega)
          have kw' : wrap64 (y + 1) = y + 1 := IntWalk.wrap64_in _ (by omega)
          have X5 := Lib.hid (SlBox_put X4 (y + 1)).2.2.1
          have X4' := Lib.hid X4; clear X4
          have fz2 := fz 2; clear fz
          go_wp2
          go_roundw
          case rel => exact ⟨n, by omega, by rw [HG.out, HS2.out], by (have := X5.out; have e := HY.out; rw [show (401 : Int) - n = y + 1 by omega]; exact this), b4.setCell (Nat.le_refl _) _⟩
          case measure => have a5 := (SlBox_facts X5.out).1.2.2.1; simp only [a2', a5, Option.getD_some, intOf]; omega
        · rw [hf] at hs
          simp only [if_true] at hs
          have HG2 := Lib.hid (HG.out.trans hs); clear hs
          have X4' := Lib.hid X4; clear X4
          go_wp2
          go_ret2
          exact ⟨by rw [HG2.out]; have := HY.out; simp, b4⟩
  · rw [if_neg hK]
    have hK1 : (codeL3 (slB g p r m) [inB k 0 50000, inB q 0 50000] == 0) = false := by simpa using hK
    have hK2 : (codeL3 (slB g p r m) [inB k 0 50000, inB q 0 50000] != 0) = true := by simpa using hK
    generalize codeL3 (slB g p r m) [inB k 0 50000, inB q 0 50000] = K at *
    have HC := Lib.hid (fun u v x => HC u v x)
    go_enter Tryz.func6, Tryz.ntmps6
    go_wp2_with fail
    refine (HC.out _ _ (rdI2 (by go_size) (by go_simp) (by go_simp))).mono ?_
    rintro e w1 ⟨rfl, hb1⟩
    have b1 := kept_trans (a := w) (by go_grown) hb1
    go_wp2
    go_ret2
    exact ⟨rfl, b1⟩

theorem catSl (a b c d : List UInt8) : ByteArray.mk a.toArray ++ ByteArray.mk #[120] ++ ByteArray.mk b.toArray ++ ByteArray.mk #[47] ++ ByteArray.mk c.toArray ++ ByteArray.mk #[32] ++ ByteArray.mk d.toArray = ByteArray.mk (a ++ 120 :: (b ++ 47 :: (c ++ 32 :: d))).toArray := by
  rw [show ByteArray.mk #[120] = ByteArray.mk ([120] : List UInt8).toArray from rfl, show ByteArray.mk #[47] = ByteArray.mk ([47] : List UInt8).toArray from rfl, show ByteArray.mk #[32] = ByteArray.mk ([32] : List UInt8).toArray from rfl, ByteArray.mk_append_mk, ByteArray.mk_append_mk, ByteArray.mk_append_mk, ByteArray.mk_append_mk, ByteArray.mk_append_mk, ByteArray.mk_append_mk]
  simp

theorem specTx_any (b o : Nat) (z : Sl) (w : World) (h : SlAt w b o z) (hv : okSl z = true) :
    Calls Tryz.prog 45 #[.pointer (some ⟨b, o, none⟩)] w fun e w' => e = .returned (.string ⟨(txSl z).toArray⟩) ∧ Below w.heap.size w w' := by
  obtain ⟨h1, h2, h3, h4⟩ := okSl_bd hv
  obtain ⟨g, p, r, m⟩ := z
  obtain ⟨hlt, c0, c1, c2, c3⟩ := h
  dsimp only at *
  have lg := Lib.itoa_length_le g (by omega) (by omega)
  have lp := Lib.itoa_length_le p (by omega) (by omega)
  have lr := Lib.itoa_length_le r (by omega) (by omega)
  have lm := Lib.itoa_length_le m (by omega) (by omega)
  have zg := cat_size (Lib.itoa g)
  have zp := cat_size (Lib.itoa p)
  have zr := cat_size (Lib.itoa r)
  have zm := cat_size (Lib.itoa m)
  have hcat := catSl (Lib.itoa g) (Lib.itoa p) (Lib.itoa r) (Lib.itoa m)
  rw [show Lib.itoa g ++ 120 :: (Lib.itoa p ++ 47 :: (Lib.itoa r ++ 32 :: Lib.itoa m)) = txSl ⟨g, p, r, m⟩ from rfl] at hcat
  generalize txSl ⟨g, p, r, m⟩ = T at *
  obtain ⟨xg, eg⟩ : ∃ x, ByteArray.mk (Lib.itoa g).toArray = x := ⟨_, rfl⟩
  obtain ⟨xp, ep⟩ : ∃ x, ByteArray.mk (Lib.itoa p).toArray = x := ⟨_, rfl⟩
  obtain ⟨xr, er⟩ : ∃ x, ByteArray.mk (Lib.itoa r).toArray = x := ⟨_, rfl⟩
  obtain ⟨xm, em⟩ : ∃ x, ByteArray.mk (Lib.itoa m).toArray = x := ⟨_, rfl⟩
  rw [eg, ep, er, em] at hcat
  rw [eg] at zg
  rw [ep] at zp
  rw [er] at zr
  rw [em] at zm
  have s1 : ¬ 9223372036854775807 < xg.size + 1 := by omega
  have s2 : ¬ 9223372036854775807 < xg.size + 1 + xp.size := by omega
  have s3 : ¬ 9223372036854775807 < xg.size + 1 + xp.size + 1 := by omega
  have s4 : ¬ 9223372036854775807 < xg.size + 1 + xp.size + 1 + xr.size := by omega
  have s5 : ¬ 9223372036854775807 < xg.size + 1 + xp.size + 1 + xr.size + 1 := by omega
  have s6 : ¬ 9223372036854775807 < xg.size + 1 + xp.size + 1 + xr.size + 1 + xm.size := by omega
  have f0 : ∀ x : BelowBy w, x.w.cell? ⟨b, o, none⟩ = some (.int .i64 g) := fun x => by rw [kept_cell x.h _ _ hlt]; exact c0
  have f1 : ∀ x : BelowBy w, x.w.cell? ⟨b, o + 1, none⟩ = some (.int .i64 p) := fun x => by rw [kept_cell x.h _ _ hlt]; exact c1
  have f2 : ∀ x : BelowBy w, x.w.cell? ⟨b, o + 2, none⟩ = some (.int .i64 r) := fun x => by rw [kept_cell x.h _ _ hlt]; exact c2
  have f3 : ∀ x : BelowBy w, x.w.cell? ⟨b, o + 3, none⟩ = some (.int .i64 m) := fun x => by rw [kept_cell x.h _ _ hlt]; exact c3
  clear lg lp lr lm zg zp zr zm hv
  have HC := Lib.hid hcat; clear hcat
  go_enter Tryz.func45, Tryz.ntmps45
  go_wp2_with fail
  refine wp_region_below (by kernel_rfl) (by kernel_rfl) ?_
  repeat (go_big_quiet_step ((go_at_call 66; exact below_call (fun _ => specDec_any _ (by omega) _))))
  refine wpQuiet_nil ?_
  intro wq hw'
  obtain ⟨⟨_, hbq⟩, hwq⟩ := hw'
  subst hwq
  (try dsimp only)
  go_wp2
  go_ret
  exact ⟨by first | (rw [← HC.out]; rfl) | (simp only [eg, ep, er, em]; rw [← HC.out]), hbq⟩

theorem specST_any (g p r m : Int) (w : World) :
    Calls Tryz.prog 18 #[.agg #[.int .i64 g, .int .i64 p, .int .i64 r, .int .i64 m]] w fun e w' => e = .returned (.string ⟨(slTxL g p r m).toArray⟩) ∧ Below w.heap.size w w' := by
  have HA := Lib.hid (SlAt_new g p r m w)
  have HO := fun u (x : SlAt u w.heap.size 0 ⟨g, p, r, m⟩) => specSlOk_any w.heap.size 0 ⟨g, p, r, m⟩ u x
  have hE : okSl ⟨g, p, r, m⟩ = slB g p r m := rfl
  rw [hE] at HO
  unfold slTxL
  cases hv : slB g p r m
  · rw [hv] at HO
    have HO := Lib.hid HO
    rw [if_neg (by simp)]
    go_enter Tryz.func18, Tryz.ntmps18
    go_wp2_with fail
    refine (HO.out _ HA.out).mono ?_
    rintro e w1 ⟨rfl, rfl⟩
    go_wp2
    go_ret
    exact ⟨rfl, by go_grown⟩
  · rw [hv] at HO
    have HO := Lib.hid HO
    rw [if_pos rfl]
    have HT := fun u (x : SlAt u w.heap.size 0 ⟨g, p, r, m⟩) => specTx_any w.heap.size 0 ⟨g, p, r, m⟩ u x (by rw [hE]; exact hv)
    rw [show txSl ⟨g, p, r, m⟩ = slText g p r m from rfl] at HT
    generalize slText g p r m = T at *
    have HT := Lib.hid HT
    go_enter Tryz.func18, Tryz.ntmps18
    go_wp2_with fail
    refine (HO.out _ HA.out).mono ?_
    rintro e w1 ⟨rfl, rfl⟩
    go_wp2_with fail
    refine (HT.out _ HA.out).mono ?_
    rintro e w2 ⟨rfl, hb2⟩
    have b2 := kept_trans (a := w) (by go_grown) hb2
    go_wp2
    go_ret
    exact ⟨rfl, b2⟩

theorem implST_any (g p r m : Int) (w : World) (ht : PowTab w) :
    Calls Tryz.prog 19 #[.agg #[.int .i64 g, .int .i64 p, .int .i64 r, .int .i64 m]] w fun e w' => e = .returned (.string ⟨(slTxL g p r m).toArray⟩) ∧ Below w.heap.size w w' := by
  have HO := fun u => implSlV_any g p r m u
  unfold slTxL
  cases hv : slB g p r m
  · rw [hv] at HO
    have HO := Lib.hid HO
    rw [if_neg (by simp)]
    clear ht
    go_enter Tryz.func19, Tryz.ntmps19
    go_wp2_with fail
    refine (HO.out _).mono ?_
    rintro e w1 ⟨rfl, hb1⟩
    have b1 := kept_trans (a := w) (by go_grown) hb1
    go_wp2
    go_ret
    exact ⟨rfl, b1⟩
  · rw [hv] at HO
    have HO := Lib.hid HO
    rw [if_pos rfl]
    have hbd := slB_bd hv
    have lg := Lib.itoa_length_le g (by omega) (by omega)
    have lp := Lib.itoa_length_le p (by omega) (by omega)
    have lr := Lib.itoa_length_le r (by omega) (by omega)
    have lm := Lib.itoa_length_le m (by omega) (by omega)
    have zg := cat_size (Lib.itoa g)
    have zp := cat_size (Lib.itoa p)
    have zr := cat_size (Lib.itoa r)
    have zm := cat_size (Lib.itoa m)
    have hcat := catSl (Lib.itoa g) (Lib.itoa p) (Lib.itoa r) (Lib.itoa m)
    rw [show Lib.itoa g ++ 120 :: (Lib.itoa p ++ 47 :: (Lib.itoa r ++ 32 :: Lib.itoa m)) = slText g p r m from rfl] at hcat
    generalize slText g p r m = T at *
    obtain ⟨xg, eg⟩ : ∃ x, ByteArray.mk (Lib.itoa g).toArray = x := ⟨_, rfl⟩
    obtain ⟨xp, ep⟩ : ∃ x, ByteArray.mk (Lib.itoa p).toArray = x := ⟨_, rfl⟩
    obtain ⟨xr, er⟩ : ∃ x, ByteArray.mk (Lib.itoa r).toArray = x := ⟨_, rfl⟩
    obtain ⟨xm, em⟩ : ∃ x, ByteArray.mk (Lib.itoa m).toArray = x := ⟨_, rfl⟩
    rw [eg, ep, er, em] at hcat
    rw [eg] at zg
    rw [ep] at zp
    rw [er] at zr
    rw [em] at zm
    have s1 : ¬ 9223372036854775807 < xg.size + 1 := by omega
    have s2 : ¬ 9223372036854775807 < xg.size + 1 + xp.size := by omega
    have s3 : ¬ 9223372036854775807 < xg.size + 1 + xp.size + 1 := by omega
    have s4 : ¬ 9223372036854775807 < xg.size + 1 + xp.size + 1 + xr.size := by omega
    have s5 : ¬ 9223372036854775807 < xg.size + 1 + xp.size + 1 + xr.size + 1 := by omega
    have s6 : ¬ 9223372036854775807 < xg.size + 1 + xp.size + 1 + xr.size + 1 + xm.size := by omega
    clear lg lp lr lm zg zp zr zm hv
    have HC := Lib.hid hcat; clear hcat
    have HT := Lib.hid ht; clear ht
    have HA := Lib.hid (SlBox_new g p r m w)
    go_enter Tryz.func19, Tryz.ntmps19
    go_wp2_with fail
    refine (HO.out _).mono ?_
    rintro e w1 ⟨rfl, hb1⟩
    have X1 := Lib.hid (SlBox_kept HA.out hb1)
    have b1 := kept_trans (a := w) (by go_grown) hb1
    have HT1 := Lib.hid (tab_kept HT.out b1)
    clear hb1
    go_wp2_with fail
    have f0 : ∀ x : BelowBy w1, x.w.cell? ⟨w.heap.size, 0, none⟩ = some (.int .i64 g) := fun x => (SlBox_facts (SlBox_kept X1.out x.h)).1.1
    have f1 : ∀ x : BelowBy w1, x.w.cell? ⟨w.heap.size, 1, none⟩ = some (.int .i64 p) := fun x => (SlBox_facts (SlBox_kept X1.out x.h)).1.2.1
    have f2 : ∀ x : BelowBy w1, x.w.cell? ⟨w.heap.size, 2, none⟩ = some (.int .i64 r) := fun x => (SlBox_facts (SlBox_kept X1.out x.h)).1.2.2.1
    have f3 : ∀ x : BelowBy w1, x.w.cell? ⟨w.heap.size, 3, none⟩ = some (.int .i64 m) := fun x => (SlBox_facts (SlBox_kept X1.out x.h)).1.2.2.2
    refine wp_region_below (by kernel_rfl) (by kernel_rfl) ?_
    repeat (go_big_quiet_step ((go_at_call 46; exact below_call (fun hbx => implDecimal_any _ (by omega) _ (tab_kept HT1.out hbx)))))
    refine wpQuiet_nil ?_
    intro wq hw'
    obtain ⟨⟨_, hbq⟩, hwq⟩ := hw'
    subst hwq
    (try dsimp only)
    go_wp2
    go_ret
    exact ⟨by first | (rw [← HC.out]; rfl) | (simp only [eg, ep, er, em]; rw [← HC.out]), kept_trans b1 hbq⟩

/-- The two numbers of a word with a separator. -/
noncomputable def pairL (c : UInt8) (d : ByteArray) : (Int × Int) × Bool :=
  match restW d c 0 0 with
  | [x, y] => (((readL x.data.toList).1, (readL y.data.toList).1), (readL x.data.toList).2 && (readL y.data.toList).2)
  | _ => ((0, 0), false)

theorem pairL_two {c : UInt8} {d x y : ByteArray} (h : restW d c 0 0 = [x, y]) : pairL c d = (((readL x.data.toList).1, (readL y.data.toList).1), (readL x.data.toList).2 && (readL y.data.toList).2) := by
  unfold pairL
  rw [h]

theorem pairL_no {c : UInt8} {d : ByteArray} (h : (restW d c 0 0).length ≠ 2) : pairL c d = ((0, 0), false) := by
  unfold pairL
  split
  · rename_i x y e
    rw [e] at h
    simp at h
  · rfl

theorem two_of {α : Type} {l : List α} (h : l.length = 2) : ∃ a b, l = [a, b] := by
  match l, h with
  | [a, b], _ => exact ⟨a, b, rfl⟩

theorem slNo1 {s : ByteArray} (h : (restW s 32 0 0).length ≠ 2) : readSl s.data.toList = (⟨0, 0, 0, 0⟩, false) := readSl_no fun ⟨z, h1, h2⟩ => by
  obtain ⟨a, d, e, _⟩ := slParts h1 h2
  rw [e] at h
  simp at h

theorem slNo2 {s a b : ByteArray} (h1 : restW s 32 0 0 = [a, b]) (h : (restW a 120 0 0).length ≠ 2) : readSl s.data.toList = (⟨0, 0, 0, 0⟩, false) := readSl_no fun ⟨z, g1, g2⟩ => by
  obtain ⟨a', d, e, e2, _⟩ := slParts g1 g2
  rw [h1] at e
  simp only [List.cons.injEq, and_true] at e
  rw [e.1, e2] at h
  simp at h

theorem slEnd {s a b c d : ByteArray} (h1 : restW s 32 0 0 = [a, b]) (h2 : restW a 120 0 0 = [c, d]) :
    readSl s.data.toList = if (readL c.data.toList).2 && (pairL 47 d).2 && (readL b.data.toList).2 && okSl ⟨(readL c.data.toList).1, (pairL 47 d).1.1, (pairL 47 d).1.2, (readL b.data.toList).1⟩ then (⟨(readL c.data.toList).1, (pairL 47 d).1.1, (pairL 47 d).1.2, (readL b.data.toList).1⟩, true) else (⟨0, 0, 0, 0⟩, false) := by
  split
  · rename_i h
    simp only [Bool.and_eq_true] at h
    obtain ⟨⟨⟨k1, k2⟩, k3⟩, k4⟩ := h
    by_cases hl : (restW d 47 0 0).length = 2
    · obtain ⟨x, y, e⟩ := two_of hl
      have hp := pairL_two e
      rw [hp] at k2 k4 ⊢
      simp only [Bool.and_eq_true] at k2
      rw [← slBack h1 h2 e k1 k2.1 k2.2 k3]
      exact readSl_yes k4
    · rw [pairL_no hl] at k2
      cases k2
  · rename_i h
    refine readSl_no fun ⟨z, g1, g2⟩ => h ?_
    obtain ⟨a', d', e1, e2, e3⟩ := slParts g1 g2
    rw [h1] at e1
    simp only [List.cons.injEq, and_true] at e1
    obtain ⟨ea, eb⟩ := e1
    subst ea
    rw [h2] at e2
    simp only [List.cons.injEq, and_true] at e2
    obtain ⟨ec, ed⟩ := e2
    subst ed
    obtain ⟨b1, b2, b3, b4⟩ := okSl_bd g1
    have r1 := (small_itoa b1).2.2.2
    have r2 := (small_itoa b2).2.2.2
    have r3 := (small_itoa b3).2.2.2
    have r4 := (small_itoa b4).2.2.2
    rw [pairL_two e3, ec, eb]
    simp only [r1, r2, r3, r4, Bool.and_self, Bool.true_and]
    exact g1

set_option maxRecDepth 100000 in
theorem specPair_any (c : UInt8) (s : ByteArray) (hs : s.size ≤ 1000000) (w : World) :
    Calls Tryz.prog 56 #[.string s, .int .u8 (c.toNat : Int)] w fun e w' => e = .returned (.tuple #[.int .i64 (pairL c s).1.1, .int .i64 (pairL c s).1.2, .bool (pairL c s).2]) ∧ Below w.heap.size w w' := by
  have hsz := restW_sz s c s.size 0 0 rfl
  have HS := Lib.hid (fun u => specSplit_any s c hs u)
  by_cases hl : (restW s c 0 0).length = 2
  · obtain ⟨x, y, e⟩ := two_of hl
    rw [pairL_two e]
    rw [e] at HS hsz
    have HX := fun u => specNum_any x (by have := hsz x (by simp); omega) u
    have HY := fun u => specNum_any y (by have := hsz y (by simp); omega) u
    clear hsz hl e hs
    generalize readL x.data.toList = RX at *
    generalize readL y.data.toList = RY at *
    obtain ⟨x0, x1⟩ := RX
    obtain ⟨y0, y1⟩ := RY
    dsimp only at *
    have HX := Lib.hid HX
    have HY := Lib.hid HY
    generalize (c.toNat : Int) = cc at *
    cases x1
    all_goals
      go_enter Tryz.func56, Tryz.ntmps56
      go_wp2_with fail
      refine (HS.out _).mono ?_
      rintro e w1 ⟨v, rfl, hrow, b1⟩
      have hrd : RdS w1 v [x, y] := RowF_rd hrow
      obtain ⟨A, cp, rfl, _, r⟩ := RdS_at hrd
      obtain ⟨b, off, rfl, hbl, c0⟩ := r 0 (by simp)
      obtain ⟨b', off', e', _, c1⟩ := r 1 (by simp)
      simp only [Option.some.injEq, Addr.mk.injEq, and_true] at e'
      obtain ⟨rfl, rfl⟩ := e'
      simp only [List.getElem_cons_zero, List.getElem_cons_succ, Nat.add_zero] at c0 c1
      clear hrow hrd r
      go_wp2_with fail
      refine (HX.out _).mono ?_
      rintro e w2 ⟨rfl, hb2⟩
      rw [← kept_cell hb2 b _ hbl] at c1
      have b2 := kept_trans b1 hb2
      go_wp2_with fail
      refine (HY.out _).mono ?_
      rintro e w3 ⟨rfl, hb3⟩
      have b3 := kept_trans b2 hb3
      go_wp2
      go_ret3
      exact ⟨by simp, b3⟩
  · rw [pairL_no hl]
    have hln := restW_len s c s.size 0 0 (by omega)
    have hl1 : (((restW s c 0 0).length : Int) != 2) = true := by rw [bne_iff_ne]; omega
    have hl2 : ¬ ((restW s c 0 0).length : Int) = 2 := by omega
    generalize restW s c 0 0 = L at *
    clear hl hsz hs
    generalize (c.toNat : Int) = cc at *
    go_enter Tryz.func56, Tryz.ntmps56
    go_wp2_with fail
    refine (HS.out _).mono ?_
    rintro e w1 ⟨v, rfl, hrow, b1⟩
    have hrd : RdS w1 v L := RowF_rd hrow
    obtain ⟨A, cp, rfl, _, r⟩ := RdS_at hrd
    clear hrow hrd r
    go_wp2
    go_ret3
    exact ⟨rfl, b1⟩

set_option maxRecDepth 100000 in
set_option maxHeartbeats 1000000 in
theorem specRS_any (s : ByteArray) (hs : s.size ≤ 1000000) (w : World) :
    Calls Tryz.prog 22 #[.string s] w fun e w' => e = .returned (.tuple #[.agg #[.int .i64 (readSl s.data.toList).1.g, .int .i64 (readSl s.data.toList).1.p, .int .i64 (readSl s.data.toList).1.r, .int .i64 (readSl s.data.toList).1.m], .bool (readSl s.data.toList).2]) ∧ Below w.heap.size w w' := by
  have HS := fun u => specSplit_any s 32 hs u
  rw [show (((32 : UInt8).toNat : Nat) : Int) = 32 from rfl] at HS
  have hsz := restW_sz s 32 s.size 0 0 rfl
  by_cases hl : (restW s 32 0 0).length = 2
  case neg =>
    rw [slNo1 hl]
    have hln := restW_len s 32 s.size 0 0 (by omega)
    have hl1 : (((restW s 32 0 0).length : Int) != 2) = true := by rw [bne_iff_ne]; omega
    have hl2 : ¬ ((restW s 32 0 0).length : Int) = 2 := by omega
    generalize restW s 32 0 0 = L at *
    have HS := Lib.hid HS
    clear hl hsz hs
    go_enter Tryz.func22, Tryz.ntmps22
    go_wp2_with fail
    refine (HS.out _).mono ?_
    rintro e w1 ⟨v, rfl, hrow, hb1⟩
    refine kept_at hb1 w.heap.size (by go_size) fun c1_0 z1_0 s1_0 => ?_
    have b1 := kept_trans (a := w) (by go_grown) hb1
    have hrd : RdS w1 v L := RowF_rd hrow
    obtain ⟨A, cp, rfl, _, r⟩ := RdS_at hrd
    clear hrow hrd r
    go_wp2
    (try simp only [Exit.inBlock, Exit.then])
    refine bodyPost_ret (v := .tuple #[.agg #[.int .i64 0, .int .i64 0, .int .i64 0, .int .i64 0], .bool false]) ?_ rfl ⟨rfl, ?_⟩
    · rw [results_cell_tmp rfl]
      go_simp
    · go_grown
  obtain ⟨a, bb, e⟩ := two_of hl
  rw [e] at HS hsz
  have hsa : a.size ≤ 1000000 := by have := hsz a (by simp); omega
  have hsb : bb.size ≤ 1000000 := by have := hsz bb (by simp); omega
  have HS := Lib.hid HS
  have HS2 := fun u => specSplit_any a 120 hsa u
  rw [show (((120 : UInt8).toNat : Nat) : Int) = 120 from rfl] at HS2
  have hsz2 := restW_sz a 120 a.size 0 0 rfl
  by_cases hl2 : (restW a 120 0 0).length = 2
  case neg =>
    rw [slNo2 e hl2]
    have hln := restW_len a 120 a.size 0 0 (by omega)
    have hl1 : (((restW a 120 0 0).length : Int) != 2) = true := by rw [bne_iff_ne]; omega
    have hl3 : ¬ ((restW a 120 0 0).length : Int) = 2 := by omega
    generalize restW a 120 0 0 = L at *
    have HS2 := Lib.hid HS2
    clear hl hsz hs hl2 hsz2 hsa hsb e
    go_enter Tryz.func22, Tryz.ntmps22
    go_wp2_with fail
    refine (HS.out _).mono ?_
    rintro e w1 ⟨v, rfl, hrow, hb1⟩
    refine kept_at hb1 w.heap.size (by go_size) fun c1_0 z1_0 s1_0 => ?_
    have b1 := kept_trans (a := w) (by go_grown) hb1
    have hrd : RdS w1 v [a, bb] := RowF_rd hrow
    obtain ⟨A, cp, rfl, _, r⟩ := RdS_at hrd
    obtain ⟨b, off, rfl, hbl, c0⟩ := r 0 (by simp)
    simp only [List.getElem_cons_zero, Nat.add_zero] at c0
    clear hrow hrd r
    go_wp2_with fail
    refine (HS2.out _).mono ?_
    rintro e w2 ⟨v2, rfl, hrow2, hb2⟩
    refine kept_at hb2 w.heap.size (by go_size) fun c2_0 z2_0 s2_0 => ?_
    have b2 := kept_trans b1 hb2
    have hrd2 : RdS w2 v2 L := RowF_rd hrow2
    obtain ⟨A2, cp2, rfl, _, r2⟩ := RdS_at hrd2
    clear hrow2 hrd2 r2
    go_wp2
    (try simp only [Exit.inBlock, Exit.then])
    refine bodyPost_ret (v := .tuple #[.agg #[.int .i64 0, .int .i64 0, .int .i64 0, .int .i64 0], .bool false]) ?_ rfl ⟨rfl, ?_⟩
    · rw [results_cell_tmp rfl]
      go_simp
    · go_grown
  obtain ⟨cc, dd, e2⟩ := two_of hl2
  rw [e2] at HS2 hsz2
  have hsc : cc.size ≤ 1000000 := by have := hsz2 cc (by simp); omega
  have hsd : dd.size ≤ 1000000 := by have := hsz2 dd (by simp); omega
  have HS2 := Lib.hid HS2
  rw [slEnd e e2]
  have HNC := fun u => specNum_any cc hsc u
  have HNB := fun u => specNum_any bb hsb u
  have HPD := fun u => specPair_any 47 dd hsd u
  rw [show (((47 : UInt8).toNat : Nat) : Int) = 47 from rfl] at HPD
  clear hl hsz hs hl2 hsz2 hsa hsb hsc hsd e e2
  generalize readL cc.data.toList = RC at *
  generalize readL bb.data.toList = RB at *
  generalize pairL 47 dd = PD at *
  obtain ⟨rc, kc⟩ := RC
  obtain ⟨rb, kb⟩ := RB
  obtain ⟨⟨px, py⟩, kp⟩ := PD
  dsimp only at *
  have HNC := Lib.hid HNC
  have HNB := Lib.hid HNB
  have HPD := Lib.hid HPD
  have HOK := fun u b (x : SlAt u b 0 ⟨rc, px, py, rb⟩) => specSlOk_any b 0 ⟨rc, px, py, rb⟩ u x
  obtain ⟨C, hC⟩ : ∃ C : Sl × Bool, C = (if kc && kp && kb && okSl ⟨rc, px, py, rb⟩ then (⟨rc, px, py, rb⟩, true) else (⟨0, 0, 0, 0⟩, false)) := ⟨_, rfl⟩
  rw [← hC]
  generalize okSl ⟨rc, px, py, rb⟩ = ok at *
  have HOK := Lib.hid HOK
  rcases three kc kp kb with rfl | ⟨rfl, rfl⟩ | ⟨rfl, rfl, rfl⟩ | ⟨rfl, rfl, rfl⟩
  case inr.inr.inr =>
    cases ok
    all_goals
      simp only [Bool.and_true, Bool.and_false, Bool.true_and, if_true, Bool.false_eq_true, if_false] at hC
      subst hC
      go_enter Tryz.func22, Tryz.ntmps22
      go_wp2_with fail
      refine (HS.out _).mono ?_
      rintro e w1 ⟨v, rfl, hrow, hb1⟩
      refine kept_at hb1 w.heap.size (by go_size) fun c1_0 z1_0 s1_0 => ?_
      have b1 := kept_trans (a := w) (by go_grown) hb1
      have hrd : RdS w1 v [a, bb] := RowF_rd hrow
      obtain ⟨A, cp, rfl, _, r⟩ := RdS_at hrd
      obtain ⟨b, off, rfl, hbl, c0⟩ := r 0 (by simp)
      obtain ⟨b', off', e', _, c1⟩ := r 1 (by simp)
      simp only [Option.some.injEq, Addr.mk.injEq, and_true] at e'
      obtain ⟨rfl, rfl⟩ := e'
      simp only [List.getElem_cons_zero, List.getElem_cons_succ, Nat.add_zero] at c0 c1
      clear hrow hrd r
      go_wp2_with fail
      refine (HS2.out _).mono ?_
      rintro e w2 ⟨v2, rfl, hrow2, hb2⟩
      refine kept_at hb2 w.heap.size (by go_size) fun c2_0 z2_0 s2_0 => ?_
      have b2 := kept_trans b1 hb2
      rw [← kept_cell hb2 b _ hbl] at c1
      have hbl2 := Nat.lt_of_lt_of_le hbl hb2.size
      have hrd2 : RdS w2 v2 [cc, dd] := RowF_rd hrow2
      obtain ⟨A2, cp2, rfl, _, r2⟩ := RdS_at hrd2
      obtain ⟨bq, offq, rfl, hblq, d0⟩ := r2 0 (by simp)
      obtain ⟨b', off', e', _, d1⟩ := r2 1 (by simp)
      simp only [Option.some.injEq, Addr.mk.injEq, and_true] at e'
      obtain ⟨rfl, rfl⟩ := e'
      simp only [List.getElem_cons_zero, List.getElem_cons_succ, Nat.add_zero] at d0 d1
      clear hrow2 hrd2 r2 c0
      go_wp2_with fail
      refine (HNC.out _).mono ?_
      rintro e w3 ⟨rfl, hb3⟩
      refine kept_at hb3 w.heap.size (by go_size) fun c3_0 z3_0 s3_0 => ?_
      have b3 := kept_trans b2 hb3
      rw [← kept_cell hb3 b _ hbl2] at c1
      have hbl3 := Nat.lt_of_lt_of_le hbl2 hb3.size
      rw [← kept_cell hb3 bq _ hblq] at d1
      clear d0
      go_wp2_with fail
      refine (HPD.out _).mono ?_
      rintro e w4 ⟨rfl, hb4⟩
      refine kept_at hb4 w.heap.size (by go_size) fun c4_0 z4_0 s4_0 => ?_
      have b4 := kept_trans b3 hb4
      rw [← kept_cell hb4 b _ hbl3] at c1
      clear d1
      go_wp2_with fail
      refine (HNB.out _).mono ?_
      rintro e w5 ⟨rfl, hb5⟩
      refine kept_at hb5 w.heap.size (by go_size) fun c5_0 z5_0 s5_0 => ?_
      have b5 := kept_trans b4 hb5
      clear c1
      go_wp2_with fail
      refine (HOK.out _ _ (SlAt_new rc px py rb w5)).mono ?_
      rintro e w6 ⟨rfl, rfl⟩
      go_wp2
      (try simp only [Exit.inBlock, Exit.then])
      first
        | (refine bodyPost_ret (v := .tuple #[.agg #[.int .i64 rc, .int .i64 px, .int .i64 py, .int .i64 rb], .bool true]) ?_ rfl ⟨rfl, ?_⟩
           · rw [results_cell_tmp rfl]
             go_simp
           · first | (go_grown; done) | (go_grown; exact b5.size))
        | (refine bodyPost_ret (v := .tuple #[.agg #[.int .i64 0, .int .i64 0, .int .i64 0, .int .i64 0], .bool false]) ?_ rfl ⟨rfl, ?_⟩
           · rw [results_cell_tmp rfl]
             go_simp
           · first | (go_grown; done) | (go_grown; exact b5.size))
  all_goals
    simp only [Bool.and_true, Bool.and_false, Bool.true_and, Bool.false_and, if_true, Bool.false_eq_true, if_false] at hC
    subst hC
    clear HOK
    go_enter Tryz.func22, Tryz.ntmps22
    go_wp2_with fail
    refine (HS.out _).mono ?_
    rintro e w1 ⟨v, rfl, hrow, hb1⟩
    refine kept_at hb1 w.heap.size (by go_size) fun c1_0 z1_0 s1_0 => ?_
    have b1 := kept_trans (a := w) (by go_grown) hb1
    have hrd : RdS w1 v [a, bb] := RowF_rd hrow
    obtain ⟨A, cp, rfl, _, r⟩ := RdS_at hrd
    obtain ⟨b, off, rfl, hbl, c0⟩ := r 0 (by simp)
    obtain ⟨b', off', e', _, c1⟩ := r 1 (by simp)
    simp only [Option.some.injEq, Addr.mk.injEq, and_true] at e'
    obtain ⟨rfl, rfl⟩ := e'
    simp only [List.getElem_cons_zero, List.getElem_cons_succ, Nat.add_zero] at c0 c1
    clear hrow hrd r
    go_wp2_with fail
    refine (HS2.out _).mono ?_
    rintro e w2 ⟨v2, rfl, hrow2, hb2⟩
    refine kept_at hb2 w.heap.size (by go_size) fun c2_0 z2_0 s2_0 => ?_
    have b2 := kept_trans b1 hb2
    rw [← kept_cell hb2 b _ hbl] at c1
    have hbl2 := Nat.lt_of_lt_of_le hbl hb2.size
    have hrd2 : RdS w2 v2 [cc, dd] := RowF_rd hrow2
    obtain ⟨A2, cp2, rfl, _, r2⟩ := RdS_at hrd2
    obtain ⟨bq, offq, rfl, hblq, d0⟩ := r2 0 (by simp)
    obtain ⟨b', off', e', _, d1⟩ := r2 1 (by simp)
    simp only [Option.some.injEq, Addr.mk.injEq, and_true] at e'
    obtain ⟨rfl, rfl⟩ := e'
    simp only [List.getElem_cons_zero, List.getElem_cons_succ, Nat.add_zero] at d0 d1
    clear hrow2 hrd2 r2 c0
    go_wp2_with fail
    refine (HNC.out _).mono ?_
    rintro e w3 ⟨rfl, hb3⟩
    refine kept_at hb3 w.heap.size (by go_size) fun c3_0 z3_0 s3_0 => ?_
    have b3 := kept_trans b2 hb3
    rw [← kept_cell hb3 b _ hbl2] at c1
    have hbl3 := Nat.lt_of_lt_of_le hbl2 hb3.size
    rw [← kept_cell hb3 bq _ hblq] at d1
    clear d0
    go_wp2_with fail
    refine (HPD.out _).mono ?_
    rintro e w4 ⟨rfl, hb4⟩
    refine kept_at hb4 w.heap.size (by go_size) fun c4_0 z4_0 s4_0 => ?_
    have b4 := kept_trans b3 hb4
    rw [← kept_cell hb4 b _ hbl3] at c1
    clear d1
    go_wp2_with fail
    refine (HNB.out _).mono ?_
    rintro e w5 ⟨rfl, hb5⟩
    refine kept_at hb5 w.heap.size (by go_size) fun c5_0 z5_0 s5_0 => ?_
    have b5 := kept_trans b4 hb5
    clear c1
    go_wp2
    (try simp only [Exit.inBlock, Exit.then])
    refine bodyPost_ret (v := .tuple #[.agg #[.int .i64 0, .int .i64 0, .int .i64 0, .int .i64 0], .bool false]) ?_ rfl ⟨rfl, ?_⟩
    · rw [results_cell_tmp rfl]
      go_simp
    · first | (go_grown; done) | (go_grown; exact b5.size)

theorem sepFn_any (x : Nat) (hx : x ≤ 1114111) (w : World) :
    Calls Tryz.prog 48 #[.int .i32 (x : Int)] w fun e w' => e = .returned (.bool (sepP x)) ∧ ∃ q, w' = w.drewN q := by
  unfold sepP
  by_cases h1 : x = 120
  · subst h1
    go_enter Tryz.func48, Tryz.ntmps48
    go_wp2
    go_ret
    exact ⟨rfl, 0, rfl⟩
  by_cases h2 : x = 47
  · subst h2
    go_enter Tryz.func48, Tryz.ntmps48
    go_wp2
    go_ret
    exact ⟨rfl, 0, rfl⟩
  have HB := fun u => isBlank_any x hx u
  have e1 : ¬ ((x : Int) = 120) := by omega
  have e2 : ((x : Int) == 120) = false := by simpa using e1
  have e3 : ¬ ((x : Int) = 47) := by omega
  have e4 : ((x : Int) == 47) = false := by simpa using e3
  rw [decide_eq_false h1, decide_eq_false h2, Bool.false_or, Bool.false_or, show decide (x = 32) = blankP x from rfl]
  generalize blankP x = B at *
  have HB := Lib.hid HB
  clear h1 h2
  go_enter Tryz.func48, Tryz.ntmps48
  go_wp2_with fail
  refine (HB.out _).mono ?_
  rintro e w1 ⟨rfl, n, rfl⟩
  go_wp2
  go_ret
  exact ⟨rfl, n, rfl⟩

theorem slFno {s : ByteArray} (h : (Lib.goFieldsP sepP s).length ≠ 4) : readSl s.data.toList = (⟨0, 0, 0, 0⟩, false) := readSl_no fun ⟨z, h1, h2⟩ => by
  rw [slFields h1 h2] at h
  simp at h

theorem slFend {s x0 x1 x2 x3 : ByteArray} (h : Lib.goFieldsP sepP s = [x0, x1, x2, x3]) :
    readSl s.data.toList = if slTxL (readL x0.data.toList).1 (readL x1.data.toList).1 (readL x2.data.toList).1 (readL x3.data.toList).1 = s.data.toList then (⟨(readL x0.data.toList).1, (readL x1.data.toList).1, (readL x2.data.toList).1, (readL x3.data.toList).1⟩, true) else (⟨0, 0, 0, 0⟩, false) := by
  split
  · rename_i e
    have hne : s.size ≠ 0 := fun hs => by
      rw [fields_none sepP s hs] at h
      cases h
    unfold slTxL at e
    by_cases hv : slB (readL x0.data.toList).1 (readL x1.data.toList).1 (readL x2.data.toList).1 (readL x3.data.toList).1 = true
    · rw [if_pos hv] at e
      rw [← e]
      exact readSl_yes (z := ⟨(readL x0.data.toList).1, (readL x1.data.toList).1, (readL x2.data.toList).1, (readL x3.data.toList).1⟩) hv
    · rw [if_neg hv] at e
      have hl : s.data.toList.length = s.size := Array.length_toList
      rw [← e] at hl
      simp at hl
      omega
  · rename_i e
    refine readSl_no fun ⟨z, g1, g2⟩ => e ?_
    rw [slFields g1 g2] at h
    simp only [List.cons.injEq, and_true] at h
    obtain ⟨e0, e1, e2, e3⟩ := h
    subst e0 e1 e2 e3
    obtain ⟨b1, b2, b3, b4⟩ := okSl_bd g1
    have r1 := (small_itoa b1).2.2.2
    have r2 := (small_itoa b2).2.2.2
    have r3 := (small_itoa b3).2.2.2
    have r4 := (small_itoa b4).2.2.2
    simp only [r1, r2, r3, r4]
    unfold slTxL
    rw [if_pos (show slB z.g z.p z.r z.m = true from g1)]
    exact g2

theorem four_of {α : Type} {l : List α} (h : l.length = 4) : ∃ a b c d, l = [a, b, c, d] := by
  match l, h with
  | [a, b, c, d], _ => exact ⟨a, b, c, d, rfl⟩

set_option maxRecDepth 100000 in
set_option maxHeartbeats 2000000 in
theorem implRS_any (s : ByteArray) (hs : s.size ≤ 1000000) (w : World) (ht : TextW w) :
    Calls Tryz.prog 20 #[.string s] w fun e w' => e = .returned (.tuple #[.agg #[.int .i64 (readSl s.data.toList).1.g, .int .i64 (readSl s.data.toList).1.p, .int .i64 (readSl s.data.toList).1.r, .int .i64 (readSl s.data.toList).1.m], .bool (readSl s.data.toList).2]) ∧ Below w.heap.size w w' := by
  have hF := fun u => Tryz.strings_FieldsFunc_runes 48 #[] (enters_of Tryz.func48 (by kernel_rfl) rfl) sepP s u (by omega) (fun W x hx _ => sepFn_any x hx W)
  have hsz := fields_sz sepP s
  by_cases hl : (Lib.goFieldsP sepP s).length = 4
  case neg =>
    rw [slFno hl]
    have hl1 : (((Lib.goFieldsP sepP s).length : Int) != 4) = true := by rw [bne_iff_ne]; omega
    have hl2 : ¬ ((Lib.goFieldsP sepP s).length : Int) = 4 := by omega
    generalize Lib.goFieldsP sepP s = ws at *
    have HF := Lib.hid hF; clear hF hl hsz hs
    go_enter Tryz.func20, Tryz.ntmps20
    go_wp2_with fail
    refine (HF.out _).mono ?_
    rintro e w1 ⟨A, rfl, hA, hown, hb1⟩
    refine kept_at hb1 w.heap.size (by go_size) fun c1_0 z1_0 s1_0 => ?_
    have b1 := kept_trans (a := w) (by go_grown) hb1
    clear hown hA
    go_wp2
    (try simp only [Exit.inBlock, Exit.then])
    refine bodyPost_ret (v := .tuple #[.agg #[.int .i64 0, .int .i64 0, .int .i64 0, .int .i64 0], .bool false]) ?_ rfl ⟨rfl, ?_⟩
    · rw [results_cell_tmp rfl]
      go_simp
    · first | (go_grown; done) | (go_grown; exact b1.size)
  obtain ⟨x0, x1, x2, x3, e⟩ := four_of hl
  rw [slFend e]
  rw [e] at hF hsz
  have R0 := fun u t => implReadDec_any x0 (by have := hsz x0 (by simp); omega) u t
  have R1 := fun u t => implReadDec_any x1 (by have := hsz x1 (by simp); omega) u t
  have R2 := fun u t => implReadDec_any x2 (by have := hsz x2 (by simp); omega) u t
  have R3 := fun u t => implReadDec_any x3 (by have := hsz x3 (by simp); omega) u t
  generalize readL x0.data.toList = N0 at *
  generalize readL x1.data.toList = N1 at *
  generalize readL x2.data.toList = N2 at *
  generalize readL x3.data.toList = N3 at *
  obtain ⟨n0, k0⟩ := N0
  obtain ⟨n1, k1⟩ := N1
  obtain ⟨n2, k2⟩ := N2
  obtain ⟨n3, k3⟩ := N3
  dsimp only at *
  have HST := fun u t => implST_any n0 n1 n2 n3 u t
  have hcmp : (slTxL n0 n1 n2 n3 = s.data.toList) ↔ ByteArray.mk (slTxL n0 n1 n2 n3).toArray = s := ⟨fun h => by rw [h, ← ba_of s], fun h => by rw [← h]⟩
  obtain ⟨C, hC⟩ : ∃ C : Sl × Bool, C = (if slTxL n0 n1 n2 n3 = s.data.toList then (⟨n0, n1, n2, n3⟩, true) else (⟨0, 0, 0, 0⟩, false)) := ⟨_, rfl⟩
  rw [← hC]
  simp only [hcmp] at hC
  generalize ByteArray.mk (slTxL n0 n1 n2 n3).toArray = T at *
  have HF := Lib.hid hF
  have R0 := Lib.hid R0
  have R1 := Lib.hid R1
  have R2 := Lib.hid R2
  have R3 := Lib.hid R3
  have HST := Lib.hid HST
  have HC := Lib.hid hC; clear hC
  have HT := Lib.hid ht; clear ht
  clear hl hsz hs e hF hcmp
  go_enter Tryz.func20, Tryz.ntmps20
  go_wp2_with fail
  refine (HF.out _).mono ?_
  rintro e w1 ⟨A, rfl, hA, hown, hb1⟩
  have hown2 : w1.ownsRow (w.alloc (.cells #[.int .i64 0, .int .i64 0, .int .i64 0, .int .i64 0] 25)).heap.size 9 1 (.slice (some ⟨A, 0, none⟩) 4 4) 4 (strV [x0, x1, x2, x3]) := hown
  have hrd : RdS w1 (.slice (some ⟨A, 0, none⟩) 4 4) [x0, x1, x2, x3] := RowF_rd (e := 9) (lo := (w.alloc (.cells #[.int .i64 0, .int .i64 0, .int .i64 0, .int .i64 0] 25)).heap.size) (hi := w1.heap.size) ⟨hown2, fun g hg => ⟨(hown2.lt g hg).1, (hown2.lt g hg).2⟩⟩
  obtain ⟨A', c', e', _, r⟩ := RdS_at hrd
  injection e' with e1 _ e2
  subst e1
  have q0 : A < w1.heap.size ∧ w1.cell? ⟨A, 0, none⟩ = some (.string x0) := by obtain ⟨b, off, e, hl, hc⟩ := r 0 (by simp); simp at e; obtain ⟨rfl, rfl⟩ := e; exact ⟨hl, by simpa using hc⟩
  have q1 : w1.cell? ⟨A, 1, none⟩ = some (.string x1) := by obtain ⟨b, off, e, hl, hc⟩ := r 1 (by simp); simp at e; obtain ⟨rfl, rfl⟩ := e; simpa using hc
  have q2 : w1.cell? ⟨A, 2, none⟩ = some (.string x2) := by obtain ⟨b, off, e, hl, hc⟩ := r 2 (by simp); simp at e; obtain ⟨rfl, rfl⟩ := e; simpa using hc
  have q3 : w1.cell? ⟨A, 3, none⟩ = some (.string x3) := by obtain ⟨b, off, e, hl, hc⟩ := r 3 (by simp); simp at e; obtain ⟨rfl, rfl⟩ := e; simpa using hc
  obtain ⟨hAl, q0⟩ := q0
  refine kept_at hb1 w.heap.size (by go_size) fun c1_0 z1_0 s1_0 => ?_
  have X1 := Lib.hid (SlBox_kept (SlBox_new 0 0 0 0 w) hb1)
  have b1 := kept_trans (a := w) (by go_grown) hb1
  have T1 := Lib.hid (TextW_kept HT.out b1)
  have hne : ¬ A = w1.heap.size := by omega
  clear hown hown2 hA hrd r e2 c1_0 z1_0 hb1
  have hbx0 := BxA_new 0 0 0 0 w1
  have hba0 : Below w1.heap.size w1 (w1.alloc (.cells #[.int .i64 0, .int .i64 0, .int .i64 0, .int .i64 0] 72)) := by go_grown
  go_wp2_with fail
  go_loopw [18] (fun i wr => ∃ j : Nat, j ≤ 4 ∧ i = .int .i64 j ∧ BxA wr w1.heap.size (if 0 < j then n0 else 0) (if 1 < j then n1 else 0) (if 2 < j then n2 else 0) (if 3 < j then n3 else 0) ∧ Below w1.heap.size w1 wr) (fun i _ => 4 - (intOf i).toNat)
  case atStart => exact ⟨0, by omega, rfl, by simpa using hbx0, hba0⟩
  case round =>
    obtain ⟨j, hj, rfl, hx, hb⟩ := hrel
    have hl1 : w1.heap.size < wr.heap.size := BxA_lt hx
    have hAr : A < wr.heap.size := Nat.lt_of_lt_of_le hAl hb.size
    rw [← kept_cell hb A _ hAl] at q0 q1 q2 q3
    have Tr := Lib.hid (TextW_kept T1.out hb)
    rcases (show j = 0 ∨ j = 1 ∨ j = 2 ∨ j = 3 ∨ j = 4 by omega) with rfl | rfl | rfl | rfl | rfl
    · simp (config := { decide := true }) only [if_true, if_false] at hx
      have X := Lib.hid hx
      clear hx
      go_wp2_with fail
      refine (R0.out _ Tr.out).mono ?_
      rintro e w3 ⟨rfl, hb3⟩
      have b3 := kept_trans hb hb3
      have hx3 := BxA_kept X.out hb3
      obtain ⟨⟨a0, a1, a2, a3⟩, fz⟩ := BxA_facts hx3
      have fzj := fz 0
      clear fz
      have X4 := Lib.hid (BxA_put hx3 n0).1
      clear hx3
      go_wp2
      go_roundw
      case rel => exact ⟨1, by omega, by go_num, by simpa using X4.out, b3.setCell (Nat.le_refl _) _⟩
      case measure => simp [intOf] <;> omega
    · simp (config := { decide := true }) only [if_true, if_false] at hx
      have X := Lib.hid hx
      clear hx
      go_wp2_with fail
      refine (R1.out _ Tr.out).mono ?_
      rintro e w3 ⟨rfl, hb3⟩
      have b3 := kept_trans hb hb3
      have hx3 := BxA_kept X.out hb3
      obtain ⟨⟨a0, a1, a2, a3⟩, fz⟩ := BxA_facts hx3
      have fzj := fz 1
      clear fz
      have X4 := Lib.hid (BxA_put hx3 n1).2.1
      clear hx3
      go_wp2
      go_roundw
      case rel => exact ⟨2, by omega, by go_num, by simpa using X4.out, b3.setCell (Nat.le_refl _) _⟩
      case measure => simp [intOf] <;> omega
    · simp (config := { decide := true }) only [if_true, if_false] at hx
      have X := Lib.hid hx
      clear hx
      go_wp2_with fail
      refine (R2.out _ Tr.out).mono ?_
      rintro e w3 ⟨rfl, hb3⟩
      have b3 := kept_trans hb hb3
      have hx3 := BxA_kept X.out hb3
      obtain ⟨⟨a0, a1, a2, a3⟩, fz⟩ := BxA_facts hx3
      have fzj := fz 2
      clear fz
      have X4 := Lib.hid (BxA_put hx3 n2).2.2.1
      clear hx3
      go_wp2
      go_roundw
      case rel => exact ⟨3, by omega, by go_num, by simpa using X4.out, b3.setCell (Nat.le_refl _) _⟩
      case measure => simp [intOf] <;> omega
    · simp (config := { decide := true }) only [if_true, if_false] at hx
      have X := Lib.hid hx
      clear hx
      go_wp2_with fail
      refine (R3.out _ Tr.out).mono ?_
      rintro e w3 ⟨rfl, hb3⟩
      have b3 := kept_trans hb hb3
      have hx3 := BxA_kept X.out hb3
      obtain ⟨⟨a0, a1, a2, a3⟩, fz⟩ := BxA_facts hx3
      have fzj := fz 3
      clear fz
      have X4 := Lib.hid (BxA_put hx3 n3).2.2.2
      clear hx3
      go_wp2
      go_roundw
      case rel => exact ⟨4, by omega, by go_num, by simpa using X4.out, b3.setCell (Nat.le_refl _) _⟩
      case measure => simp [intOf] <;> omega
    · simp (config := { decide := true }) only [if_true, if_false] at hx
      obtain ⟨⟨a0, a1, a2, a3⟩, fz⟩ := BxA_facts hx
      clear fz q0 q1 q2 q3
      have XR := Lib.hid (SlBox_kept X1.out hb)
      have br := kept_trans b1 hb
      have hbA : Below wr.heap.size wr (wr.alloc (.cells #[.int .i64 n0, .int .i64 n1, .int .i64 n2, .int .i64 n3] 25)) := by go_grown
      by_cases hcs : T = s
      · have hC := HC.out
        rw [if_pos hcs] at hC
        subst hC
        subst hcs
        go_wp2_with fail
        refine (HST.out _ (TextW_kept Tr.out hbA).1).mono ?_
        rintro e w5 ⟨rfl, hb5⟩
        refine kept_at hb5 wr.heap.size (by go_size) fun c5_0 z5_0 s5_0 => ?_
        obtain ⟨⟨d0, d1, d2, d3⟩, gz⟩ := SlBox_facts (SlBox_kept (SlBox_kept XR.out hbA) hb5)
        have b5 := kept_trans (kept_trans br hbA) hb5
        go_wp2
        (try simp only [Exit.inBlock, Exit.then])
        refine bodyPost_ret (v := .tuple #[.agg #[.int .i64 n0, .int .i64 n1, .int .i64 n2, .int .i64 n3], .bool true]) ?_ rfl ⟨rfl, ?_⟩
        · rw [results_cell_tmp rfl]
          go_simp
        · exact (((b5.setCell (Nat.le_refl _) _).setCell (Nat.le_refl _) _).setCell (Nat.le_refl _) _).setCell (Nat.le_refl _) _
      · have hC := HC.out
        rw [if_neg hcs] at hC
        subst hC
        have hsn := str_ne hcs
        go_wp2_with fail
        refine (HST.out _ (TextW_kept Tr.out hbA).1).mono ?_
        rintro e w5 ⟨rfl, hb5⟩
        refine kept_at hb5 wr.heap.size (by go_size) fun c5_0 z5_0 s5_0 => ?_
        obtain ⟨⟨d0, d1, d2, d3⟩, gz⟩ := SlBox_facts (SlBox_kept (SlBox_kept XR.out hbA) hb5)
        have b5 := kept_trans (kept_trans br hbA) hb5
        go_wp2
        (try simp only [Exit.inBlock, Exit.then])
        refine bodyPost_ret (v := .tuple #[.agg #[.int .i64 0, .int .i64 0, .int .i64 0, .int .i64 0], .bool false]) ?_ rfl ⟨rfl, ?_⟩
        · rw [results_cell_tmp rfl]
          go_simp
        · exact (((b5.setCell (Nat.le_refl _) _).setCell (Nat.le_refl _) _).setCell (Nat.le_refl _) _).setCell (Nat.le_refl _) _

theorem slHolds_parts {g p r w k : Int} (h : slHolds g p r w k = true) : slK g p r < 3 ∧ slUp g p r w ≤ k := by
  simpa [slHolds] using h

/-- With the least rise, the weight is held. -/
theorem lr_ok {g p r m k q : Int} (h : (lrAll g p r m k q).2 = 0) : (1 ≤ (lrAll g p r m k q).1 ∧ (lrAll g p r m k q).1 ≤ 400) ∧ fuL g p (lrAll g p r m k q).1 m k = (slUp g p (lrAll g p r m k q).1 k, 0) ∧ slUp g p (lrAll g p r m k q).1 k ≤ q ∧ acL g p (lrAll g p r m k q).1 m = (slK g p (lrAll g p r m k q).1, 0) ∧ slK g p (lrAll g p r m k q).1 < 3 := by
  unfold lrAll at h ⊢
  by_cases hK : codeL3 (slB g p r m) [inB k 0 50000, inB q 0 50000] = 0
  · obtain ⟨hv, hbs⟩ := codeL3_ok hK
    have hk : inB k 0 50000 = true := hbs _ (by simp)
    rw [if_pos hK] at h ⊢
    obtain ⟨hn, hh⟩ := lrL_ok g p k q 400 (Nat.le_refl _) h
    generalize (lrL g p k q 400).1 = n at *
    obtain ⟨h1, h2⟩ := slHolds_parts hh
    have hv' : slB g p n m = true := by
      simp only [slB, Bool.and_eq_true] at hv ⊢
      obtain ⟨⟨⟨⟨a, b⟩, c⟩, d⟩, e⟩ := hv
      exact ⟨⟨⟨⟨a, b⟩, by simp [inB]; omega⟩, d⟩, e⟩
    refine ⟨hn, ?_, h2, ?_, h1⟩
    · unfold fuL
      rw [if_pos (by rw [hv', hk]; rfl)]
    · unfold acL
      rw [if_pos hv']
  · rw [if_neg hK] at h
    exact absurd h hK

/-- A force rounded up is the least number that is not less than it. -/
theorem fr_ok {g p r m k : Int} (h : (lfL g p r m k).2 = 0) : fuL g p r m k = (slUp g p r k, 0) ∧ (0 ≤ slUp g p r k ∧ slUp g p r k ≤ 60000000) ∧ (0 ≤ (lfL g p r m k).1.1 ∧ (lfL g p r m k).1.1 ≤ 60000000) ∧ (1 ≤ (lfL g p r m k).1.2 ∧ (lfL g p r m k).1.2 ≤ 2400) ∧ (lfL g p r m k).1.1 ≤ slUp g p r k * (lfL g p r m k).1.2 ∧ (slUp g p r k - 1) * (lfL g p r m k).1.2 < (lfL g p r m k).1.1 := by
  unfold lfL at h ⊢
  by_cases hK : codeL3 (slB g p r m) [inB k 0 50000] = 0
  · obtain ⟨hv, hbs⟩ := codeL3_ok hK
    have hk := inB_true (hbs _ (List.mem_singleton.2 rfl))
    rw [if_pos hK] at h ⊢
    obtain ⟨hg, hp, hr, _⟩ := slB_bd hv
    have hE := slE_bd g r hg hr
    have hD := slD_bd p r hp hr
    have hN := mul_bd k (slD p r) 50000 1200 hk (by omega)
    have hu := up_low (k * slD p r) (slE g r) (by omega)
    have hN1 := tdiv_bd (k * slD p r) (Nat.gcd (k * slD p r).natAbs (slE g r).natAbs) 60000000 (by omega)
    have hE1 := tdiv_bd (slE g r) (Nat.gcd (k * slD p r).natAbs (slE g r).natAbs) 2400 (by omega)
    obtain ⟨c, hc, e1, e2⟩ := low_mul (k * slD p r) (slE g r) (by omega)
    have hpos : 0 < (lowL (k * slD p r) (slE g r)).2 := by
      rcases Int.lt_or_le 0 (lowL (k * slD p r) (slE g r)).2 with h | h
      · exact h
      · have := Int.mul_nonpos_of_nonpos_of_nonneg h (show (0 : Int) ≤ c by omega)
        omega
    have hnn : 0 ≤ (lowL (k * slD p r) (slE g r)).1 := by
      rcases Int.lt_or_le (lowL (k * slD p r) (slE g r)).1 0 with h | h
      · have := Int.mul_neg_of_neg_of_pos h hc
        omega
      · exact h
    have hs : slUp g p r k = upL (k * slD p r) (slE g r) := rfl
    rw [← hu] at hs
    have i1 := (up_iff (lowL (k * slD p r) (slE g r)).1 (lowL (k * slD p r) (slE g r)).2 (slUp g p r k) hpos).1 (by omega)
    have i2 : ¬ (lowL (k * slD p r) (slE g r)).1 ≤ (slUp g p r k - 1) * (lowL (k * slD p r) (slE g r)).2 := fun h => by
      have := (up_iff _ _ _ hpos).2 h
      omega
    have hup0 : 0 ≤ slUp g p r k ∧ slUp g p r k ≤ 60000000 := by
      constructor
      · unfold slUp upL
        exact Int.ediv_nonneg (by omega) (by omega)
      · have : slUp g p r k ≤ 60000000 ↔ _ := up_iff (k * slD p r) (slE g r) 60000000 (by omega)
        rw [this]
        have := Int.mul_le_mul_of_nonneg_left (show 1 ≤ slE g r by omega) (show (0 : Int) ≤ 60000000 by omega)
        omega
    dsimp only
    refine ⟨?_, hup0, ⟨hnn, ?_⟩, ⟨by omega, ?_⟩, i1, by omega⟩
    · unfold fuL
      rw [if_pos hK]
    · exact hN1.2
    · exact hE1.2
  · rw [if_neg hK] at h
    exact absurd h hK

theorem drawn_ok {x1 x2 x3 y : Int} (h1 : 0 ≤ x1 ∧ x1 < 4) (h2 : 0 ≤ x2 ∧ x2 < 60) (h3 : 0 ≤ x3 ∧ x3 < 80) (hy : 0 ≤ y ∧ y ≤ 400) (h : 1 < 1 + x1 ∨ y = 0) : okSl ⟨1 + x1, y, 1 + x2, x3⟩ = true := by
  simp only [okSl, slB, inB, Bool.and_eq_true, Bool.or_eq_true, decide_eq_true_eq]
  omega

set_option maxHeartbeats 2000000 in
theorem drawSl_any (L B N : Nat) (w : World) (h : Src w L B N) (hN : N < 700000000) :
    Calls Tryz.prog 51 #[.pointer (some ⟨B, 0, none⟩)] w fun e w' => ∃ z : Sl, okSl z = true ∧ e = .returned (.agg #[.int .i64 z.g, .int .i64 z.p, .int .i64 z.r, .int .i64 z.m]) ∧ Src w' L B (N + 10) ∧ w.grownBy w' (some B) := by
  have hB := Src_lt h
  have hL := h.1
  have hp0 : SlBox (w.alloc (.cells #[.int .i64 0, .int .i64 0, .int .i64 0, .int .i64 0] 25)) w.heap.size 0 0 0 0 := heap_alloc_new w _
  have hs0 := Src_below h (show Below w.heap.size w (w.alloc (.cells #[.int .i64 0, .int .i64 0, .int .i64 0, .int .i64 0] 25)) by go_grown)
  have hg0 : w.grownBy (w.alloc (.cells #[.int .i64 0, .int .i64 0, .int .i64 0, .int .i64 0] 25)) (some B) := World.grownBy_alloc _ _ _
  have hz0 : (w.alloc (.cells #[.int .i64 0, .int .i64 0, .int .i64 0, .int .i64 0] 25)).heap.size = w.heap.size + 1 := by simp
  go_enter Tryz.func51, Tryz.ntmps51
  go_wp2_with fail
  generalize w.alloc (.cells #[.int .i64 0, .int .i64 0, .int .i64 0, .int .i64 0] 25) = u0 at *
  have P0 := Lib.hid hp0; clear hp0
  have S0 := Lib.hid hs0; clear hs0 h
  refine (pickS_any L B N _ _ S0.out (by omega) (by omega)).mono ?_
  rintro e w1 ⟨x1, hx1, rfl, hs1, hg1⟩
  have S1 := Lib.hid hs1; clear hs1
  go_wp2_with fail
  refine (pickS_any L B (N + 2) _ _ S1.out (by omega) (by omega)).mono ?_
  rintro e w2 ⟨x2, hx2, rfl, hs2, hg2⟩
  have S2 := Lib.hid hs2; clear hs2
  go_wp2_with fail
  refine (pickS_any L B (N + 4) _ _ S2.out (by omega) (by omega)).mono ?_
  rintro e w3 ⟨x3, hx3, rfl, hs3, hg3⟩
  have g3 := grown_step hg0 (grown_step (grown_step hg1 hg2) hg3)
  have hz3 := (grown_step (grown_step hg1 hg2) hg3).size
  have P3 := Lib.hid (SlBox_grown P0.out (grown_step (grown_step hg1 hg2) hg3) (by omega))
  clear hg0 hg1 hg2 hg3
  have hx1' : 0 ≤ x1 ∧ x1 < 4 := ⟨hx1.1, hx1.2.2 (by omega)⟩
  have hx2' : 0 ≤ x2 ∧ x2 < 60 := ⟨hx2.1, hx2.2.2 (by omega)⟩
  have hx3' : 0 ≤ x3 ∧ x3 < 80 := ⟨hx3.1, hx3.2.2 (by omega)⟩
  clear hx1 hx2 hx3
  have k1 : IntKind.i64.wrap (1 + x1) = 1 + x1 := IntWalk.i64_in _ (by omega)
  have k2 : IntKind.i64.wrap (1 + x2) = 1 + x2 := IntWalk.i64_in _ (by omega)
  have k3 : IntKind.i64.wrap (2 * (1 + x2)) = 2 * (1 + x2) := IntWalk.i64_in _ (by omega)
  have k4 : wrap64 (2 * (1 + x2)) = 2 * (1 + x2) := IntWalk.wrap64_in _ (by omega)
  have hq3 : SlBox (w3.alloc (.cells #[.int .i64 (1 + x1), .int .i64 0, .int .i64 (1 + x2), .int .i64 x3] 25)) w3.heap.size (1 + x1) 0 (1 + x2) x3 := heap_alloc_new w3 _
  have hb3 : Below w3.heap.size w3 (w3.alloc (.cells #[.int .i64 (1 + x1), .int .i64 0, .int .i64 (1 + x2), .int .i64 x3] 25)) := by go_grown
  have S3 := Lib.hid (Src_below hs3 hb3)
  have P4 := Lib.hid (SlBox_kept P3.out hb3)
  have g4 := grown_step g3 (below_grown hb3 (some B))
  have hz4 := hb3.size
  clear hs3 g3 S0 S1 S2 P0
  have hlt3 : w.heap.size < w3.heap.size := by omega
  have hne : ¬ w.heap.size = w3.heap.size := by omega
  have hne' : ¬ w3.heap.size = w.heap.size := by omega
  have hBp : w3.heap.size ≠ B := by omega
  by_cases hc : 1 < 1 + x1
  case neg =>
    have h0 : ¬ 0 < x1 := by omega
    have h0d : decide (1 < 1 + x1) = false := by simpa using hc
    have hok := drawn_ok hx1' hx2' hx3' (y := 0) (by omega) (Or.inr rfl)
    clear P3
    go_upto_region 2 with fail
    generalize w3.alloc (.cells #[.int .i64 (1 + x1), .int .i64 0, .int .i64 (1 + x2), .int .i64 x3] 25) = u4 at *
    obtain ⟨⟨a0, a1, a2, a3⟩, f⟩ := SlBox_facts hq3
    obtain ⟨⟨c0, c1, c2, c3⟩, fz⟩ := SlBox_facts P4.out
    clear f
    go_wp2
    (try simp only [Exit.inBlock, Exit.then])
    refine bodyPost_ret (v := .agg #[.int .i64 (1 + x1), .int .i64 0, .int .i64 (1 + x2), .int .i64 x3]) ?_ rfl ?_
    · rw [results_cell1 rfl]
      go_simp
    · exact ⟨(⟨(1 + x1), 0, (1 + x2), x3⟩ : Sl), hok, rfl, src_end4 (Src_more S3.out (by omega)) (by omega) (by omega) _ _ _ _, grown_end4 g4 (Nat.le_refl _) _ _ _ _⟩
  have hq3' := Lib.hid hq3; clear hq3 P3
  go_wp2_with fail
  refine (pickS_any L B (N + 6) _ _ S3.out (by omega) (by omega)).mono ?_
  rintro e w5 ⟨x5, hx5, rfl, hs5, hg5⟩
  have hx5' : 0 ≤ x5 ∧ x5 < 100 := ⟨hx5.1, hx5.2.2 (by omega)⟩
  have q5 := SlBox_grown hq3'.out hg5 (by omega)
  have P5 := SlBox_grown P4.out hg5 (by omega)
  have hz5 := hg5.size
  have g5 := grown_step g4 hg5
  obtain ⟨⟨a0, a1, a2, a3⟩, f⟩ := SlBox_facts q5
  have fz1 := f 1
  clear f hx5 hg5 S3 P4 g4
  have hq6 := (SlBox_put q5 x5).2.1
  have hs6 := Src_set (p := w3.heap.size) (o := 1) (v := .int .i64 x5) hs5 (by omega) (by omega)
  have hg6 := grown_new g5 (p := w3.heap.size) (o := 1) (by omega) (.int .i64 x5)
  have P6 := Lib.hid (SlBox_far (q := w3.heap.size) (o := 1) (v := .int .i64 x5) P5 (by omega))
  have hz6 : (w5.setCell ⟨w3.heap.size, 1, none⟩ (.int .i64 x5)).heap.size = w5.heap.size := by simp
  clear hs5 g5 P5 q5
  have Q6 := Lib.hid hq6; clear hq6
  have S6 := Lib.hid hs6; clear hs6
  go_wp2_with fail
  clear a0 a1 a2 a3 fz1
  generalize hp1 : w3.heap.size = p1 at *
  generalize w5.setCell ⟨p1, 1, none⟩ (.int .i64 x5) = u6 at *
  refine (oneS_any L B (N + 8) _ _ S6.out (by omega) (by omega)).mono ?_
  rintro e w7 ⟨b7, rfl, hs7, hg7⟩
  have Q7 := Lib.hid (SlBox_grown Q6.out hg7 (by omega))
  have P7 := Lib.hid (SlBox_grown P6.out hg7 (by omega))
  have g7 := grown_step hg6 hg7
  have S7 := Lib.hid hs7; clear hs7 hg7 hg6 Q6 P6 S6
  cases b7
  · have hok := drawn_ok hx1' hx2' hx3' (y := x5) (by omega) (Or.inl hc)
    obtain ⟨⟨a0, a1, a2, a3⟩, f⟩ := SlBox_facts Q7.out
    obtain ⟨⟨c0, c1, c2, c3⟩, fz⟩ := SlBox_facts P7.out
    clear f
    go_wp2
    (try simp only [Exit.inBlock, Exit.then])
    refine bodyPost_ret (v := .agg #[.int .i64 (1 + x1), .int .i64 x5, .int .i64 (1 + x2), .int .i64 x3]) ?_ rfl ?_
    · rw [results_cell1 rfl]
      go_simp
    · exact ⟨(⟨(1 + x1), x5, (1 + x2), x3⟩ : Sl), hok, rfl, src_end4 (S7.out) (by omega) (by omega) _ _ _ _, grown_end4 g7 (Nat.le_refl _) _ _ _ _⟩
  · have hok := drawn_ok hx1' hx2' hx3' (y := 2 * (1 + x2)) (by omega) (Or.inl hc)
    have Q8 := (SlBox_put Q7.out (2 * (1 + x2))).2.1
    have S8 := Lib.hid (Src_set (p := p1) (o := 1) (v := .int .i64 (2 * (1 + x2))) S7.out (by omega) (by omega))
    have g8 := grown_new g7 (p := p1) (o := 1) (by omega) (.int .i64 (2 * (1 + x2)))
    have P8 := SlBox_far (q := p1) (o := 1) (v := .int .i64 (2 * (1 + x2))) P7.out (by omega)
    obtain ⟨⟨a0, a1, a2, a3⟩, f⟩ := SlBox_facts Q7.out
    obtain ⟨⟨c0, c1, c2, c3⟩, fz⟩ := SlBox_facts P7.out
    have fz1 := f 1
    clear f
    go_wp2
    (try simp only [Exit.inBlock, Exit.then])
    refine bodyPost_ret (v := .agg #[.int .i64 (1 + x1), .int .i64 (2 * (1 + x2)), .int .i64 (1 + x2), .int .i64 x3]) ?_ rfl ?_
    · rw [results_cell1 rfl]
      go_simp
    · exact ⟨(⟨(1 + x1), (2 * (1 + x2)), (1 + x2), x3⟩ : Sl), hok, rfl, src_end4 (S8.out) (by omega) (by omega) _ _ _ _, grown_end4 g8 (Nat.le_refl _) _ _ _ _⟩

theorem SlNew (g p r m : Int) (w : World) : SlBox (w.alloc (.cells #[.int .i64 g, .int .i64 p, .int .i64 r, .int .i64 m] 25)) w.heap.size g p r m ∧ Below w.heap.size w (w.alloc (.cells #[.int .i64 g, .int .i64 p, .int .i64 r, .int .i64 m] 25)) ∧ (w.alloc (.cells #[.int .i64 g, .int .i64 p, .int .i64 r, .int .i64 m] 25)).heap.size = w.heap.size + 1 := ⟨heap_alloc_new w _, by go_grown, by simp⟩

set_option maxHeartbeats 4000000 in
theorem bentSl_any (L B N : Nat) (w : World) (h : Src w L B N) (hN : N < 600000000) :
    Calls Tryz.prog 26 #[.pointer (some ⟨B, 0, none⟩)] w fun e w' => ∃ g p r m : Int, e = .returned (.agg #[.int .i64 g, .int .i64 p, .int .i64 r, .int .i64 m]) ∧ Src w' L B (N + 14) ∧ w.grownBy w' (some B) := by
  have hB := Src_lt h
  have hL := h.1
  obtain ⟨hp0, hb0, hz0⟩ := SlNew 0 0 0 0 w
  have hs0 := Src_below h hb0
  have hg0 := below_grown hb0 (some B)
  go_enter Tryz.func26, Tryz.ntmps26
  go_wp2_with fail
  generalize w.alloc (.cells #[.int .i64 0, .int .i64 0, .int .i64 0, .int .i64 0] 25) = u0 at *
  have P0 := Lib.hid hp0; clear hp0
  have S0 := Lib.hid hs0; clear hs0 h
  refine (drawSl_any L B N _ S0.out (by omega)).mono ?_
  rintro e w1 ⟨⟨g, p, r, m⟩, hok, rfl, hs1, hg1⟩
  dsimp only
  have g1 := grown_step hg0 hg1
  have hz1 := hg1.size
  have P1 := Lib.hid (SlBox_grown P0.out hg1 (by omega))
  clear hg0 hg1 hok hb0
  go_wp2_with fail
  obtain ⟨hq2, hb2, hz2⟩ := SlNew g p r m w1
  generalize hp1 : w1.heap.size = p1 at *
  have S2 := Lib.hid (Src_below hs1 (by rw [hp1]; exact hb2))
  have P2 := Lib.hid (SlBox_kept P1.out (by rw [hp1]; exact hb2))
  have g2 := grown_step g1 (below_grown (by rw [hp1]; exact hb2) (some B))
  clear hb2 hs1 P1 hp1
  generalize w1.alloc (.cells #[.int .i64 g, .int .i64 p, .int .i64 r, .int .i64 m] 25) = u2 at *
  have Q2 := Lib.hid hq2; clear hq2
  refine (pickS_any L B (N + 10) _ _ S2.out (by omega) (by omega)).mono ?_
  rintro e w3 ⟨x, hx, rfl, hs3, hg3⟩
  have Q3 := Lib.hid (SlBox_grown Q2.out hg3 (by omega))
  have P3 := Lib.hid (SlBox_grown P2.out hg3 (by omega))
  have G3 := Lib.hid (grown_step g2 hg3)
  have hz3 := (grown_step g2 hg3).size
  have hl3 := SlBox_lt Q3.out
  have hl3' := SlBox_lt P3.out
  have S3 := Lib.hid hs3; clear hs3 Q2 P2 S2 g1 g2 hg3 S0 P0
  have hne : ¬ w.heap.size = p1 := by omega
  have hne' : ¬ p1 = w.heap.size := by omega
  by_cases h0 : x = 0
  · subst h0
    go_wp2_with fail
    have hrA : RdI (w3.alloc (.cells #[.int .i64 0, .int .i64 1, .int .i64 4, .int .i64 5] 2)) (.slice (some ⟨w3.heap.size, 0, none⟩) 4 4) [0, 1, 4, 5] := RdI_lit w3 2 [0, 1, 4, 5] (by simp)
    have hbA : Below w3.heap.size w3 (w3.alloc (.cells #[.int .i64 0, .int .i64 1, .int .i64 4, .int .i64 5] 2)) := by go_grown
    refine (amongS_any L B (N + 12) _ [0, 1, 4, 5] _ (Src_below S3.out hbA) (by omega) hrA (by simp) (by simp) (fun A n c e b off e2 => by injection e with e; rw [e2] at e; injection e with e; injection e with e; omega)).mono ?_
    rintro e wA ⟨yA, hyA, rfl, hsA, hgA⟩
    have QA := Lib.hid (SlBox_grown (SlBox_kept Q3.out hbA) hgA (by omega))
    have PA := Lib.hid (SlBox_grown (SlBox_kept P3.out hbA) hgA (by omega))
    have GA := Lib.hid (grown_step (grown_step G3.out (below_grown hbA (some B))) hgA)
    have SA := Lib.hid hsA; clear hsA hgA hbA hrA
    obtain ⟨⟨a0, a1, a2, a3⟩, f⟩ := SlBox_facts QA.out
    obtain ⟨⟨c0, c1, c2, c3⟩, fz⟩ := SlBox_facts PA.out
    go_wp2
    (try simp only [Exit.inBlock, Exit.then])
    refine bodyPost_ret (v := .agg #[.int .i64 yA, .int .i64 p, .int .i64 r, .int .i64 m]) ?_ rfl ⟨_, _, _, _, rfl, ?_, ?_⟩
    · rw [results_cell1 rfl]
      go_simp
    · exact src_end4 (Src_set (Src_more SA.out (by omega)) (by omega) (by omega)) (by omega) (by omega) _ _ _ _
    · exact grown_end4 (grown_new (GA.out) (by omega) _) (Nat.le_refl _) _ _ _ _
  by_cases h1 : x = 1
  · subst h1
    go_wp2_with fail
    have hrA : RdI (w3.alloc (.cells #[.int .i64 (-1), .int .i64 0, .int .i64 400, .int .i64 401, .int .i64 (-9223372036854775808)] 2)) (.slice (some ⟨w3.heap.size, 0, none⟩) 5 5) [-1, 0, 400, 401, -9223372036854775808] := RdI_lit w3 2 [-1, 0, 400, 401, -9223372036854775808] (by simp)
    have hbA : Below w3.heap.size w3 (w3.alloc (.cells #[.int .i64 (-1), .int .i64 0, .int .i64 400, .int .i64 401, .int .i64 (-9223372036854775808)] 2)) := by go_grown
    refine (amongS_any L B (N + 12) _ [-1, 0, 400, 401, -9223372036854775808] _ (Src_below S3.out hbA) (by omega) hrA (by simp) (by simp) (fun A n c e b off e2 => by injection e with e; rw [e2] at e; injection e with e; injection e with e; omega)).mono ?_
    rintro e wA ⟨yA, hyA, rfl, hsA, hgA⟩
    have QA := Lib.hid (SlBox_grown (SlBox_kept Q3.out hbA) hgA (by omega))
    have PA := Lib.hid (SlBox_grown (SlBox_kept P3.out hbA) hgA (by omega))
    have GA := Lib.hid (grown_step (grown_step G3.out (below_grown hbA (some B))) hgA)
    have SA := Lib.hid hsA; clear hsA hgA hbA hrA
    obtain ⟨⟨a0, a1, a2, a3⟩, f⟩ := SlBox_facts QA.out
    obtain ⟨⟨c0, c1, c2, c3⟩, fz⟩ := SlBox_facts PA.out
    go_wp2
    (try simp only [Exit.inBlock, Exit.then])
    refine bodyPost_ret (v := .agg #[.int .i64 g, .int .i64 yA, .int .i64 r, .int .i64 m]) ?_ rfl ⟨_, _, _, _, rfl, ?_, ?_⟩
    · rw [results_cell1 rfl]
      go_simp
    · exact src_end4 (Src_set (Src_more SA.out (by omega)) (by omega) (by omega)) (by omega) (by omega) _ _ _ _
    · exact grown_end4 (grown_new (GA.out) (by omega) _) (Nat.le_refl _) _ _ _ _
  by_cases h2 : x = 2
  · subst h2
    go_wp2_with fail
    have hrA : RdI (w3.alloc (.cells #[.int .i64 0, .int .i64 1, .int .i64 400, .int .i64 401] 2)) (.slice (some ⟨w3.heap.size, 0, none⟩) 4 4) [0, 1, 400, 401] := RdI_lit w3 2 [0, 1, 400, 401] (by simp)
    have hbA : Below w3.heap.size w3 (w3.alloc (.cells #[.int .i64 0, .int .i64 1, .int .i64 400, .int .i64 401] 2)) := by go_grown
    refine (amongS_any L B (N + 12) _ [0, 1, 400, 401] _ (Src_below S3.out hbA) (by omega) hrA (by simp) (by simp) (fun A n c e b off e2 => by injection e with e; rw [e2] at e; injection e with e; injection e with e; omega)).mono ?_
    rintro e wA ⟨yA, hyA, rfl, hsA, hgA⟩
    have QA := Lib.hid (SlBox_grown (SlBox_kept Q3.out hbA) hgA (by omega))
    have PA := Lib.hid (SlBox_grown (SlBox_kept P3.out hbA) hgA (by omega))
    have GA := Lib.hid (grown_step (grown_step G3.out (below_grown hbA (some B))) hgA)
    have SA := Lib.hid hsA; clear hsA hgA hbA hrA
    obtain ⟨⟨a0, a1, a2, a3⟩, f⟩ := SlBox_facts QA.out
    obtain ⟨⟨c0, c1, c2, c3⟩, fz⟩ := SlBox_facts PA.out
    go_wp2
    (try simp only [Exit.inBlock, Exit.then])
    refine bodyPost_ret (v := .agg #[.int .i64 g, .int .i64 p, .int .i64 yA, .int .i64 m]) ?_ rfl ⟨_, _, _, _, rfl, ?_, ?_⟩
    · rw [results_cell1 rfl]
      go_simp
    · exact src_end4 (Src_set (Src_more SA.out (by omega)) (by omega) (by omega)) (by omega) (by omega) _ _ _ _
    · exact grown_end4 (grown_new (GA.out) (by omega) _) (Nat.le_refl _) _ _ _ _
  by_cases h3 : x = 3
  · subst h3
    go_wp2_with fail
    have hrA : RdI (w3.alloc (.cells #[.int .i64 (-1), .int .i64 0, .int .i64 1000, .int .i64 1001] 2)) (.slice (some ⟨w3.heap.size, 0, none⟩) 4 4) [-1, 0, 1000, 1001] := RdI_lit w3 2 [-1, 0, 1000, 1001] (by simp)
    have hbA : Below w3.heap.size w3 (w3.alloc (.cells #[.int .i64 (-1), .int .i64 0, .int .i64 1000, .int .i64 1001] 2)) := by go_grown
    refine (amongS_any L B (N + 12) _ [-1, 0, 1000, 1001] _ (Src_below S3.out hbA) (by omega) hrA (by simp) (by simp) (fun A n c e b off e2 => by injection e with e; rw [e2] at e; injection e with e; injection e with e; omega)).mono ?_
    rintro e wA ⟨yA, hyA, rfl, hsA, hgA⟩
    have QA := Lib.hid (SlBox_grown (SlBox_kept Q3.out hbA) hgA (by omega))
    have PA := Lib.hid (SlBox_grown (SlBox_kept P3.out hbA) hgA (by omega))
    have GA := Lib.hid (grown_step (grown_step G3.out (below_grown hbA (some B))) hgA)
    have SA := Lib.hid hsA; clear hsA hgA hbA hrA
    obtain ⟨⟨a0, a1, a2, a3⟩, f⟩ := SlBox_facts QA.out
    obtain ⟨⟨c0, c1, c2, c3⟩, fz⟩ := SlBox_facts PA.out
    go_wp2
    (try simp only [Exit.inBlock, Exit.then])
    refine bodyPost_ret (v := .agg #[.int .i64 g, .int .i64 p, .int .i64 r, .int .i64 yA]) ?_ rfl ⟨_, _, _, _, rfl, ?_, ?_⟩
    · rw [results_cell1 rfl]
      go_simp
    · exact src_end4 (Src_set (Src_more SA.out (by omega)) (by omega) (by omega)) (by omega) (by omega) _ _ _ _
    · exact grown_end4 (grown_new (GA.out) (by omega) _) (Nat.le_refl _) _ _ _ _
  obtain ⟨⟨a0, a1, a2, a3⟩, f⟩ := SlBox_facts Q3.out
  obtain ⟨⟨c0, c1, c2, c3⟩, fz⟩ := SlBox_facts P3.out
  go_wp2
  (try simp only [Exit.inBlock, Exit.then])
  refine bodyPost_ret (v := .agg #[.int .i64 g, .int .i64 p, .int .i64 r, .int .i64 m]) ?_ rfl ⟨_, _, _, _, rfl, ?_, ?_⟩
  · rw [results_cell1 rfl]
    go_simp
  · exact src_end4 (Src_more S3.out (by omega)) (by omega) (by omega) _ _ _ _
  · exact grown_end4 (G3.out) (Nat.le_refl _) _ _ _ _

set_option maxHeartbeats 4000000 in
theorem askSl_any (A : Option Addr) (n cp : Nat) (w : World) (h : RdC w A n) (hn : n ≤ 1000000) :
    Calls Tryz.prog 34 #[.slice A n cp] w fun e w' => ∃ g p r m l : Int, e = .returned (.tuple #[.agg #[.int .i64 g, .int .i64 p, .int .i64 r, .int .i64 m], .int .i64 l]) ∧ Below w.heap.size w w' := by
  obtain ⟨hp0, hb0, hz0⟩ := SlNew 0 0 0 0 w
  have hc0 := RdC_kept h hb0
  replace hz0 : w.heap.size < (w.alloc (.cells #[.int .i64 0, .int .i64 0, .int .i64 0, .int .i64 0] 25)).heap.size := by omega
  go_enter Tryz.func34, Tryz.ntmps34
  go_wp2_with fail
  generalize w.alloc (.cells #[.int .i64 0, .int .i64 0, .int .i64 0, .int .i64 0] 25) = u0 at *
  refine (from_any _ _ A n cp rfl).mono ?_
  rintro e w1 ⟨rfl, h1⟩
  have hs1 := Src_from (c := cp) hc0 hn
  have hb1 : Below u0.heap.size u0 w1 := by rw [← h1]; go_grown
  rw [h1] at hs1
  have P1 := Lib.hid (SlBox_kept hp0 hb1)
  have B1 := kept_trans hb0 hb1
  have S1 := Lib.hid hs1; clear hs1 hc0 hp0 h1 h hb0 hb1
  generalize hB : u0.heap.size = B at *
  have hB1 := Src_lt S1.out
  go_wp2_with fail
  refine (bentSl_any B B 0 _ S1.out (by omega)).mono ?_
  rintro e w2 ⟨g, p, r, m, rfl, hs2, hg2⟩
  have P2 := Lib.hid (SlBox_grown P1.out hg2 (by omega))
  have B2 := grown_below B1 hg2 (fun g hg => by injection hg with hg; omega)
  have hz2 := hg2.size
  clear hg2
  go_wp2_with fail
  obtain ⟨hq3, hb3, hz3⟩ := SlNew g p r m w2
  generalize hp1 : w2.heap.size = p1 at *
  have S3 := Lib.hid (Src_below hs2 (by rw [hp1]; exact hb3))
  have P3 := Lib.hid (SlBox_kept P2.out (by rw [hp1]; exact hb3))
  have B3 := kept_trans B2 (by rw [hp1]; exact hb3)
  clear hb3 hs2 P2 hp1
  generalize w2.alloc (.cells #[.int .i64 g, .int .i64 p, .int .i64 r, .int .i64 m] 25) = u3 at *
  have Q3 := Lib.hid hq3; clear hq3
  obtain ⟨⟨a0, a1, a2, a3⟩, f⟩ := SlBox_facts Q3.out
  clear f
  have hne : ¬ w.heap.size = p1 := by omega
  have hne' : ¬ p1 = w.heap.size := by omega
  first
    | go_region_held3 (fun w' => w'.cell? ⟨p1, 0, none⟩ = some (.int .i64 g) ∧ w'.cell? ⟨p1, 1, none⟩ = some (.int .i64 p) ∧ w'.cell? ⟨p1, 2, none⟩ = some (.int .i64 r) ∧ w'.cell? ⟨p1, 3, none⟩ = some (.int .i64 m)) (first | go_keep | (exact ⟨b0, b1, b2, b3⟩))
        ((go_at_call 27; refine (drawLoad_any B B 14 _ (by exact S3.out) (by omega)).mono ?_; rintro e w4 ⟨q, rfl, hs4, hg4⟩; (first | (replace hg4 := undrew hg4) | skip); obtain ⟨⟨b0, b1, b2, b3⟩, f⟩ := SlBox_facts (SlBox_grown Q3.out (by exact hg4) (by omega)); obtain ⟨⟨c0, c1, c2, c3⟩, fz⟩ := SlBox_facts (SlBox_grown P3.out (by exact hg4) (by omega)); clear f; clear hs4; have B4 := Lib.hid (grown_below B3 (by exact hg4) (fun g hg => by injection hg with hg; omega)); clear hg4))
    | fail
  all_goals
    go_wp2
    (try simp only [Exit.inBlock, Exit.then])
    refine bodyPost_ret (v := .tuple #[.agg #[.int .i64 g, .int .i64 p, .int .i64 r, .int .i64 m], .int .i64 q]) ?_ rfl ⟨_, _, _, _, _, rfl, ?_⟩
    · simp [results, Tryz.results34, go_sem, c0, c1, c2, c3, fz]
    · exact (((B4.out.setCell (Nat.le_refl _) _).setCell (Nat.le_refl _) _).setCell (Nat.le_refl _) _).setCell (Nat.le_refl _) _

theorem RdS_lit (u : World) (t : TypeId) (ss : List ByteArray) (hl : ss.length ≤ 9223372036854775807) : RdS (u.alloc (.cells (ss.map Value.string).toArray t)) (.slice (some ⟨u.heap.size, 0, none⟩) ss.length ss.length) ss := by
  refine ⟨hl, by simp [strV], _, _, rfl, fun i hi => ⟨_, 0, rfl, by simp, ?_⟩⟩
  rw [Nat.zero_add, cell_of_row _ _ i _ _ _ (heap_alloc_new u _)]
  simp [strV]

theorem textS_any (L B N : Nat) (v : Value) (ss : List ByteArray) (w : World) (h : Src w L B N) (hN : N < 800000000) (hr : RdS w v ss) (h0 : 1 ≤ ss.length) (h1 : ss.length ≤ 1000) (hv : ∀ A n c, v = .slice A n c → ∀ b off, A = some ⟨b, off, none⟩ → b ≠ B) :
    Calls Tryz.prog 70 #[.pointer (some ⟨B, 0, none⟩), v] w fun e w' => ∃ x : ByteArray, x ∈ ss ∧ e = .returned (.string x) ∧ Src w' L B (N + 2) ∧ w.grownBy w' (some B) := by
  obtain ⟨A, c, rfl, _, r1⟩ := RdS_at hr
  have H := Lib.hid h; clear h
  have R := Lib.hid r1; clear r1 hr
  have HV := Lib.hid (hv A ss.length c rfl); clear hv
  go_enter Tryz.func70, Tryz.ntmps70
  go_wp2_with fail
  refine (pickS_any L B N _ _ H.out (by omega) (by omega)).mono ?_
  rintro e w1 ⟨x, hx, rfl, hs1, hg1⟩
  obtain ⟨k, rfl⟩ : ∃ k : Nat, x = (k : Int) := ⟨x.toNat, by omega⟩
  have hk : k < ss.length := by have := hx.2.2 (by omega); omega
  obtain ⟨b, off, rfl, hbl, hc⟩ := R.out k hk
  have hc1 := hg1.cell hc (fun e => by injection e with e; exact HV.out b off rfl e)
  have HS1 := Lib.hid hs1; clear hs1 hc
  have hmem : ss[k] ∈ ss := List.getElem_mem hk
  generalize ss[k] = z at *
  go_wp2
  go_ret
  exact ⟨z, hmem, rfl, HS1.out, hg1⟩

def spoilT : List ByteArray := [⟨#[32]⟩, ⟨#[48]⟩, ⟨#[45]⟩, ⟨#[120]⟩, ⟨#[49]⟩, ⟨#[57]⟩, ⟨#[46]⟩]

theorem spoilT_sz {x : ByteArray} (h : x ∈ spoilT) : x.size = 1 := by
  simp [spoilT] at h
  rcases h with rfl | rfl | rfl | rfl | rfl | rfl | rfl <;> rfl

theorem spoilT_len : spoilT.length = 7 := rfl

theorem toList_none {t : ByteArray} (h : t.toList.isEmpty = false) : 1 ≤ t.size := by
  rw [neB_str] at h
  have h2 : neB t = true := by simpa using h
  unfold neB at h2
  have h3 := of_decide_eq_true h2
  omega

set_option maxHeartbeats 4000000 in
theorem spoilS_any (L B N : Nat) (t : ByteArray) (ht : t.size ≤ 1000) (w : World) (h : Src w L B N) (hN : N < 700000000) :
    Calls Tryz.prog 53 #[.pointer (some ⟨B, 0, none⟩), .string t] w fun e w' => ∃ s : ByteArray, s.size ≤ 2000 ∧ e = .returned (.string s) ∧ w.grownBy w' (some B) := by
  have hB := Src_lt h
  have S0 := Lib.hid h; clear h
  go_enter Tryz.func53, Tryz.ntmps53
  go_wp2_with fail
  refine (pickS_any L B N _ _ S0.out (by omega) (by omega)).mono ?_
  rintro e w1 ⟨x, hx, rfl, hs1, hg1⟩
  have S1 := Lib.hid hs1; clear hs1
  have hB1 := Src_lt S1.out
  by_cases h0 : x = 0
  · subst h0
    go_wp2_with fail
    refine (pickS_any L B (N + 2) _ _ S1.out (by omega) (by omega)).mono ?_
    rintro e w2 ⟨y, hy, rfl, hs2, hg2⟩
    obtain ⟨k, rfl⟩ : ∃ k : Nat, y = (k : Int) := ⟨y.toNat, by omega⟩
    have hk : k ≤ t.size := by have := hy.2.2 (by omega); omega
    have S2 := Lib.hid hs2; clear hs2 hx hy
    have G2 := Lib.hid (grown_step hg1 hg2); clear hg1 hg2
    have hB2 := Src_lt S2.out
    have hk2 : (k : Int) ≤ (t.size : Int) := by omega
    have hbA : Below w2.heap.size w2 (w2.alloc (.cells #[.string ⟨#[32]⟩, .string ⟨#[48]⟩, .string ⟨#[45]⟩, .string ⟨#[120]⟩, .string ⟨#[49]⟩, .string ⟨#[57]⟩, .string ⟨#[46]⟩] 9)).drew := below_drew (by go_grown)
    have hrA : RdS (w2.alloc (.cells #[.string ⟨#[32]⟩, .string ⟨#[48]⟩, .string ⟨#[45]⟩, .string ⟨#[120]⟩, .string ⟨#[49]⟩, .string ⟨#[57]⟩, .string ⟨#[46]⟩] 9)).drew (.slice (some ⟨w2.heap.size, 0, none⟩) 7 7) spoilT := RdF_kept (RdS_lit w2 9 spoilT (by rw [spoilT_len]; omega)) (below_drew (Below.refl _ _))
    have SA := Lib.hid (Src_below S2.out hbA)
    have RA := Lib.hid hrA; clear hrA
    have GA := Lib.hid (grown_step G2.out (below_grown hbA (some B))); clear hbA
    have hzt := spoilT_len
    have hbd : ∀ z : ByteArray, z.size = 1 → (¬ 9223372036854775807 < min k t.size + z.size) ∧ (¬ 9223372036854775807 < k + z.size) ∧ (¬ 9223372036854775807 < min k t.size + z.size + (t.size - k)) ∧ (¬ 9223372036854775807 < k + z.size + (t.size - k)) := fun z hz => by omega
    have hext : ∀ z : ByteArray, z.size = 1 → ((t.extract 0 k) ++ z ++ (t.extract k t.size)).size ≤ 2000 := fun z hz => by
      simp only [ByteArray.size_append, ByteArray.size_extract]
      omega
    go_wp2_with fail
    go_region_held3 (fun _ => True) (first | go_keep | trivial)
      ((go_at_call 70; refine (textS_any L B (N + 4) _ spoilT _ (by exact SA.out) (by omega) (by exact RA.out) (by omega) (by omega) (fun A n c e b off e2 => by injection e with e; rw [e2] at e; injection e with e; injection e with e; omega)).mono ?_; rintro e w4 ⟨z, hz, rfl, hs4, hg4⟩; clear hs4; have G4 := Lib.hid (grown_step GA.out (by exact hg4)); clear hg4; have hz1 := hext z (spoilT_sz hz); obtain ⟨s1, s2, s3, s4⟩ := hbd z (spoilT_sz hz); clear hz))
    all_goals
      go_wp2
      go_ret
      exact ⟨_, hz1, rfl, G4.out⟩
  by_cases h1 : x = 1
  · subst h1
    cases he : t.toList.isEmpty
    case true =>
      go_wp2
      go_ret
      exact ⟨_, by omega, rfl, hg1⟩
    case false =>
      have hsz := toList_none he
      go_wp2_with fail
      refine (pickS_any L B (N + 2) _ _ S1.out (by omega) (by omega)).mono ?_
      rintro e w2 ⟨y, hy, rfl, hs2, hg2⟩
      obtain ⟨k, rfl⟩ : ∃ k : Nat, y = (k : Int) := ⟨y.toNat, by omega⟩
      have hk : k + 1 ≤ t.size := by have := hy.2.2 (by omega); omega
      have G2 := Lib.hid (grown_step hg1 hg2); clear hg1 hg2 hs2 hx hy
      have hk2 : (k : Int) + 1 ≤ (t.size : Int) := by omega
      have hk3 : (k : Int) ≤ (t.size : Int) := by omega
      have hk4 : ((k : Int) + 1).toNat = k + 1 := by omega
      have hkw : IntKind.i64.wrap ((k : Int) + 1) = (k : Int) + 1 := IntWalk.i64_in _ (by omega)
      have hkv : wrap64 ((k : Int) + 1) = (k : Int) + 1 := IntWalk.wrap64_in _ (by omega)
      have s1 : ¬ 9223372036854775807 < min k t.size + (t.size - (k + 1)) := by omega
      have s2 : ¬ 9223372036854775807 < k + (t.size - (k + 1)) := by omega
      have hext : ((t.extract 0 k) ++ (t.extract (k + 1) t.size)).size ≤ 2000 := by
        simp only [ByteArray.size_append, ByteArray.size_extract]
        omega
      go_wp2_with fail
      go_quiet (fail)
      go_wp2
      go_ret
      exact ⟨_, hext, rfl, ⟨G2.out.os, G2.out.tape, G2.out.output, G2.out.size, G2.out.block⟩⟩
  · have f0 : (x == 0) = false := by simpa using h0
    have f1 : (x == 1) = false := by simpa using h1
    go_wp2
    go_ret
    exact ⟨_, by omega, rfl, hg1⟩

theorem txSl_sz {z : Sl} (h : okSl z = true) : (⟨(txSl z).toArray⟩ : ByteArray).size ≤ 100 := by
  obtain ⟨h1, h2, h3, h4⟩ := okSl_bd h
  have a1 := (small_itoa h1).2.2.1
  have a2 := (small_itoa h2).2.2.1
  have a3 := (small_itoa h3).2.2.1
  have a4 := (small_itoa h4).2.2.1
  have e : (txSl z).length ≤ 100 := by
    unfold txSl slText
    simp only [List.length_append, List.length_cons]
    omega
  exact e

theorem readSl_tx (g p r m : Int) : readSl (slTxL g p r m) = (if slB g p r m = true then (⟨g, p, r, m⟩, true) else (⟨0, 0, 0, 0⟩, false)) := by
  unfold slTxL
  by_cases h : slB g p r m = true
  · rw [if_pos h, if_pos h]
    exact readSl_yes (z := ⟨g, p, r, m⟩) h
  · rw [if_neg h, if_neg h]
    refine readSl_no ?_
    rintro ⟨z, _, h2⟩
    unfold txSl slText at h2
    simp at h2

set_option maxHeartbeats 4000000 in
theorem drawLR_any (A : Option Addr) (n cp : Nat) (w : World) (h : RdC w A n) (hn : n ≤ 1000000) :
    Calls Tryz.prog 5 #[.slice A n cp] w fun e w' => ∃ g p r m l q : Int, e = .returned (.tuple #[.agg #[.int .i64 g, .int .i64 p, .int .i64 r, .int .i64 m], .int .i64 l, .int .i64 q]) ∧ Below w.heap.size w w' := by
  obtain ⟨hp0, hb0, hz0⟩ := SlNew 0 0 0 0 w
  have hc0 := RdC_kept h hb0
  replace hz0 : w.heap.size < (w.alloc (.cells #[.int .i64 0, .int .i64 0, .int .i64 0, .int .i64 0] 25)).heap.size := by omega
  go_enter Tryz.func5, Tryz.ntmps5
  go_wp2_with fail
  generalize w.alloc (.cells #[.int .i64 0, .int .i64 0, .int .i64 0, .int .i64 0] 25) = u0 at *
  refine (from_any _ _ A n cp rfl).mono ?_
  rintro e w1 ⟨rfl, h1⟩
  have hs1 := Src_from (c := cp) hc0 hn
  have hb1 : Below u0.heap.size u0 w1 := by rw [← h1]; go_grown
  rw [h1] at hs1
  have P1 := Lib.hid (SlBox_kept hp0 hb1)
  have B1 := kept_trans hb0 hb1
  have S1 := Lib.hid hs1; clear hs1 hc0 hp0 h1 h hb0 hb1
  generalize hB : u0.heap.size = B at *
  have hB1 := Src_lt S1.out
  go_wp2_with fail
  refine (bentSl_any B B 0 _ S1.out (by omega)).mono ?_
  rintro e w2 ⟨g, p, r, m, rfl, hs2, hg2⟩
  have P2 := Lib.hid (SlBox_grown P1.out hg2 (by omega))
  have B2 := grown_below B1 hg2 (fun g hg => by injection hg with hg; omega)
  have hz2 := hg2.size
  clear hg2
  go_wp2_with fail
  obtain ⟨hq3, hb3, hz3⟩ := SlNew g p r m w2
  generalize hp1 : w2.heap.size = p1 at *
  have S3 := Lib.hid (Src_below hs2 (by rw [hp1]; exact hb3))
  have P3 := Lib.hid (SlBox_kept P2.out (by rw [hp1]; exact hb3))
  have B3 := kept_trans B2 (by rw [hp1]; exact hb3)
  clear hb3 hs2 P2 hp1
  generalize w2.alloc (.cells #[.int .i64 g, .int .i64 p, .int .i64 r, .int .i64 m] 25) = u3 at *
  have Q3 := Lib.hid hq3; clear hq3
  refine (drawLoad_any B B 14 _ S3.out (by omega)).mono ?_
  rintro e w5 ⟨l, rfl, hs5, hg5⟩
  have Q5 := Lib.hid (SlBox_grown Q3.out hg5 (by omega))
  have P5 := Lib.hid (SlBox_grown P3.out hg5 (by omega))
  have B5 := grown_below B3 hg5 (fun g hg => by injection hg with hg; omega)
  have S5 := Lib.hid hs5; clear hs5 hg5 S3 P3 Q3 B3
  obtain ⟨⟨a0, a1, a2, a3⟩, f⟩ := SlBox_facts Q5.out
  clear f
  have hne : ¬ w.heap.size = p1 := by omega
  have hne' : ¬ p1 = w.heap.size := by omega
  go_wp2_with fail
  first
    | go_region_held3 (fun w' => w'.cell? ⟨p1, 0, none⟩ = some (.int .i64 g) ∧ w'.cell? ⟨p1, 1, none⟩ = some (.int .i64 p) ∧ w'.cell? ⟨p1, 2, none⟩ = some (.int .i64 r) ∧ w'.cell? ⟨p1, 3, none⟩ = some (.int .i64 m)) (first | go_keep | (exact ⟨b0, b1, b2, b3⟩))
        ((go_at_call 27; refine (drawLoad_any B B 18 _ (by exact S5.out) (by omega)).mono ?_; rintro e w4 ⟨q, rfl, hs4, hg4⟩; (first | (replace hg4 := undrew hg4) | skip); obtain ⟨⟨b0, b1, b2, b3⟩, f⟩ := SlBox_facts (SlBox_grown Q5.out (by exact hg4) (by omega)); obtain ⟨⟨c0, c1, c2, c3⟩, fz⟩ := SlBox_facts (SlBox_grown P5.out (by exact hg4) (by omega)); clear f; clear hs4; have B4 := Lib.hid (grown_below B5 (by exact hg4) (fun g hg => by injection hg with hg; omega)); clear hg4))
    | fail
  all_goals
    go_wp2
    (try simp only [Exit.inBlock, Exit.then])
    refine bodyPost_ret (v := .tuple #[.agg #[.int .i64 g, .int .i64 p, .int .i64 r, .int .i64 m], .int .i64 l, .int .i64 q]) ?_ rfl ⟨_, _, _, _, _, _, rfl, ?_⟩
    · simp [results, Tryz.results5, go_sem, c0, c1, c2, c3, fz]
    · exact (((B4.out.setCell (Nat.le_refl _) _).setCell (Nat.le_refl _) _).setCell (Nat.le_refl _) _).setCell (Nat.le_refl _) _

set_option maxHeartbeats 2000000 in
theorem drawLFo_any (A : Option Addr) (n cp : Nat) (w : World) (h : RdC w A n) (hn : n ≤ 1000000) :
    Calls Tryz.prog 8 #[.slice A n cp] w fun e w' => ∃ g p r m l : Int, e = .returned (.tuple #[.agg #[.int .i64 g, .int .i64 p, .int .i64 r, .int .i64 m], .int .i64 l]) ∧ Below w.heap.size w w' := by
  obtain ⟨hp0, hb0, hz0⟩ := SlNew 0 0 0 0 w
  have hc0 := RdC_kept h hb0
  clear h
  go_enter Tryz.func8, Tryz.ntmps8
  go_wp2_with fail
  generalize w.alloc (.cells #[.int .i64 0, .int .i64 0, .int .i64 0, .int .i64 0] 25) = u0 at *
  have P0 := Lib.hid hp0; clear hp0
  refine (askSl_any A n cp _ hc0 hn).mono ?_
  rintro e w1 ⟨g, p, r, m, l, rfl, hb1⟩
  obtain ⟨⟨c0, c1, c2, c3⟩, fz⟩ := SlBox_facts (SlBox_kept P0.out hb1)
  have B1 := Lib.hid (kept_trans hb0 hb1)
  clear hc0 hb1 hb0
  go_wp2
  (try simp only [Exit.inBlock, Exit.then])
  refine bodyPost_ret (v := .tuple #[.agg #[.int .i64 g, .int .i64 p, .int .i64 r, .int .i64 m], .int .i64 l]) ?_ rfl ⟨_, _, _, _, _, rfl, ?_⟩
  · simp [results, Tryz.results8, go_sem, c0, c1, c2, c3, fz]
  · exact (((B1.out.setCell (Nat.le_refl _) _).setCell (Nat.le_refl _) _).setCell (Nat.le_refl _) _).setCell (Nat.le_refl _) _

set_option maxHeartbeats 2000000 in
theorem drawST_any (A : Option Addr) (n cp : Nat) (w : World) (h : RdC w A n) (hn : n ≤ 1000000) :
    Calls Tryz.prog 17 #[.slice A n cp] w fun e w' => ∃ g p r m : Int, e = .returned (.agg #[.int .i64 g, .int .i64 p, .int .i64 r, .int .i64 m]) ∧ Below w.heap.size w w' := by
  obtain ⟨hp0, hb0, hz0⟩ := SlNew 0 0 0 0 w
  have hc0 := RdC_kept h hb0
  replace hz0 : w.heap.size < (w.alloc (.cells #[.int .i64 0, .int .i64 0, .int .i64 0, .int .i64 0] 25)).heap.size := by omega
  go_enter Tryz.func17, Tryz.ntmps17
  go_wp2_with fail
  generalize w.alloc (.cells #[.int .i64 0, .int .i64 0, .int .i64 0, .int .i64 0] 25) = u0 at *
  refine (from_any _ _ A n cp rfl).mono ?_
  rintro e w1 ⟨rfl, h1⟩
  have hs1 := Src_from (c := cp) hc0 hn
  have hb1 : Below u0.heap.size u0 w1 := by rw [← h1]; go_grown
  rw [h1] at hs1
  have P1 := Lib.hid (SlBox_kept hp0 hb1)
  have B1 := kept_trans hb0 hb1
  have S1 := Lib.hid hs1; clear hs1 hc0 hp0 h1 h hb0 hb1
  generalize hB : u0.heap.size = B at *
  have hB1 := Src_lt S1.out
  go_wp2_with fail
  refine (bentSl_any B B 0 _ S1.out (by omega)).mono ?_
  rintro e w2 ⟨g, p, r, m, rfl, hs2, hg2⟩
  obtain ⟨⟨c0, c1, c2, c3⟩, fz⟩ := SlBox_facts (SlBox_grown P1.out hg2 (by omega))
  have B2 := Lib.hid (grown_below B1 hg2 (fun g hg => by injection hg with hg; omega))
  clear hg2 hs2 B1
  go_wp2
  (try simp only [Exit.inBlock, Exit.then])
  refine bodyPost_ret (v := .agg #[.int .i64 g, .int .i64 p, .int .i64 r, .int .i64 m]) ?_ rfl ⟨_, _, _, _, rfl, ?_⟩
  · rw [results_cell1 rfl]
    go_simp
  · exact (((B2.out.setCell (Nat.le_refl _) _).setCell (Nat.le_refl _) _).setCell (Nat.le_refl _) _).setCell (Nat.le_refl _) _

set_option maxHeartbeats 2000000 in
theorem drawRS_any (A : Option Addr) (n cp : Nat) (w : World) (h : RdC w A n) (hn : n ≤ 1000000) :
    Calls Tryz.prog 21 #[.slice A n cp] w fun e w' => ∃ s : ByteArray, s.size ≤ 2000 ∧ e = .returned (.string s) ∧ Below w.heap.size w w' := by
  have HC := Lib.hid h; clear h
  go_enter Tryz.func21, Tryz.ntmps21
  go_wp2_with fail
  refine (from_any _ _ A n cp rfl).mono ?_
  rintro e w1 ⟨rfl, h1⟩
  have hs1 := Src_from (c := cp) HC.out hn
  have hb1 : Below w.heap.size w w1 := by rw [← h1]; go_grown
  rw [h1] at hs1
  have S1 := Lib.hid hs1; clear hs1 h1
  have hz1 := Src_lt S1.out
  go_wp2_with fail
  refine (drawSl_any w.heap.size w.heap.size 0 _ S1.out (by omega)).mono ?_
  rintro e w2 ⟨⟨g, p, r, m⟩, hok, rfl, hs2, hg2⟩
  dsimp only
  have B2 := grown_below hb1 hg2 (fun g hg => by injection hg with hg; omega)
  have hz2 := hg2.size
  clear hg2 hb1
  go_wp2_with fail
  obtain ⟨hq3, hb3, hz3⟩ := SlNew g p r m w2
  have S3 := Lib.hid (Src_below hs2 hb3)
  have B3 := kept_trans B2 hb3
  have T3 := Lib.hid (SlBox_at hq3)
  clear hb3 hs2 B2 hq3
  generalize hp1 : w2.heap.size = p1 at *
  generalize w2.alloc (.cells #[.int .i64 g, .int .i64 p, .int .i64 r, .int .i64 m] 25) = u3 at *
  have htz := txSl_sz hok
  refine (specTx_any p1 0 ⟨g, p, r, m⟩ _ T3.out hok).mono ?_
  rintro e w4 ⟨rfl, hb4⟩
  generalize (⟨(txSl ⟨g, p, r, m⟩).toArray⟩ : ByteArray) = t at *
  have S4 := Lib.hid (Src_below S3.out hb4)
  have B4 := kept_trans B3 hb4
  clear hb4 T3 S3 B3 hp1
  go_wp2_with fail
  refine (oneS_any w.heap.size w.heap.size 10 _ _ S4.out (by omega) (by omega)).mono ?_
  rintro e w5 ⟨b5, rfl, hs5, hg5⟩
  have S5 := Lib.hid hs5; clear hs5
  have B5 := grown_below B4 hg5 (fun g hg => by injection hg with hg; omega)
  clear hg5 B4
  cases b5
  · go_wp2
    go_ret
    exact ⟨_, by omega, rfl, B5⟩
  · go_wp2_with fail
    refine (spoilS_any w.heap.size w.heap.size 12 t (by omega) _ S5.out (by omega)).mono ?_
    rintro e w6 ⟨s, hs, rfl, hg6⟩
    have B6 := grown_below B5 hg6 (fun g hg => by injection hg with hg; omega)
    go_wp2
    go_ret
    exact ⟨_, hs, rfl, B6⟩

theorem fu_at {g p r m x U c : Int} (h : fuL g p r m x = (U, c)) (u : World) :
    Calls Tryz.prog 14 #[.agg #[.int .i64 g, .int .i64 p, .int .i64 r, .int .i64 m], .int .i64 x] u fun e w' => e = .returned (.tuple #[.int .i64 U, .int .i64 c]) ∧ Below u.heap.size u w' := by
  have k := implFU_any g p r m x u
  rw [h] at k
  exact k

theorem FrNew (x y : Int) (w : World) : FrBox (w.alloc (.cells #[.int .i64 x, .int .i64 y] 35)) w.heap.size x y ∧ Below w.heap.size w (w.alloc (.cells #[.int .i64 x, .int .i64 y] 35)) ∧ (w.alloc (.cells #[.int .i64 x, .int .i64 y] 35)).heap.size = w.heap.size + 1 := ⟨heap_alloc_new w _, by go_grown, by simp⟩

theorem fr_at {g p r m k fn fd c U e : Int} (h1 : lfL g p r m k = ((fn, fd), c)) (h2 : fuL g p r m k = (U, e)) (h0 : c = 0) : (0 ≤ U ∧ U ≤ 60000000) ∧ (1 ≤ fd ∧ fd ≤ 2400) ∧ fn ≤ U * fd ∧ (U - 1) * fd < fn := by
  have e1 : (lfL g p r m k).2 = 0 := by rw [h1]; exact h0
  obtain ⟨a, b, _, c1, d1, d2⟩ := fr_ok e1
  rw [h1] at c1 d1 d2
  rw [h2] at a
  have eU : U = slUp g p r k := (Prod.mk.inj a).1
  dsimp only at c1 d1 d2
  rw [← eU] at b d1 d2
  exact ⟨b, c1, d1, d2⟩

theorem lr_at {g p r m k q ln c : Int} (h : lrAll g p r m k q = (ln, c)) (h0 : c = 0) : ∃ U K, fuL g p ln m k = (U, 0) ∧ U ≤ q ∧ acL g p ln m = (K, 0) ∧ K < 3 := by
  have e1 : (lrAll g p r m k q).2 = 0 := by rw [h]; exact h0
  obtain ⟨_, a, b, c1, d⟩ := lr_ok e1
  rw [h] at a b c1 d
  exact ⟨_, _, a, b, c1, d⟩

theorem ac_at {g p r m K c : Int} (h : acL g p r m = (K, c)) (u : World) :
    Calls Tryz.prog 16 #[.agg #[.int .i64 g, .int .i64 p, .int .i64 r, .int .i64 m]] u fun e w' => e = .returned (.tuple #[.int .i64 K, .int .i64 c]) ∧ Below u.heap.size u w' := by
  have k := implAC_any g p r m u
  rw [h] at k
  exact k

/-- The text of a sling, and what is read from it. -/
theorem txe_at (g p r m : Int) : (slB g p r m = true ∧ (⟨(slTxL g p r m).toArray⟩ : ByteArray).toList.isEmpty = false ∧ readSl (slTxL g p r m) = (⟨g, p, r, m⟩, true)) ∨ ((⟨(slTxL g p r m).toArray⟩ : ByteArray).toList.isEmpty = true ∧ readSl (slTxL g p r m) = (⟨0, 0, 0, 0⟩, false)) := by
  have hr := readSl_tx g p r m
  rw [neB_str]
  by_cases h : slB g p r m = true
  · rw [if_pos h] at hr
    refine Or.inl ⟨h, ?_, hr⟩
    unfold slTxL
    rw [if_pos h]
    have : 1 ≤ (slText g p r m).length := by unfold slText; simp only [List.length_append, List.length_cons]; omega
    have h2 : neB ⟨(slText g p r m).toArray⟩ = true := by
      unfold neB
      rw [decide_eq_true_eq]
      have e : (⟨(slText g p r m).toArray⟩ : ByteArray).size = (slText g p r m).length := rfl
      rw [e]
      omega
    rw [h2]
    rfl
  · rw [if_neg h] at hr
    refine Or.inr ⟨?_, hr⟩
    unfold slTxL
    rw [if_neg h]
    rfl

theorem slTxL_sz (g p r m : Int) : (⟨(slTxL g p r m).toArray⟩ : ByteArray).size ≤ 100 := by
  unfold slTxL
  by_cases h : slB g p r m = true
  · rw [if_pos h]
    exact txSl_sz (z := ⟨g, p, r, m⟩) h
  · rw [if_neg h]
    exact Nat.zero_le _

theorem below_cell {w u : World} (h : Below w.heap.size w u) {p o : Nat} (hp : w.heap.size ≤ p) (v : Value) : Below w.heap.size w (u.setCell ⟨p, o, none⟩ v) := h.setCell hp v

theorem SlBox_put2 {w : World} {b : Nat} {g p r m : Int} (h : SlBox w b g p r m) (v : Int) : SlBox (w.setCell ⟨b, 2, none⟩ (.int .i64 v)) b g p v m := (SlBox_put h v).2.2.1

-- needs open_bytes
set_option maxRecDepth 1000000 in
set_option maxHeartbeats 20000000 in
theorem walk_FnSlings (w : World) (A : Option Addr) (n cp : Nat) (hr : RdC w A n) (hn : n ≤ maxLen) (ht : TextW w) :
    Calls Tryz.prog 3 #[.slice A n cp] w fun e w' => e = .returned (.bool true) ∧ Below w.heap.size w w' := by
  have HR := Lib.hid hr; clear hr hn
  have HT := Lib.hid ht; clear ht
  by_cases hbig : 4096 < n
  · go_enter Tryz.func3, Tryz.ntmps3
    go_wp2_with fail
    refine (f6big_any _ _ _ _).mono ?_
    rintro e w1 ⟨rfl, rfl⟩
    go_wp2
    go_ret
    exact ⟨rfl, Below.refl _ _⟩
  go_enter Tryz.func3, Tryz.ntmps3
  go_wp2_with fail
  refine (f6big_any _ _ _ _).mono ?_
  rintro e w1 ⟨rfl, rfl⟩
  have B0 := Lib.hid (Below.refl w.heap.size w)
  go_wp2_with fail
  refine (drawLR_any A n cp _ HR.out (by omega)).mono ?_
  rintro e w1 ⟨g1, p1, r1, m1, l, q, rfl, hb1⟩
  replace HR := Lib.hid (RdC_kept HR.out hb1)
  replace HT := Lib.hid (TextW_kept HT.out hb1)
  have B1 := Lib.hid (kept_trans B0.out hb1)
  clear hb1 B0
  have hLRI := fun u => implLR_any g1 p1 r1 m1 l q u
  have hLRS := fun u => specLR_any g1 p1 r1 m1 l q u
  have hVI := fun u => implSlV_any g1 p1 r1 m1 u
  have hVS := fun u => specSlV_any g1 p1 r1 m1 u
  have hlr := fun a c (h : lrAll g1 p1 r1 m1 l q = (a, c)) => lr_at h
  generalize lrAll g1 p1 r1 m1 l q = LR at *
  obtain ⟨ln, lc⟩ := LR
  dsimp only at hLRI hLRS
  have hlr2 := hlr ln lc rfl
  clear hlr
  generalize slB g1 p1 r1 m1 = vb at *
  have HLRI := Lib.hid hLRI; clear hLRI
  have HLRS := Lib.hid hLRS; clear hLRS
  have HVI := Lib.hid hVI; clear hVI
  have HVS := Lib.hid hVS; clear hVS
  have HLR := Lib.hid hlr2; clear hlr2
  go_wp2_with fail
  have hpx := B1.out.size
  obtain ⟨hqx2, hbx2, hzx2⟩ := SlNew g1 p1 r1 m1 w1
  replace HR := Lib.hid (RdC_kept HR.out hbx2)
  replace HT := Lib.hid (TextW_kept HT.out hbx2)
  have Bx2 := Lib.hid (kept_trans B1.out hbx2)
  clear hbx2 B1
  generalize hpx2 : w1.heap.size = px2 at *
  generalize w1.alloc (.cells #[.int .i64 g1, .int .i64 p1, .int .i64 r1, .int .i64 m1] 25) = ux2 at *
  have K3 := Lib.hid hqx2; clear hqx2 hpx2 hzx2
  refine (HLRI.out _).mono ?_
  rintro e w3 ⟨rfl, hb3⟩
  replace K3 := Lib.hid (SlBox_kept K3.out hb3)
  replace HR := Lib.hid (RdC_kept HR.out hb3)
  replace HT := Lib.hid (TextW_kept HT.out hb3)
  have B3 := Lib.hid (kept_trans Bx2.out hb3)
  clear hb3 Bx2
  obtain ⟨⟨a00, a01, a02, a03⟩, f⟩ := SlBox_facts K3.out
  clear f
  have hlt0 := SlBox_lt K3.out
  go_wp2_with fail
  clear a00 a01 a02 a03 hlt0
  refine (HLRS.out _).mono ?_
  rintro e w4 ⟨rfl, hb4⟩
  replace K3 := Lib.hid (SlBox_kept K3.out hb4)
  replace HR := Lib.hid (RdC_kept HR.out hb4)
  replace HT := Lib.hid (TextW_kept HT.out hb4)
  have B4 := Lib.hid (kept_trans B3.out hb4)
  clear hb4 B3
  go_wp2_with fail
  refine (drawLFo_any A n cp _ HR.out (by omega)).mono ?_
  rintro e w5 ⟨g2, p2, r2, m2, k, rfl, hb5⟩
  replace K3 := Lib.hid (SlBox_kept K3.out hb5)
  replace HR := Lib.hid (RdC_kept HR.out hb5)
  replace HT := Lib.hid (TextW_kept HT.out hb5)
  have B5 := Lib.hid (kept_trans B4.out hb5)
  clear hb5 B4
  have hACS := fun u => specAC_any g2 p2 r2 m2 u
  have hACI := fun u => implAC_any g2 p2 r2 m2 u
  have hLLS := fun u => specLL_any g2 p2 r2 m2 u
  have hLLI := fun u => implLL_any g2 p2 r2 m2 u
  have hFUS := fun u => specFU_any g2 p2 r2 m2 k u
  have hFUI := fun u => implFU_any g2 p2 r2 m2 k u
  have hLFS := fun u => specLF_any g2 p2 r2 m2 k u
  have hLFI := fun u => implLF_any g2 p2 r2 m2 k u
  have hfr := fun fn fd c U e (h1 : lfL g2 p2 r2 m2 k = ((fn, fd), c)) (h2 : fuL g2 p2 r2 m2 k = (U, e)) => fr_at h1 h2
  generalize acL g2 p2 r2 m2 = AC at *
  generalize llL g2 p2 r2 m2 = LL at *
  generalize fuL g2 p2 r2 m2 k = FU at *
  generalize lfL g2 p2 r2 m2 k = LF at *
  obtain ⟨ac, acc⟩ := AC
  obtain ⟨ll, llc⟩ := LL
  obtain ⟨fu, fuc⟩ := FU
  obtain ⟨⟨fn, fd⟩, fc⟩ := LF
  dsimp only at hACS hACI hLLS hLLI hFUS hFUI hLFS hLFI
  have hfr2 := hfr fn fd fc fu fuc rfl rfl
  clear hfr
  have HACS := Lib.hid hACS; clear hACS
  have HACI := Lib.hid hACI; clear hACI
  have HLLS := Lib.hid hLLS; clear hLLS
  have HLLI := Lib.hid hLLI; clear hLLI
  have HFUS := Lib.hid hFUS; clear hFUS
  have HFUI := Lib.hid hFUI; clear hFUI
  have HLFS := Lib.hid hLFS; clear hLFS
  have HLFI := Lib.hid hLFI; clear hLFI
  have HFR := Lib.hid hfr2; clear hfr2
  go_wp2_with fail
  obtain ⟨hqx6, hbx6, hzx6⟩ := SlNew g2 p2 r2 m2 w5
  replace K3 := Lib.hid (SlBox_kept K3.out hbx6)
  replace HR := Lib.hid (RdC_kept HR.out hbx6)
  replace HT := Lib.hid (TextW_kept HT.out hbx6)
  have Bx6 := Lib.hid (kept_trans B5.out hbx6)
  clear hbx6 B5
  generalize hpx6 : w5.heap.size = px6 at *
  generalize w5.alloc (.cells #[.int .i64 g2, .int .i64 p2, .int .i64 r2, .int .i64 m2] 25) = ux6 at *
  have K10 := Lib.hid hqx6; clear hqx6 hpx6 hzx6
  refine (HACS.out _).mono ?_
  rintro e w7 ⟨rfl, hb7⟩
  replace K3 := Lib.hid (SlBox_kept K3.out hb7)
  replace K10 := Lib.hid (SlBox_kept K10.out hb7)
  replace HR := Lib.hid (RdC_kept HR.out hb7)
  replace HT := Lib.hid (TextW_kept HT.out hb7)
  have B7 := Lib.hid (kept_trans Bx6.out hb7)
  clear hb7 Bx6
  obtain ⟨⟨a00, a01, a02, a03⟩, f⟩ := SlBox_facts K10.out
  clear f
  have hlt0 := SlBox_lt K10.out
  go_wp2_with fail
  clear a00 a01 a02 a03 hlt0
  refine (HLLS.out _).mono ?_
  rintro e w8 ⟨rfl, hb8⟩
  replace K3 := Lib.hid (SlBox_kept K3.out hb8)
  replace K10 := Lib.hid (SlBox_kept K10.out hb8)
  replace HR := Lib.hid (RdC_kept HR.out hb8)
  replace HT := Lib.hid (TextW_kept HT.out hb8)
  have B8 := Lib.hid (kept_trans B7.out hb8)
  clear hb8 B7
  obtain ⟨⟨a00, a01, a02, a03⟩, f⟩ := SlBox_facts K10.out
  clear f
  have hlt0 := SlBox_lt K10.out
  go_wp2_with fail
  clear a00 a01 a02 a03 hlt0
  refine (HFUS.out _).mono ?_
  rintro e w9 ⟨rfl, hb9⟩
  replace K3 := Lib.hid (SlBox_kept K3.out hb9)
  replace K10 := Lib.hid (SlBox_kept K10.out hb9)
  replace HR := Lib.hid (RdC_kept HR.out hb9)
  replace HT := Lib.hid (TextW_kept HT.out hb9)
  have B9 := Lib.hid (kept_trans B8.out hb9)
  clear hb9 B8
  obtain ⟨⟨a00, a01, a02, a03⟩, f⟩ := SlBox_facts K10.out
  clear f
  have hlt0 := SlBox_lt K10.out
  go_wp2_with fail
  clear a00 a01 a02 a03 hlt0
  refine (HLFS.out _).mono ?_
  rintro e w10 ⟨rfl, hb10⟩
  replace K3 := Lib.hid (SlBox_kept K3.out hb10)
  replace K10 := Lib.hid (SlBox_kept K10.out hb10)
  replace HR := Lib.hid (RdC_kept HR.out hb10)
  replace HT := Lib.hid (TextW_kept HT.out hb10)
  have B10 := Lib.hid (kept_trans B9.out hb10)
  clear hb10 B9
  obtain ⟨⟨a00, a01, a02, a03⟩, f⟩ := SlBox_facts K10.out
  clear f
  have hlt0 := SlBox_lt K10.out
  go_wp2_with fail
  clear a00 a01 a02 a03 hlt0
  obtain ⟨hqx11, hbx11, hzx11⟩ := FrNew fn fd w10
  replace K3 := Lib.hid (SlBox_kept K3.out hbx11)
  replace K10 := Lib.hid (SlBox_kept K10.out hbx11)
  replace HR := Lib.hid (RdC_kept HR.out hbx11)
  replace HT := Lib.hid (TextW_kept HT.out hbx11)
  have Bx11 := Lib.hid (kept_trans B10.out hbx11)
  clear hbx11 B10
  generalize hpx11 : w10.heap.size = px11 at *
  generalize w10.alloc (.cells #[.int .i64 fn, .int .i64 fd] 35) = ux11 at *
  have F18 := Lib.hid hqx11; clear hqx11 hpx11 hzx11
  refine (HLFI.out _).mono ?_
  rintro e w12 ⟨rfl, hb12⟩
  replace K3 := Lib.hid (SlBox_kept K3.out hb12)
  replace K10 := Lib.hid (SlBox_kept K10.out hb12)
  replace F18 := Lib.hid (FrBox_kept F18.out hb12)
  replace HR := Lib.hid (RdC_kept HR.out hb12)
  replace HT := Lib.hid (TextW_kept HT.out hb12)
  have B12 := Lib.hid (kept_trans Bx11.out hb12)
  clear hb12 Bx11
  obtain ⟨⟨a00, a01, a02, a03⟩, f⟩ := SlBox_facts K10.out
  clear f
  have hlt0 := SlBox_lt K10.out
  go_wp2_with fail
  clear a00 a01 a02 a03 hlt0
  obtain ⟨hqx13, hbx13, hzx13⟩ := FrNew fn fd w12
  replace K3 := Lib.hid (SlBox_kept K3.out hbx13)
  replace K10 := Lib.hid (SlBox_kept K10.out hbx13)
  replace F18 := Lib.hid (FrBox_kept F18.out hbx13)
  replace HR := Lib.hid (RdC_kept HR.out hbx13)
  replace HT := Lib.hid (TextW_kept HT.out hbx13)
  have Bx13 := Lib.hid (kept_trans B12.out hbx13)
  clear hbx13 B12
  generalize hpx13 : w12.heap.size = px13 at *
  generalize w12.alloc (.cells #[.int .i64 fn, .int .i64 fd] 35) = ux13 at *
  have F20 := Lib.hid hqx13; clear hqx13 hpx13 hzx13
  refine (HFUI.out _).mono ?_
  rintro e w14 ⟨rfl, hb14⟩
  replace K3 := Lib.hid (SlBox_kept K3.out hb14)
  replace K10 := Lib.hid (SlBox_kept K10.out hb14)
  replace F18 := Lib.hid (FrBox_kept F18.out hb14)
  replace F20 := Lib.hid (FrBox_kept F20.out hb14)
  replace HR := Lib.hid (RdC_kept HR.out hb14)
  replace HT := Lib.hid (TextW_kept HT.out hb14)
  have B14 := Lib.hid (kept_trans Bx13.out hb14)
  clear hb14 Bx13
  obtain ⟨⟨a00, a01, a02, a03⟩, f⟩ := SlBox_facts K10.out
  clear f
  have hlt0 := SlBox_lt K10.out
  go_wp2_with fail
  clear a00 a01 a02 a03 hlt0
  refine (HLLI.out _).mono ?_
  rintro e w15 ⟨rfl, hb15⟩
  replace K3 := Lib.hid (SlBox_kept K3.out hb15)
  replace K10 := Lib.hid (SlBox_kept K10.out hb15)
  replace F18 := Lib.hid (FrBox_kept F18.out hb15)
  replace F20 := Lib.hid (FrBox_kept F20.out hb15)
  replace HR := Lib.hid (RdC_kept HR.out hb15)
  replace HT := Lib.hid (TextW_kept HT.out hb15)
  have B15 := Lib.hid (kept_trans B14.out hb15)
  clear hb15 B14
  obtain ⟨⟨a00, a01, a02, a03⟩, f⟩ := SlBox_facts K10.out
  clear f
  have hlt0 := SlBox_lt K10.out
  go_wp2_with fail
  clear a00 a01 a02 a03 hlt0
  refine (HACI.out _).mono ?_
  rintro e w16 ⟨rfl, hb16⟩
  replace K3 := Lib.hid (SlBox_kept K3.out hb16)
  replace K10 := Lib.hid (SlBox_kept K10.out hb16)
  replace F18 := Lib.hid (FrBox_kept F18.out hb16)
  replace F20 := Lib.hid (FrBox_kept F20.out hb16)
  replace HR := Lib.hid (RdC_kept HR.out hb16)
  replace HT := Lib.hid (TextW_kept HT.out hb16)
  have B16 := Lib.hid (kept_trans B15.out hb16)
  clear hb16 B15
  go_wp2_with fail
  clear K10 HACS HLLS HFUS HLFS HLFI HFUI HLLI HACI HLRI HLRS
  refine (drawST_any A n cp _ HR.out (by omega)).mono ?_
  rintro e w17 ⟨g3, p3, r3, m3, rfl, hb17⟩
  replace K3 := Lib.hid (SlBox_kept K3.out hb17)
  replace F18 := Lib.hid (FrBox_kept F18.out hb17)
  replace F20 := Lib.hid (FrBox_kept F20.out hb17)
  replace HR := Lib.hid (RdC_kept HR.out hb17)
  replace HT := Lib.hid (TextW_kept HT.out hb17)
  have B17 := Lib.hid (kept_trans B16.out hb17)
  clear hb17 B16
  have hSTS := fun u => specST_any g3 p3 r3 m3 u
  have hSTI := fun u t => implST_any g3 p3 r3 m3 u t
  have hRX := fun u t => implRS_any (⟨(slTxL g3 p3 r3 m3).toArray⟩ : ByteArray) (by have := slTxL_sz g3 p3 r3 m3; omega) u t
  have htx := txe_at g3 p3 r3 m3
  rw [show (⟨(slTxL g3 p3 r3 m3).toArray⟩ : ByteArray).data.toList = slTxL g3 p3 r3 m3 from rfl] at hRX
  generalize readSl (slTxL g3 p3 r3 m3) = RX at *
  generalize (⟨(slTxL g3 p3 r3 m3).toArray⟩ : ByteArray) = tx at *
  obtain ⟨⟨g4, p4, r4, m4⟩, k4⟩ := RX
  dsimp only at hRX
  have HSTS := Lib.hid hSTS; clear hSTS
  have HSTI := Lib.hid hSTI; clear hSTI
  have HRX := Lib.hid hRX; clear hRX
  have HTX := Lib.hid htx; clear htx
  go_wp2_with fail
  obtain ⟨hqx18, hbx18, hzx18⟩ := SlNew g3 p3 r3 m3 w17
  replace K3 := Lib.hid (SlBox_kept K3.out hbx18)
  replace F18 := Lib.hid (FrBox_kept F18.out hbx18)
  replace F20 := Lib.hid (FrBox_kept F20.out hbx18)
  replace HR := Lib.hid (RdC_kept HR.out hbx18)
  replace HT := Lib.hid (TextW_kept HT.out hbx18)
  have Bx18 := Lib.hid (kept_trans B17.out hbx18)
  clear hbx18 B17
  generalize hpx18 : w17.heap.size = px18 at *
  generalize w17.alloc (.cells #[.int .i64 g3, .int .i64 p3, .int .i64 r3, .int .i64 m3] 25) = ux18 at *
  have K28 := Lib.hid hqx18; clear hqx18 hpx18 hzx18
  refine (HSTS.out _).mono ?_
  rintro e w19 ⟨rfl, hb19⟩
  replace K3 := Lib.hid (SlBox_kept K3.out hb19)
  replace F18 := Lib.hid (FrBox_kept F18.out hb19)
  replace F20 := Lib.hid (FrBox_kept F20.out hb19)
  replace K28 := Lib.hid (SlBox_kept K28.out hb19)
  replace HR := Lib.hid (RdC_kept HR.out hb19)
  replace HT := Lib.hid (TextW_kept HT.out hb19)
  have B19 := Lib.hid (kept_trans Bx18.out hb19)
  clear hb19 Bx18
  obtain ⟨⟨a00, a01, a02, a03⟩, f⟩ := SlBox_facts K28.out
  clear f
  have hlt0 := SlBox_lt K28.out
  go_wp2_with fail
  clear a00 a01 a02 a03 hlt0
  refine (HSTI.out _ HT.out.1).mono ?_
  rintro e w20 ⟨rfl, hb20⟩
  replace K3 := Lib.hid (SlBox_kept K3.out hb20)
  replace F18 := Lib.hid (FrBox_kept F18.out hb20)
  replace F20 := Lib.hid (FrBox_kept F20.out hb20)
  replace K28 := Lib.hid (SlBox_kept K28.out hb20)
  replace HR := Lib.hid (RdC_kept HR.out hb20)
  replace HT := Lib.hid (TextW_kept HT.out hb20)
  have B20 := Lib.hid (kept_trans B19.out hb20)
  clear hb20 B19
  go_wp2_with fail
  refine (HRX.out _ HT.out).mono ?_
  rintro e w21 ⟨rfl, hb21⟩
  replace K3 := Lib.hid (SlBox_kept K3.out hb21)
  replace F18 := Lib.hid (FrBox_kept F18.out hb21)
  replace F20 := Lib.hid (FrBox_kept F20.out hb21)
  replace K28 := Lib.hid (SlBox_kept K28.out hb21)
  replace HR := Lib.hid (RdC_kept HR.out hb21)
  replace HT := Lib.hid (TextW_kept HT.out hb21)
  have B21 := Lib.hid (kept_trans B20.out hb21)
  clear hb21 B20
  go_wp2_with fail
  obtain ⟨hqx22, hbx22, hzx22⟩ := SlNew g4 p4 r4 m4 w21
  replace K3 := Lib.hid (SlBox_kept K3.out hbx22)
  replace F18 := Lib.hid (FrBox_kept F18.out hbx22)
  replace F20 := Lib.hid (FrBox_kept F20.out hbx22)
  replace K28 := Lib.hid (SlBox_kept K28.out hbx22)
  replace HR := Lib.hid (RdC_kept HR.out hbx22)
  replace HT := Lib.hid (TextW_kept HT.out hbx22)
  have Bx22 := Lib.hid (kept_trans B21.out hbx22)
  clear hbx22 B21
  generalize hpx22 : w21.heap.size = px22 at *
  generalize w21.alloc (.cells #[.int .i64 g4, .int .i64 p4, .int .i64 r4, .int .i64 m4] 25) = ux22 at *
  have K31 := Lib.hid hqx22; clear hqx22 hpx22 hzx22
  refine (drawRS_any A n cp _ HR.out (by omega)).mono ?_
  rintro e w23 ⟨s, hs, rfl, hb23⟩
  clear HR
  replace K3 := Lib.hid (SlBox_kept K3.out hb23)
  replace F18 := Lib.hid (FrBox_kept F18.out hb23)
  replace F20 := Lib.hid (FrBox_kept F20.out hb23)
  replace K28 := Lib.hid (SlBox_kept K28.out hb23)
  replace K31 := Lib.hid (SlBox_kept K31.out hb23)
  replace HT := Lib.hid (TextW_kept HT.out hb23)
  have B23 := Lib.hid (kept_trans Bx22.out hb23)
  clear hb23 Bx22
  have hRS := fun u => specRS_any s (by omega) u
  have hRI := fun u t => implRS_any s (by omega) u t
  generalize readSl s.data.toList = RD at *
  obtain ⟨⟨g5, p5, r5, m5⟩, k5⟩ := RD
  dsimp only at hRS hRI
  have HRS := Lib.hid hRS; clear hRS
  have HRI := Lib.hid hRI; clear hRI
  go_wp2_with fail
  refine (HRS.out _).mono ?_
  rintro e w24 ⟨rfl, hb24⟩
  replace K3 := Lib.hid (SlBox_kept K3.out hb24)
  replace F18 := Lib.hid (FrBox_kept F18.out hb24)
  replace F20 := Lib.hid (FrBox_kept F20.out hb24)
  replace K28 := Lib.hid (SlBox_kept K28.out hb24)
  replace K31 := Lib.hid (SlBox_kept K31.out hb24)
  replace HT := Lib.hid (TextW_kept HT.out hb24)
  have B24 := Lib.hid (kept_trans B23.out hb24)
  clear hb24 B23
  go_wp2_with fail
  obtain ⟨hqx25, hbx25, hzx25⟩ := SlNew g5 p5 r5 m5 w24
  replace K3 := Lib.hid (SlBox_kept K3.out hbx25)
  replace F18 := Lib.hid (FrBox_kept F18.out hbx25)
  replace F20 := Lib.hid (FrBox_kept F20.out hbx25)
  replace K28 := Lib.hid (SlBox_kept K28.out hbx25)
  replace K31 := Lib.hid (SlBox_kept K31.out hbx25)
  replace HT := Lib.hid (TextW_kept HT.out hbx25)
  have Bx25 := Lib.hid (kept_trans B24.out hbx25)
  clear hbx25 B24
  generalize hpx25 : w24.heap.size = px25 at *
  generalize w24.alloc (.cells #[.int .i64 g5, .int .i64 p5, .int .i64 r5, .int .i64 m5] 25) = ux25 at *
  have K34 := Lib.hid hqx25; clear hqx25 hpx25 hzx25
  refine (HRI.out _ HT.out).mono ?_
  rintro e w26 ⟨rfl, hb26⟩
  replace K3 := Lib.hid (SlBox_kept K3.out hb26)
  replace F18 := Lib.hid (FrBox_kept F18.out hb26)
  replace F20 := Lib.hid (FrBox_kept F20.out hb26)
  replace K28 := Lib.hid (SlBox_kept K28.out hb26)
  replace K31 := Lib.hid (SlBox_kept K31.out hb26)
  replace K34 := Lib.hid (SlBox_kept K34.out hb26)
  have B26 := Lib.hid (kept_trans Bx25.out hb26)
  clear hb26 Bx25
  clear HT
  have HTX2 := HTX.out
  clear HTX
  rcases HTX2 with ⟨t1, t2, t3⟩ | ⟨t2, t3⟩
  · as_aux_lemma =>
    simp only [Prod.mk.injEq, Sl.mk.injEq] at t3
    obtain ⟨⟨rfl, rfl, rfl, rfl⟩, rfl⟩ := t3
    go_wp2_with fail
    obtain ⟨hqx27, hbx27, hzx27⟩ := SlNew g5 p5 r5 m5 w26
    replace K3 := Lib.hid (SlBox_kept K3.out hbx27)
    replace F18 := Lib.hid (FrBox_kept F18.out hbx27)
    replace F20 := Lib.hid (FrBox_kept F20.out hbx27)
    replace K28 := Lib.hid (SlBox_kept K28.out hbx27)
    replace K31 := Lib.hid (SlBox_kept K31.out hbx27)
    replace K34 := Lib.hid (SlBox_kept K34.out hbx27)
    have Bx27 := Lib.hid (kept_trans B26.out hbx27)
    clear hbx27 B26
    generalize hpx27 : w26.heap.size = px27 at *
    generalize w26.alloc (.cells #[.int .i64 g5, .int .i64 p5, .int .i64 r5, .int .i64 m5] 25) = ux27 at *
    have K36 := Lib.hid hqx27; clear hqx27 hpx27 hzx27
    obtain ⟨⟨c0, c1, c2, c3⟩, f⟩ := SlBox_facts K3.out
    clear f
    have hlt := SlBox_lt K3.out
    have yK30 := fun x : BelowBy ux27 => (kept_cell x.h _ _ hlt).trans c0
    have yK31 := fun x : BelowBy ux27 => (kept_cell x.h _ _ hlt).trans c1
    have yK32 := fun x : BelowBy ux27 => (kept_cell x.h _ _ hlt).trans c2
    have yK33 := fun x : BelowBy ux27 => (kept_cell x.h _ _ hlt).trans c3
    clear hlt c0 c1 c2 c3
    obtain ⟨c0, c1⟩ := FrBox_at F18.out
    have hlt := FrBox_lt F18.out
    have yF180 := fun x : BelowBy ux27 => (kept_cell x.h _ _ hlt).trans c0
    have yF181 := fun x : BelowBy ux27 => (kept_cell x.h _ _ hlt).trans c1
    clear hlt c0 c1
    obtain ⟨c0, c1⟩ := FrBox_at F20.out
    have hlt := FrBox_lt F20.out
    have yF200 := fun x : BelowBy ux27 => (kept_cell x.h _ _ hlt).trans c0
    have yF201 := fun x : BelowBy ux27 => (kept_cell x.h _ _ hlt).trans c1
    clear hlt c0 c1
    obtain ⟨⟨c0, c1, c2, c3⟩, f⟩ := SlBox_facts K28.out
    clear f
    have hlt := SlBox_lt K28.out
    have yK280 := fun x : BelowBy ux27 => (kept_cell x.h _ _ hlt).trans c0
    have yK281 := fun x : BelowBy ux27 => (kept_cell x.h _ _ hlt).trans c1
    have yK282 := fun x : BelowBy ux27 => (kept_cell x.h _ _ hlt).trans c2
    have yK283 := fun x : BelowBy ux27 => (kept_cell x.h _ _ hlt).trans c3
    clear hlt c0 c1 c2 c3
    obtain ⟨⟨c0, c1, c2, c3⟩, f⟩ := SlBox_facts K31.out
    clear f
    have hlt := SlBox_lt K31.out
    have yK310 := fun x : BelowBy ux27 => (kept_cell x.h _ _ hlt).trans c0
    have yK311 := fun x : BelowBy ux27 => (kept_cell x.h _ _ hlt).trans c1
    have yK312 := fun x : BelowBy ux27 => (kept_cell x.h _ _ hlt).trans c2
    have yK313 := fun x : BelowBy ux27 => (kept_cell x.h _ _ hlt).trans c3
    clear hlt c0 c1 c2 c3
    obtain ⟨⟨c0, c1, c2, c3⟩, f⟩ := SlBox_facts K34.out
    clear f
    have hlt := SlBox_lt K34.out
    have yK340 := fun x : BelowBy ux27 => (kept_cell x.h _ _ hlt).trans c0
    have yK341 := fun x : BelowBy ux27 => (kept_cell x.h _ _ hlt).trans c1
    have yK342 := fun x : BelowBy ux27 => (kept_cell x.h _ _ hlt).trans c2
    have yK343 := fun x : BelowBy ux27 => (kept_cell x.h _ _ hlt).trans c3
    clear hlt c0 c1 c2 c3
    obtain ⟨⟨c0, c1, c2, c3⟩, f⟩ := SlBox_facts K36.out
    clear f
    have hlt := SlBox_lt K36.out
    have yK360 := fun x : BelowBy ux27 => (kept_cell x.h _ _ hlt).trans c0
    have yK361 := fun x : BelowBy ux27 => (kept_cell x.h _ _ hlt).trans c1
    have yK362 := fun x : BelowBy ux27 => (kept_cell x.h _ _ hlt).trans c2
    have yK363 := fun x : BelowBy ux27 => (kept_cell x.h _ _ hlt).trans c3
    clear hlt c0 c1 c2 c3
    dsimp only [List.append]
    refine wp_region_below (by kernel_rfl) (by kernel_rfl) ?_
    repeat (go_big_quiet_step ((first | (go_at_call 23; exact below_call (fun _ => HVI.out _)) | (go_at_call 24; exact below_call (fun _ => HVS.out _)))))
    refine wpQuiet_nil ?_
    intro wq hw'
    obtain ⟨⟨_, hbq⟩, hwq⟩ := hw'
    subst hwq
    (try dsimp only)
    clear yK30 yK31 yK32 yK33 yF180 yF181 yF200 yF201 yK280 yK281 yK282 yK283 yK310 yK311 yK312 yK313 yK340 yK341 yK342 yK343 yK360 yK361 yK362 yK363
    clear HVI HVS K28 K31 K34 K36 F18
    replace K3 := Lib.hid (SlBox_kept K3.out hbq)
    replace F20 := Lib.hid (FrBox_kept F20.out hbq)
    have Bq := Lib.hid (kept_trans Bx27.out hbq)
    clear hbq Bx27
    by_cases hfc : fc = 0
    · as_aux_lemma =>
      obtain ⟨⟨b1, b2⟩, ⟨d1, d2⟩, e1, e2⟩ := HFR.out hfc
      subst hfc
      have pb := prodN_bd fu fd 60000000 2400 ⟨b1, b2⟩ ⟨by omega, d2⟩
      have pc := prodN_bd fd (fu - 1) 2400 60000000 ⟨by omega, d2⟩ ⟨by omega, by omega⟩
      rw [Int.mul_comm fd (fu - 1)] at pc
      have k1 : IntKind.i64.wrap (fu * fd) = fu * fd := IntWalk.i64_in _ (by omega)
      have k2 : IntKind.i64.wrap (fu - 1) = fu - 1 := IntWalk.i64_in _ (by omega)
      have k3 : IntKind.i64.wrap ((fu - 1) * fd) = (fu - 1) * fd := IntWalk.i64_in _ (by omega)
      have k4 : wrap64 (fu * fd) = fu * fd := IntWalk.wrap64_in _ (by omega)
      have k5' : wrap64 (fu - 1) = fu - 1 := IntWalk.wrap64_in _ (by omega)
      have k6 : wrap64 ((fu - 1) * fd) = (fu - 1) * fd := IntWalk.wrap64_in _ (by omega)
      have q1 : decide (fu * fd < fn) = false := by simp; omega
      have q2 : decide (fn ≤ (fu - 1) * fd) = false := by simp; omega
      clear pb pc
      obtain ⟨a00, a01⟩ := FrBox_at F20.out
      have hlt0 := FrBox_lt F20.out
      by_cases hlc : lc = 0
      · obtain ⟨U, K, f1, f2, f3, f4⟩ := HLR.out hlc
        have HF := Lib.hid (fun u => fu_at f1 u); clear f1
        have HA := Lib.hid (fun u => ac_at f3 u); clear f3
        subst hlc
        clear HLR
        have f2d : decide (U ≤ q) = true := by simpa using f2
        have f4d : decide (K < 3) = true := by simpa using f4
        obtain ⟨⟨a0, a1, a2, a3⟩, f⟩ := SlBox_facts K3.out
        have fz2 := f 2
        clear f
        go_wp2_with fail
        clear a0 a1 a2 a3 fz2
        clear a00 a01 hlt0 F20 k1 k2 k3 k4 k5' k6 q1 q2 e1 e2
        have hq40 := Lib.hid (SlBox_put2 K3.out ln)
        have B40 := Lib.hid (below_cell Bq.out (o := 2) hpx (.int .i64 ln))
        clear K3 Bq
        generalize wq.setCell ⟨px2, 2, none⟩ (.int .i64 ln) = u40 at *
        have K3 := hq40; clear hq40
        refine (HF.out _).mono ?_
        rintro e w28 ⟨rfl, hb28⟩
        replace K3 := Lib.hid (SlBox_kept K3.out hb28)
        have B28 := Lib.hid (kept_trans B40.out hb28)
        clear hb28 B40
        obtain ⟨⟨a00, a01, a02, a03⟩, f⟩ := SlBox_facts K3.out
        clear f
        have hlt0 := SlBox_lt K3.out
        go_wp2_with fail
        clear a00 a01 a02 a03 hlt0
        refine (HA.out _).mono ?_
        rintro e w29 ⟨rfl, hb29⟩
        replace K3 := Lib.hid (SlBox_kept K3.out hb29)
        have B29 := Lib.hid (kept_trans B28.out hb29)
        clear hb29 B28
        go_wp2
        go_ret
        exact ⟨by first | rfl | simp [f2d, f4d] | simp [f2, f4], B29.out⟩
      · have hcf : (lc == 0) = false := by simpa using hlc
        have hcg : (lc != 0) = true := by simpa using hlc
        go_wp2
        go_ret
        exact ⟨rfl, Bq.out⟩
    · as_aux_lemma =>
      have hfcf : (fc == 0) = false := by simpa using hfc
      clear F20
      by_cases hlc : lc = 0
      · obtain ⟨U, K, f1, f2, f3, f4⟩ := HLR.out hlc
        have HF := Lib.hid (fun u => fu_at f1 u); clear f1
        have HA := Lib.hid (fun u => ac_at f3 u); clear f3
        subst hlc
        clear HLR
        have f2d : decide (U ≤ q) = true := by simpa using f2
        have f4d : decide (K < 3) = true := by simpa using f4
        obtain ⟨⟨a0, a1, a2, a3⟩, f⟩ := SlBox_facts K3.out
        have fz2 := f 2
        clear f
        go_wp2_with fail
        clear a0 a1 a2 a3 fz2
        have hq40 := Lib.hid (SlBox_put2 K3.out ln)
        have B40 := Lib.hid (below_cell Bq.out (o := 2) hpx (.int .i64 ln))
        clear K3 Bq
        generalize wq.setCell ⟨px2, 2, none⟩ (.int .i64 ln) = u40 at *
        have K3 := hq40; clear hq40
        refine (HF.out _).mono ?_
        rintro e w28 ⟨rfl, hb28⟩
        replace K3 := Lib.hid (SlBox_kept K3.out hb28)
        have B28 := Lib.hid (kept_trans B40.out hb28)
        clear hb28 B40
        obtain ⟨⟨a00, a01, a02, a03⟩, f⟩ := SlBox_facts K3.out
        clear f
        have hlt0 := SlBox_lt K3.out
        go_wp2_with fail
        clear a00 a01 a02 a03 hlt0
        refine (HA.out _).mono ?_
        rintro e w29 ⟨rfl, hb29⟩
        replace K3 := Lib.hid (SlBox_kept K3.out hb29)
        have B29 := Lib.hid (kept_trans B28.out hb29)
        clear hb29 B28
        go_wp2
        go_ret
        exact ⟨by first | rfl | simp [f2d, f4d] | simp [f2, f4], B29.out⟩
      · have hcf : (lc == 0) = false := by simpa using hlc
        have hcg : (lc != 0) = true := by simpa using hlc
        go_wp2
        go_ret
        exact ⟨rfl, Bq.out⟩
  · as_aux_lemma =>
    simp only [Prod.mk.injEq, Sl.mk.injEq] at t3
    obtain ⟨⟨rfl, rfl, rfl, rfl⟩, rfl⟩ := t3
    go_wp2_with fail
    obtain ⟨hqx27, hbx27, hzx27⟩ := SlNew g5 p5 r5 m5 w26
    replace K3 := Lib.hid (SlBox_kept K3.out hbx27)
    replace F18 := Lib.hid (FrBox_kept F18.out hbx27)
    replace F20 := Lib.hid (FrBox_kept F20.out hbx27)
    replace K28 := Lib.hid (SlBox_kept K28.out hbx27)
    replace K31 := Lib.hid (SlBox_kept K31.out hbx27)
    replace K34 := Lib.hid (SlBox_kept K34.out hbx27)
    have Bx27 := Lib.hid (kept_trans B26.out hbx27)
    clear hbx27 B26
    generalize hpx27 : w26.heap.size = px27 at *
    generalize w26.alloc (.cells #[.int .i64 g5, .int .i64 p5, .int .i64 r5, .int .i64 m5] 25) = ux27 at *
    have K36 := Lib.hid hqx27; clear hqx27 hpx27 hzx27
    obtain ⟨⟨c0, c1, c2, c3⟩, f⟩ := SlBox_facts K3.out
    clear f
    have hlt := SlBox_lt K3.out
    have yK30 := fun x : BelowBy ux27 => (kept_cell x.h _ _ hlt).trans c0
    have yK31 := fun x : BelowBy ux27 => (kept_cell x.h _ _ hlt).trans c1
    have yK32 := fun x : BelowBy ux27 => (kept_cell x.h _ _ hlt).trans c2
    have yK33 := fun x : BelowBy ux27 => (kept_cell x.h _ _ hlt).trans c3
    clear hlt c0 c1 c2 c3
    obtain ⟨c0, c1⟩ := FrBox_at F18.out
    have hlt := FrBox_lt F18.out
    have yF180 := fun x : BelowBy ux27 => (kept_cell x.h _ _ hlt).trans c0
    have yF181 := fun x : BelowBy ux27 => (kept_cell x.h _ _ hlt).trans c1
    clear hlt c0 c1
    obtain ⟨c0, c1⟩ := FrBox_at F20.out
    have hlt := FrBox_lt F20.out
    have yF200 := fun x : BelowBy ux27 => (kept_cell x.h _ _ hlt).trans c0
    have yF201 := fun x : BelowBy ux27 => (kept_cell x.h _ _ hlt).trans c1
    clear hlt c0 c1
    obtain ⟨⟨c0, c1, c2, c3⟩, f⟩ := SlBox_facts K28.out
    clear f
    have hlt := SlBox_lt K28.out
    have yK280 := fun x : BelowBy ux27 => (kept_cell x.h _ _ hlt).trans c0
    have yK281 := fun x : BelowBy ux27 => (kept_cell x.h _ _ hlt).trans c1
    have yK282 := fun x : BelowBy ux27 => (kept_cell x.h _ _ hlt).trans c2
    have yK283 := fun x : BelowBy ux27 => (kept_cell x.h _ _ hlt).trans c3
    clear hlt c0 c1 c2 c3
    obtain ⟨⟨c0, c1, c2, c3⟩, f⟩ := SlBox_facts K31.out
    clear f
    have hlt := SlBox_lt K31.out
    have yK310 := fun x : BelowBy ux27 => (kept_cell x.h _ _ hlt).trans c0
    have yK311 := fun x : BelowBy ux27 => (kept_cell x.h _ _ hlt).trans c1
    have yK312 := fun x : BelowBy ux27 => (kept_cell x.h _ _ hlt).trans c2
    have yK313 := fun x : BelowBy ux27 => (kept_cell x.h _ _ hlt).trans c3
    clear hlt c0 c1 c2 c3
    obtain ⟨⟨c0, c1, c2, c3⟩, f⟩ := SlBox_facts K34.out
    clear f
    have hlt := SlBox_lt K34.out
    have yK340 := fun x : BelowBy ux27 => (kept_cell x.h _ _ hlt).trans c0
    have yK341 := fun x : BelowBy ux27 => (kept_cell x.h _ _ hlt).trans c1
    have yK342 := fun x : BelowBy ux27 => (kept_cell x.h _ _ hlt).trans c2
    have yK343 := fun x : BelowBy ux27 => (kept_cell x.h _ _ hlt).trans c3
    clear hlt c0 c1 c2 c3
    obtain ⟨⟨c0, c1, c2, c3⟩, f⟩ := SlBox_facts K36.out
    clear f
    have hlt := SlBox_lt K36.out
    have yK360 := fun x : BelowBy ux27 => (kept_cell x.h _ _ hlt).trans c0
    have yK361 := fun x : BelowBy ux27 => (kept_cell x.h _ _ hlt).trans c1
    have yK362 := fun x : BelowBy ux27 => (kept_cell x.h _ _ hlt).trans c2
    have yK363 := fun x : BelowBy ux27 => (kept_cell x.h _ _ hlt).trans c3
    clear hlt c0 c1 c2 c3
    dsimp only [List.append]
    refine wp_region_below (by kernel_rfl) (by kernel_rfl) ?_
    repeat (go_big_quiet_step ((first | (go_at_call 23; exact below_call (fun _ => HVI.out _)) | (go_at_call 24; exact below_call (fun _ => HVS.out _)))))
    refine wpQuiet_nil ?_
    intro wq hw'
    obtain ⟨⟨_, hbq⟩, hwq⟩ := hw'
    subst hwq
    (try dsimp only)
    clear yK30 yK31 yK32 yK33 yF180 yF181 yF200 yF201 yK280 yK281 yK282 yK283 yK310 yK311 yK312 yK313 yK340 yK341 yK342 yK343 yK360 yK361 yK362 yK363
    clear HVI HVS K28 K31 K34 K36 F18
    replace K3 := Lib.hid (SlBox_kept K3.out hbq)
    replace F20 := Lib.hid (FrBox_kept F20.out hbq)
    have Bq := Lib.hid (kept_trans Bx27.out hbq)
    clear hbq Bx27
    by_cases hfc : fc = 0
    · as_aux_lemma =>
      obtain ⟨⟨b1, b2⟩, ⟨d1, d2⟩, e1, e2⟩ := HFR.out hfc
      subst hfc
      have pb := prodN_bd fu fd 60000000 2400 ⟨b1, b2⟩ ⟨by omega, d2⟩
      have pc := prodN_bd fd (fu - 1) 2400 60000000 ⟨by omega, d2⟩ ⟨by omega, by omega⟩
      rw [Int.mul_comm fd (fu - 1)] at pc
      have k1 : IntKind.i64.wrap (fu * fd) = fu * fd := IntWalk.i64_in _ (by omega)
      have k2 : IntKind.i64.wrap (fu - 1) = fu - 1 := IntWalk.i64_in _ (by omega)
      have k3 : IntKind.i64.wrap ((fu - 1) * fd) = (fu - 1) * fd := IntWalk.i64_in _ (by omega)
      have k4 : wrap64 (fu * fd) = fu * fd := IntWalk.wrap64_in _ (by omega)
      have k5' : wrap64 (fu - 1) = fu - 1 := IntWalk.wrap64_in _ (by omega)
      have k6 : wrap64 ((fu - 1) * fd) = (fu - 1) * fd := IntWalk.wrap64_in _ (by omega)
      have q1 : decide (fu * fd < fn) = false := by simp; omega
      have q2 : decide (fn ≤ (fu - 1) * fd) = false := by simp; omega
      clear pb pc
      obtain ⟨a00, a01⟩ := FrBox_at F20.out
      have hlt0 := FrBox_lt F20.out
      by_cases hlc : lc = 0
      · obtain ⟨U, K, f1, f2, f3, f4⟩ := HLR.out hlc
        have HF := Lib.hid (fun u => fu_at f1 u); clear f1
        have HA := Lib.hid (fun u => ac_at f3 u); clear f3
        subst hlc
        clear HLR
        have f2d : decide (U ≤ q) = true := by simpa using f2
        have f4d : decide (K < 3) = true := by simpa using f4
        obtain ⟨⟨a0, a1, a2, a3⟩, f⟩ := SlBox_facts K3.out
        have fz2 := f 2
        clear f
        go_wp2_with fail
        clear a0 a1 a2 a3 fz2
        clear a00 a01 hlt0 F20 k1 k2 k3 k4 k5' k6 q1 q2 e1 e2
        have hq40 := Lib.hid (SlBox_put2 K3.out ln)
        have B40 := Lib.hid (below_cell Bq.out (o := 2) hpx (.int .i64 ln))
        clear K3 Bq
        generalize wq.setCell ⟨px2, 2, none⟩ (.int .i64 ln) = u40 at *
        have K3 := hq40; clear hq40
        refine (HF.out _).mono ?_
        rintro e w28 ⟨rfl, hb28⟩
        replace K3 := Lib.hid (SlBox_kept K3.out hb28)
        have B28 := Lib.hid (kept_trans B40.out hb28)
        clear hb28 B40
        obtain ⟨⟨a00, a01, a02, a03⟩, f⟩ := SlBox_facts K3.out
        clear f
        have hlt0 := SlBox_lt K3.out
        go_wp2_with fail
        clear a00 a01 a02 a03 hlt0
        refine (HA.out _).mono ?_
        rintro e w29 ⟨rfl, hb29⟩
        replace K3 := Lib.hid (SlBox_kept K3.out hb29)
        have B29 := Lib.hid (kept_trans B28.out hb29)
        clear hb29 B28
        go_wp2
        go_ret
        exact ⟨by first | rfl | simp [f2d, f4d] | simp [f2, f4], B29.out⟩
      · have hcf : (lc == 0) = false := by simpa using hlc
        have hcg : (lc != 0) = true := by simpa using hlc
        go_wp2
        go_ret
        exact ⟨rfl, Bq.out⟩
    · as_aux_lemma =>
      have hfcf : (fc == 0) = false := by simpa using hfc
      clear F20
      by_cases hlc : lc = 0
      · obtain ⟨U, K, f1, f2, f3, f4⟩ := HLR.out hlc
        have HF := Lib.hid (fun u => fu_at f1 u); clear f1
        have HA := Lib.hid (fun u => ac_at f3 u); clear f3
        subst hlc
        clear HLR
        have f2d : decide (U ≤ q) = true := by simpa using f2
        have f4d : decide (K < 3) = true := by simpa using f4
        obtain ⟨⟨a0, a1, a2, a3⟩, f⟩ := SlBox_facts K3.out
        have fz2 := f 2
        clear f
        go_wp2_with fail
        clear a0 a1 a2 a3 fz2
        have hq40 := Lib.hid (SlBox_put2 K3.out ln)
        have B40 := Lib.hid (below_cell Bq.out (o := 2) hpx (.int .i64 ln))
        clear K3 Bq
        generalize wq.setCell ⟨px2, 2, none⟩ (.int .i64 ln) = u40 at *
        have K3 := hq40; clear hq40
        refine (HF.out _).mono ?_
        rintro e w28 ⟨rfl, hb28⟩
        replace K3 := Lib.hid (SlBox_kept K3.out hb28)
        have B28 := Lib.hid (kept_trans B40.out hb28)
        clear hb28 B40
        obtain ⟨⟨a00, a01, a02, a03⟩, f⟩ := SlBox_facts K3.out
        clear f
        have hlt0 := SlBox_lt K3.out
        go_wp2_with fail
        clear a00 a01 a02 a03 hlt0
        refine (HA.out _).mono ?_
        rintro e w29 ⟨rfl, hb29⟩
        replace K3 := Lib.hid (SlBox_kept K3.out hb29)
        have B29 := Lib.hid (kept_trans B28.out hb29)
        clear hb29 B28
        go_wp2
        go_ret
        exact ⟨by first | rfl | simp [f2d, f4d] | simp [f2, f4], B29.out⟩
      · have hcf : (lc == 0) = false := by simpa using hlc
        have hcg : (lc != 0) = true := by simpa using hlc
        go_wp2
        go_ret
        exact ⟨rfl, Bq.out⟩

end Go.Proofs.YtedmpjgpgbmolaaGreatDoor
