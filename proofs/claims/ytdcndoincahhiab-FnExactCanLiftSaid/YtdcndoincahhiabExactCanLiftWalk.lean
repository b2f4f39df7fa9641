import Derived.Test.YtdcndoincahhiabRows
import Derived.WalkKit
import Derived.ProofKit
import Derived.OpenShut
import Derived.Lib.Hide
import Derived.Handy
import Derived.BigQuiet
import Derived.Carry
import Derived.Deep.DeepCutAuto
import Derived.Deep.QuietTactic
import Derived.Deep.RegionHeld3
import Derived.Deep.SlicePairs
import Derived.Laws.RangeAny
import Derived.Lib.SmallJoins
import Derived.Shelf.Abstract
import Derived.Lib.SmallJoins
import Derived.ChangeMaps5
import Derived.Test.YtdcndoincahhiabExactCanLiftWalka
namespace Go.Proofs.Ytdcndoincahhiab
open Go.ChangeShapes Go.WideShapes Go.ChangeAt Go.RowKit
set_option linter.unusedVariables false
set_option linter.unusedSimpArgs false


set_option maxRecDepth 100000 in
set_option maxHeartbeats 8000000 in
theorem walk_FnExactCanLift (w : World) (k : Cr) (c : Value) (hr : RdP w c k.ch) (hk : wfK k) (l : Lf) (d : Value) (hl : RdI w d l.af) (hlk : wfLf l) :
    Calls Try.prog 7 #[.agg #[.string k.nm, .int .i64 k.x, .int .i64 k.y, .int .i64 k.h, .int .i64 k.j, .int .i64 k.b, c], .agg #[.string l.nm, .int .i64 l.wt, .int .i64 l.fx, .int .i64 l.fy, .int .i64 l.tx, .int .i64 l.ty, .int .i64 l.h, .int .i64 l.dl, d]] w fun e w' => e = .returned (.bool true) ∧ Below w.heap.size w w' := by
  obtain ⟨A, cp, rfl, _, _⟩ := RdP_slice hr
  obtain ⟨AL, cpl, rfl, hll, _⟩ := RdI_slice hl
  have H := Lib.hid hr; clear hr
  have HL := Lib.hid hl; clear hl
  have hsz := hk.1
  have hsl := hlk.1
  clear hk hlk
  by_cases hfit : (k.nm.size : Int) + (k.ch.length : Int) ≤ 1000000
  case neg =>
    have HZ := Lib.hid (fun u q => szK_over k (.slice A k.ch.length cp) u hsz q hfit)
    obtain ⟨s, x, y, hh, j, b, zs⟩ := k
    obtain ⟨ls, i1, i2, i3, i4, i5, i6, i7, us⟩ := l
    dsimp only at *
    go_enter Try.func7, Try.ntmps7
    go_wp2_with fail
    refine (HZ.out _ (RdP_kept H.out (by go_grown))).mono ?_
    rintro e w1 ⟨rfl, b1⟩
    replace b1 := kept_trans (a := w) (by go_grown) b1
    have l1 := kept_cell b1
    have zz1 := b1.size
    go_wp2
    go_ret
    exact ⟨rfl, b1⟩
  have HZ := Lib.hid (fun u q => szK_fit k (.slice A k.ch.length cp) u hsz q hfit)
  have HZL := fun u q => szLf_any l (.slice AL l.af.length cpl) (1000000 - k.nm.size - k.ch.length) (by omega) hsl u q
  have hle : (0 : Int) ≤ 1000000 - k.nm.size - k.ch.length := by omega
  by_cases hfl : (l.nm.size : Int) + (l.af.length : Int) ≤ 1000000 - k.nm.size - k.ch.length
  case neg =>
    unfold szLf at HZL
    simp only [if_neg hfl] at HZL
    have HZL := Lib.hid HZL
    clear hfl hfit
    obtain ⟨s, x, y, hh, j, b, zs⟩ := k
    obtain ⟨ls, i1, i2, i3, i4, i5, i6, i7, us⟩ := l
    dsimp only at *
    go_enter Try.func7, Try.ntmps7
    go_wp2_with fail
    refine (HZ.out _ (RdP_kept H.out (by go_grown))).mono ?_
    rintro e w1 ⟨rfl, b1⟩
    refine kept_at b1 (w.heap.size + 1) (by go_size) fun c1_0 z1_0 s1_0 => ?_
    replace b1 := kept_trans (a := w) (by go_grown) b1
    have l1 := kept_cell b1
    have zz1 := b1.size
    go_wp2_with fail
    refine (HZL.out _ (RdI_kept HL.out (by first | exact b1 | go_grown))).mono ?_
    rintro e w2 ⟨rfl, b2⟩
    replace b2 := kept_trans (a := w) (by go_grown) b2
    have l2 := kept_cell b2
    have zz2 := b2.size
    go_wp2
    go_ret
    exact ⟨rfl, b2⟩
  unfold szLf at HZL
  simp only [if_pos hfl] at HZL
  have HZL := Lib.hid HZL
  have hle2 : (0 : Int) ≤ 1000000 - k.nm.size - k.ch.length - l.nm.size - l.af.length := by omega
  have HF := Lib.hid (fun u (q : RdP u (.slice A k.ch.length cp) k.ch) => toK_false k _ u q (by omega))
  have HT := Lib.hid (fun u (q : RdP u (.slice A k.ch.length cp) k.ch) => toK_true k _ u q (by omega))
  have LF := Lib.hid (fun u (q : RdI u (.slice AL l.af.length cpl) l.af) => toLf_false l _ u q (by omega))
  have LT := Lib.hid (fun u (q : RdI u (.slice AL l.af.length cpl) l.af) => toLf_true l _ u q (by omega))
  have hks : k.nm.size ≤ 1000000 := by omega
  have hls : l.nm.size ≤ 1000000 := by omega
  have HS := Lib.hid (fun c d u (q : RdP u c k.ch) (p : RdI u d l.af) => specCanLift_any k l c d u q p hks hls)
  have HV := Lib.hid (fun c d u (q : RdP u c k.ch) (p : RdI u d l.af) => implCanLift_any k l c d u q p hks hls)
  have HX := Lib.hid (fun c1 c2 lo1 hi1 lo2 hi2 u h1 h2 => intactK_same k c1 c2 lo1 hi1 lo2 hi2 u h1 h2)
  have LX := Lib.hid (fun c1 c2 lo1 hi1 lo2 hi2 u h1 h2 => intactLf_same l c1 c2 lo1 hi1 lo2 hi2 u h1 h2)
  clear hfit hfl
  generalize (craneB k && fldB l && can9 k l) = R at *
  obtain ⟨ra, rfl⟩ : ∃ ra, ra = R := ⟨_, rfl⟩
  obtain ⟨s, x, y, hh, j, b, zs⟩ := k
  obtain ⟨ls, i1, i2, i3, i4, i5, i6, i7, us⟩ := l
  dsimp only at *
  go_enter Try.func7, Try.ntmps7
  go_wp2_with fail
  refine (HZ.out _ (RdP_kept H.out (by go_grown))).mono ?_
  rintro e w1 ⟨rfl, b1⟩
  refine kept_at b1 (w.heap.size) (by go_size) fun c1_0 z1_0 s1_0 => ?_
  refine kept_at b1 (w.heap.size + 1) (by go_size) fun c1_1 z1_1 s1_1 => ?_
  replace b1 := kept_trans (a := w) (by go_grown) b1
  have l1 := kept_cell b1
  have zz1 := b1.size
  go_wp2_with fail
  refine (HZL.out _ (RdI_kept HL.out (by first | exact b1 | go_grown))).mono ?_
  rintro e w2 ⟨rfl, b2⟩
  refine kept_at b2 (w.heap.size) (by go_size) fun c2_0 z2_0 s2_0 => ?_
  refine kept_at b2 (w.heap.size + 1) (by go_size) fun c2_1 z2_1 s2_1 => ?_
  replace b2 := kept_trans (a := w) (by go_grown) b2
  have l2 := kept_cell b2
  have zz2 := b2.size
  have p0 : w2.cell? ⟨w.heap.size, 0, none⟩ = some (.string s) := by rw [c2_0, c1_0]; first | (simp; done) | (go_simp; done)
  have p1 : w2.cell? ⟨w.heap.size, 1, none⟩ = some (.int .i64 x) := by rw [c2_0, c1_0]; first | (simp; done) | (go_simp; done)
  have p2 : w2.cell? ⟨w.heap.size, 2, none⟩ = some (.int .i64 y) := by rw [c2_0, c1_0]; first | (simp; done) | (go_simp; done)
  have p3 : w2.cell? ⟨w.heap.size, 3, none⟩ = some (.int .i64 hh) := by rw [c2_0, c1_0]; first | (simp; done) | (go_simp; done)
  have p4 : w2.cell? ⟨w.heap.size, 4, none⟩ = some (.int .i64 j) := by rw [c2_0, c1_0]; first | (simp; done) | (go_simp; done)
  have p5 : w2.cell? ⟨w.heap.size, 5, none⟩ = some (.int .i64 b) := by rw [c2_0, c1_0]; first | (simp; done) | (go_simp; done)
  have p6 : w2.cell? ⟨w.heap.size, 6, none⟩ = some (.slice A zs.length cp) := by rw [c2_0, c1_0]; first | (simp; done) | (go_simp; done)
  have q0 : w2.cell? ⟨w.heap.size + 1, 0, none⟩ = some (.string ls) := by rw [c2_1, c1_1]; first | (simp; done) | (go_simp; done)
  have q1 : w2.cell? ⟨w.heap.size + 1, 1, none⟩ = some (.int .i64 i1) := by rw [c2_1, c1_1]; first | (simp; done) | (go_simp; done)
  have q2 : w2.cell? ⟨w.heap.size + 1, 2, none⟩ = some (.int .i64 i2) := by rw [c2_1, c1_1]; first | (simp; done) | (go_simp; done)
  have q3 : w2.cell? ⟨w.heap.size + 1, 3, none⟩ = some (.int .i64 i3) := by rw [c2_1, c1_1]; first | (simp; done) | (go_simp; done)
  have q4 : w2.cell? ⟨w.heap.size + 1, 4, none⟩ = some (.int .i64 i4) := by rw [c2_1, c1_1]; first | (simp; done) | (go_simp; done)
  have q5 : w2.cell? ⟨w.heap.size + 1, 5, none⟩ = some (.int .i64 i5) := by rw [c2_1, c1_1]; first | (simp; done) | (go_simp; done)
  have q6 : w2.cell? ⟨w.heap.size + 1, 6, none⟩ = some (.int .i64 i6) := by rw [c2_1, c1_1]; first | (simp; done) | (go_simp; done)
  have q7 : w2.cell? ⟨w.heap.size + 1, 7, none⟩ = some (.int .i64 i7) := by rw [c2_1, c1_1]; first | (simp; done) | (go_simp; done)
  have q8 : w2.cell? ⟨w.heap.size + 1, 8, none⟩ = some (.slice AL us.length cpl) := by rw [c2_1, c1_1]; first | (simp; done) | (go_simp; done)
  have l0 : w.heap.size < w2.heap.size := s2_0
  have l1 : w.heap.size + 1 < w2.heap.size := s2_1
  clear c1_0 z1_0 s1_0 c1_1 z1_1 s1_1 c2_0 z2_0 s2_0 c2_1 z2_1 s2_1
  have hzw2 : w2.heap.size ≤ w2.heap.size := Nat.le_refl _
  go_wp2_with fail
  go_cut [6] (fun s0 w' => s0 = .bool ra ∧ Below w2.heap.size w2 w')
  case first =>
    go_region_with (first
      | (go_at_call 30; refine (HS.out _ _ _ (RdP_kept hy1 hy3) hy2).mono ?_; rintro e wz ⟨rfl, hbz⟩; have kz := kept_trans (a := w2) (kept_trans ky (by go_grown)) hbz)
      | (go_at_call 24; refine (LF.out _ (RdI_kept HL.out (kept_trans b2 (kept_trans kx (by go_grown))))).mono ?_; rintro e wy ⟨cy, rfl, hcy, hby⟩; have hy2 := CopyI_rd hcy; obtain ⟨Ay, cpy, rfl, _, _⟩ := RdI_slice hy2; have hy3 := kept_trans (a := wx) (by go_grown) hby; have ky := kept_trans (a := w2) (kept_trans kx (by go_grown)) hby)
      | (go_at_call 23; refine (HF.out _ (RdP_kept H.out (kept_trans b2 (by go_grown)))).mono ?_; rintro e wx ⟨cx, rfl, hcx, hbx⟩; have hy1 := CopyC_rd hcx; obtain ⟨Ax, cpx, rfl, _, _⟩ := RdP_slice hy1; have kx := kept_trans (a := w2) (by go_grown) hbx; have lx0 := Nat.lt_of_lt_of_le l0 (Nat.le_trans hzw2 kx.size); have lx1 := Nat.lt_of_lt_of_le l1 (Nat.le_trans hzw2 kx.size); have gx0 : wx.cell? ⟨w.heap.size + 1, 0, none⟩ = some (.string ls) := (kept_cell kx _ _ (Nat.lt_of_lt_of_le l1 hzw2)).trans q0; have gx1 : wx.cell? ⟨w.heap.size + 1, 1, none⟩ = some (.int .i64 i1) := (kept_cell kx _ _ (Nat.lt_of_lt_of_le l1 hzw2)).trans q1; have gx2 : wx.cell? ⟨w.heap.size + 1, 2, none⟩ = some (.int .i64 i2) := (kept_cell kx _ _ (Nat.lt_of_lt_of_le l1 hzw2)).trans q2; have gx3 : wx.cell? ⟨w.heap.size + 1, 3, none⟩ = some (.int .i64 i3) := (kept_cell kx _ _ (Nat.lt_of_lt_of_le l1 hzw2)).trans q3; have gx4 : wx.cell? ⟨w.heap.size + 1, 4, none⟩ = some (.int .i64 i4) := (kept_cell kx _ _ (Nat.lt_of_lt_of_le l1 hzw2)).trans q4; have gx5 : wx.cell? ⟨w.heap.size + 1, 5, none⟩ = some (.int .i64 i5) := (kept_cell kx _ _ (Nat.lt_of_lt_of_le l1 hzw2)).trans q5; have gx6 : wx.cell? ⟨w.heap.size + 1, 6, none⟩ = some (.int .i64 i6) := (kept_cell kx _ _ (Nat.lt_of_lt_of_le l1 hzw2)).trans q6; have gx7 : wx.cell? ⟨w.heap.size + 1, 7, none⟩ = some (.int .i64 i7) := (kept_cell kx _ _ (Nat.lt_of_lt_of_le l1 hzw2)).trans q7; have gx8 : wx.cell? ⟨w.heap.size + 1, 8, none⟩ = some (.slice AL us.length cpl) := (kept_cell kx _ _ (Nat.lt_of_lt_of_le l1 hzw2)).trans q8)
      )
    all_goals
      go_wp2_with fail
      go_meet
      case rel => exact ⟨rfl, kz⟩
  case rest =>
  obtain ⟨rfl, hb3⟩ := hcut
  have b3 := kept_trans b2 hb3
  have hzc := hb3.size
  have l0c := Nat.lt_of_lt_of_le l0 (Below.size hb3)
  have l1c := Nat.lt_of_lt_of_le l1 (Below.size hb3)
  have p0c := (kept_cell hb3 _ 0 l0).trans p0
  have p1c := (kept_cell hb3 _ 1 l0).trans p1
  have p2c := (kept_cell hb3 _ 2 l0).trans p2
  have p3c := (kept_cell hb3 _ 3 l0).trans p3
  have p4c := (kept_cell hb3 _ 4 l0).trans p4
  have p5c := (kept_cell hb3 _ 5 l0).trans p5
  have p6c := (kept_cell hb3 _ 6 l0).trans p6
  have q0c := (kept_cell hb3 _ 0 l1).trans q0
  have q1c := (kept_cell hb3 _ 1 l1).trans q1
  have q2c := (kept_cell hb3 _ 2 l1).trans q2
  have q3c := (kept_cell hb3 _ 3 l1).trans q3
  have q4c := (kept_cell hb3 _ 4 l1).trans q4
  have q5c := (kept_cell hb3 _ 5 l1).trans q5
  have q6c := (kept_cell hb3 _ 6 l1).trans q6
  have q7c := (kept_cell hb3 _ 7 l1).trans q7
  have q8c := (kept_cell hb3 _ 8 l1).trans q8
  go_wp2_with fail
  refine (HF.out _ (RdP_kept H.out b3)).mono ?_
  rintro e w4 ⟨c4, rfl, hc4, hb4⟩
  obtain ⟨A4, cp4, rfl, _, _⟩ := RdP_slice (CopyC_rd hc4)
  have k4 := kept_trans hb3 hb4
  have hz4 := k4.size
  clear l0c l1c p0c p1c p2c p3c p4c p5c p6c q0c q1c q2c q3c q4c q5c q6c q7c q8c
  have l0d := Nat.lt_of_lt_of_le l0 (Below.size k4)
  have l1d := Nat.lt_of_lt_of_le l1 (Below.size k4)
  have p0d := (kept_cell k4 _ 0 l0).trans p0
  have p1d := (kept_cell k4 _ 1 l0).trans p1
  have p2d := (kept_cell k4 _ 2 l0).trans p2
  have p3d := (kept_cell k4 _ 3 l0).trans p3
  have p4d := (kept_cell k4 _ 4 l0).trans p4
  have p5d := (kept_cell k4 _ 5 l0).trans p5
  have p6d := (kept_cell k4 _ 6 l0).trans p6
  have q0d := (kept_cell k4 _ 0 l1).trans q0
  have q1d := (kept_cell k4 _ 1 l1).trans q1
  have q2d := (kept_cell k4 _ 2 l1).trans q2
  have q3d := (kept_cell k4 _ 3 l1).trans q3
  have q4d := (kept_cell k4 _ 4 l1).trans q4
  have q5d := (kept_cell k4 _ 5 l1).trans q5
  have q6d := (kept_cell k4 _ 6 l1).trans q6
  have q7d := (kept_cell k4 _ 7 l1).trans q7
  have q8d := (kept_cell k4 _ 8 l1).trans q8
  have HC4 := Lib.hid hc4; clear hc4
  go_wp2_with fail
  refine (LF.out _ (RdI_kept HL.out (kept_trans b3 (kept_trans hb4 (by go_grown))))).mono ?_
  rintro e w5 ⟨c5, rfl, hc5, hb5⟩
  obtain ⟨A5, cp5, rfl, _, _⟩ := RdI_slice (CopyI_rd hc5)
  refine kept_at hb5 w4.heap.size (by go_size) fun c5_0 z5_0 s5_0 => ?_
  have e0 : w5.cell? ⟨w4.heap.size, 0, none⟩ = some (.string s) := by rw [c5_0]; first | (simp; done) | (go_simp; done)
  have e1 : w5.cell? ⟨w4.heap.size, 1, none⟩ = some (.int .i64 x) := by rw [c5_0]; first | (simp; done) | (go_simp; done)
  have e2 : w5.cell? ⟨w4.heap.size, 2, none⟩ = some (.int .i64 y) := by rw [c5_0]; first | (simp; done) | (go_simp; done)
  have e3 : w5.cell? ⟨w4.heap.size, 3, none⟩ = some (.int .i64 hh) := by rw [c5_0]; first | (simp; done) | (go_simp; done)
  have e4 : w5.cell? ⟨w4.heap.size, 4, none⟩ = some (.int .i64 j) := by rw [c5_0]; first | (simp; done) | (go_simp; done)
  have e5 : w5.cell? ⟨w4.heap.size, 5, none⟩ = some (.int .i64 b) := by rw [c5_0]; first | (simp; done) | (go_simp; done)
  have e6 : w5.cell? ⟨w4.heap.size, 6, none⟩ = some (.slice A4 zs.length cp4) := by rw [c5_0]; first | (simp; done) | (go_simp; done)
  have k45 := kept_trans (a := w4) (by go_grown) hb5
  have k5 := kept_trans k4 k45
  have hz5 := k5.size
  clear l0d l1d p0d p1d p2d p3d p4d p5d p6d q0d q1d q2d q3d q4d q5d q6d q7d q8d
  have l0e := Nat.lt_of_lt_of_le l0 (Below.size k5)
  have l1e := Nat.lt_of_lt_of_le l1 (Below.size k5)
  have p0e := (kept_cell k5 _ 0 l0).trans p0
  have p1e := (kept_cell k5 _ 1 l0).trans p1
  have p2e := (kept_cell k5 _ 2 l0).trans p2
  have p3e := (kept_cell k5 _ 3 l0).trans p3
  have p4e := (kept_cell k5 _ 4 l0).trans p4
  have p5e := (kept_cell k5 _ 5 l0).trans p5
  have p6e := (kept_cell k5 _ 6 l0).trans p6
  have q0e := (kept_cell k5 _ 0 l1).trans q0
  have q1e := (kept_cell k5 _ 1 l1).trans q1
  have q2e := (kept_cell k5 _ 2 l1).trans q2
  have q3e := (kept_cell k5 _ 3 l1).trans q3
  have q4e := (kept_cell k5 _ 4 l1).trans q4
  have q5e := (kept_cell k5 _ 5 l1).trans q5
  have q6e := (kept_cell k5 _ 6 l1).trans q6
  have q7e := (kept_cell k5 _ 7 l1).trans q7
  have q8e := (kept_cell k5 _ 8 l1).trans q8
  clear c5_0 z5_0
  have HC5 := Lib.hid hc5; clear hc5
  replace HC4 := Lib.hid (CopyC_kept HC4.out k45)
  go_wp2_with fail
  refine (HV.out _ _ _ (RdP_kept (CopyC_rd HC4.out) (by go_grown)) (RdI_kept (CopyI_rd HC5.out) (by go_grown))).mono ?_
  rintro e w6 ⟨rfl, hb6⟩
  refine kept_at hb6 w5.heap.size (by go_size) fun c6_0 z6_0 s6_0 => ?_
  have g0 : w6.cell? ⟨w5.heap.size, 0, none⟩ = some (.string ls) := by rw [c6_0]; first | (simp; done) | (go_simp; done)
  have g1 : w6.cell? ⟨w5.heap.size, 1, none⟩ = some (.int .i64 i1) := by rw [c6_0]; first | (simp; done) | (go_simp; done)
  have g2 : w6.cell? ⟨w5.heap.size, 2, none⟩ = some (.int .i64 i2) := by rw [c6_0]; first | (simp; done) | (go_simp; done)
  have g3 : w6.cell? ⟨w5.heap.size, 3, none⟩ = some (.int .i64 i3) := by rw [c6_0]; first | (simp; done) | (go_simp; done)
  have g4 : w6.cell? ⟨w5.heap.size, 4, none⟩ = some (.int .i64 i4) := by rw [c6_0]; first | (simp; done) | (go_simp; done)
  have g5 : w6.cell? ⟨w5.heap.size, 5, none⟩ = some (.int .i64 i5) := by rw [c6_0]; first | (simp; done) | (go_simp; done)
  have g6 : w6.cell? ⟨w5.heap.size, 6, none⟩ = some (.int .i64 i6) := by rw [c6_0]; first | (simp; done) | (go_simp; done)
  have g7 : w6.cell? ⟨w5.heap.size, 7, none⟩ = some (.int .i64 i7) := by rw [c6_0]; first | (simp; done) | (go_simp; done)
  have g8 : w6.cell? ⟨w5.heap.size, 8, none⟩ = some (.slice A5 us.length cp5) := by rw [c6_0]; first | (simp; done) | (go_simp; done)
  have k56 := kept_trans (a := w5) (by go_grown) hb6
  have k6 := kept_trans k5 k56
  have hz6 := k6.size
  have e60 := kept_cell k56 w4.heap.size
  clear l0e l1e p0e p1e p2e p3e p4e p5e p6e q0e q1e q2e q3e q4e q5e q6e q7e q8e
  have l0f := Nat.lt_of_lt_of_le l0 (Below.size k6)
  have l1f := Nat.lt_of_lt_of_le l1 (Below.size k6)
  have p0f := (kept_cell k6 _ 0 l0).trans p0
  have p1f := (kept_cell k6 _ 1 l0).trans p1
  have p2f := (kept_cell k6 _ 2 l0).trans p2
  have p3f := (kept_cell k6 _ 3 l0).trans p3
  have p4f := (kept_cell k6 _ 4 l0).trans p4
  have p5f := (kept_cell k6 _ 5 l0).trans p5
  have p6f := (kept_cell k6 _ 6 l0).trans p6
  have q0f := (kept_cell k6 _ 0 l1).trans q0
  have q1f := (kept_cell k6 _ 1 l1).trans q1
  have q2f := (kept_cell k6 _ 2 l1).trans q2
  have q3f := (kept_cell k6 _ 3 l1).trans q3
  have q4f := (kept_cell k6 _ 4 l1).trans q4
  have q5f := (kept_cell k6 _ 5 l1).trans q5
  have q6f := (kept_cell k6 _ 6 l1).trans q6
  have q7f := (kept_cell k6 _ 7 l1).trans q7
  have q8f := (kept_cell k6 _ 8 l1).trans q8
  have h0 : w6.cell? ⟨w4.heap.size, 0, none⟩ = some (.string s) := (kept_cell k56 _ _ s5_0).trans e0
  have h1 : w6.cell? ⟨w4.heap.size, 1, none⟩ = some (.int .i64 x) := (kept_cell k56 _ _ s5_0).trans e1
  have h2 : w6.cell? ⟨w4.heap.size, 2, none⟩ = some (.int .i64 y) := (kept_cell k56 _ _ s5_0).trans e2
  have h3 : w6.cell? ⟨w4.heap.size, 3, none⟩ = some (.int .i64 hh) := (kept_cell k56 _ _ s5_0).trans e3
  have h4 : w6.cell? ⟨w4.heap.size, 4, none⟩ = some (.int .i64 j) := (kept_cell k56 _ _ s5_0).trans e4
  have h5 : w6.cell? ⟨w4.heap.size, 5, none⟩ = some (.int .i64 b) := (kept_cell k56 _ _ s5_0).trans e5
  have h6 : w6.cell? ⟨w4.heap.size, 6, none⟩ = some (.slice A4 zs.length cp4) := (kept_cell k56 _ _ s5_0).trans e6
  clear c6_0 z6_0 e60 e0 e1 e2 e3 e4 e5 e6
  replace HC4 := Lib.hid (CopyC_kept HC4.out k56)
  replace HC5 := Lib.hid (CopyI_kept HC5.out k56)
  have s6_4 : w4.heap.size < w6.heap.size := Nat.lt_of_lt_of_le s5_0 k56.size
  go_wp2_with fail
  go_cut [40] (fun sa w' => sa = .bool false ∧ Below w6.heap.size w6 w')
  case first =>
    go_region_with (first
        | (go_at_call 23; refine (HF.out _ (RdP_kept H.out (kept_trans b2 (kept_trans k6 (by go_grown))))).mono ?_; rintro e w7 ⟨c7, rfl, hc7, hb7⟩; have k7 := kept_trans (a := w6) (by go_grown) hb7; have h70 := (kept_cell k7 _ _ s6_4).trans h0; have h71 := (kept_cell k7 _ _ s6_4).trans h1; have h72 := (kept_cell k7 _ _ s6_4).trans h2; have h73 := (kept_cell k7 _ _ s6_4).trans h3; have h74 := (kept_cell k7 _ _ s6_4).trans h4; have h75 := (kept_cell k7 _ _ s6_4).trans h5; have h76 := (kept_cell k7 _ _ s6_4).trans h6)
        | (go_at_call 26; refine (HX.out _ _ _ _ _ _ _ (CopyC_kept HC4.out (kept_trans k7 (by go_grown))) (CopyC_kept hc7 (by go_grown))).mono ?_; rintro e w8 ⟨rfl, hb8⟩; have k8 := kept_trans (kept_trans k7 (by go_grown)) hb8))
    all_goals
      go_wp2_with fail
      go_meet
      case rel => exact ⟨rfl, k8⟩
  case rest =>
  obtain ⟨rfl, hb8⟩ := hcut
  have k8 := kept_trans k6 hb8
  have hz8 := k8.size
  clear l0f l1f p0f p1f p2f p3f p4f p5f p6f q0f q1f q2f q3f q4f q5f q6f q7f q8f
  have l0h := Nat.lt_of_lt_of_le l0 (Below.size k8)
  have l1h := Nat.lt_of_lt_of_le l1 (Below.size k8)
  have p0h := (kept_cell k8 _ 0 l0).trans p0
  have p1h := (kept_cell k8 _ 1 l0).trans p1
  have p2h := (kept_cell k8 _ 2 l0).trans p2
  have p3h := (kept_cell k8 _ 3 l0).trans p3
  have p4h := (kept_cell k8 _ 4 l0).trans p4
  have p5h := (kept_cell k8 _ 5 l0).trans p5
  have p6h := (kept_cell k8 _ 6 l0).trans p6
  have q0h := (kept_cell k8 _ 0 l1).trans q0
  have q1h := (kept_cell k8 _ 1 l1).trans q1
  have q2h := (kept_cell k8 _ 2 l1).trans q2
  have q3h := (kept_cell k8 _ 3 l1).trans q3
  have q4h := (kept_cell k8 _ 4 l1).trans q4
  have q5h := (kept_cell k8 _ 5 l1).trans q5
  have q6h := (kept_cell k8 _ 6 l1).trans q6
  have q7h := (kept_cell k8 _ 7 l1).trans q7
  have q8h := (kept_cell k8 _ 8 l1).trans q8
  have gg0 := (kept_cell hb8 _ _ s6_0).trans g0
  have gg1 := (kept_cell hb8 _ _ s6_0).trans g1
  have gg2 := (kept_cell hb8 _ _ s6_0).trans g2
  have gg3 := (kept_cell hb8 _ _ s6_0).trans g3
  have gg4 := (kept_cell hb8 _ _ s6_0).trans g4
  have gg5 := (kept_cell hb8 _ _ s6_0).trans g5
  have gg6 := (kept_cell hb8 _ _ s6_0).trans g6
  have gg7 := (kept_cell hb8 _ _ s6_0).trans g7
  have gg8 := (kept_cell hb8 _ _ s6_0).trans g8
  clear h0 h1 h2 h3 h4 h5 h6 g0 g1 g2 g3 g4 g5 g6 g7 g8
  replace HC5 := Lib.hid (CopyI_kept HC5.out hb8)
  have s8_5 : w5.heap.size < wc.heap.size := Nat.lt_of_lt_of_le s6_0 hb8.size
  go_wp2_with fail
  go_cut [45] (fun sa w' => sa = .bool false ∧ Below wc.heap.size wc w')
  case first =>
    go_region_with (first
        | (go_at_call 24; refine (LF.out _ (RdI_kept HL.out (kept_trans b2 (kept_trans k8 (by go_grown))))).mono ?_; rintro e w9 ⟨c9, rfl, hc9, hb9⟩; have k9 := kept_trans (a := wc) (by go_grown) hb9; have g90 := (kept_cell k9 _ _ s8_5).trans gg0; have g91 := (kept_cell k9 _ _ s8_5).trans gg1; have g92 := (kept_cell k9 _ _ s8_5).trans gg2; have g93 := (kept_cell k9 _ _ s8_5).trans gg3; have g94 := (kept_cell k9 _ _ s8_5).trans gg4; have g95 := (kept_cell k9 _ _ s8_5).trans gg5; have g96 := (kept_cell k9 _ _ s8_5).trans gg6; have g97 := (kept_cell k9 _ _ s8_5).trans gg7; have g98 := (kept_cell k9 _ _ s8_5).trans gg8)
        | (go_at_call 27; refine (LX.out _ _ _ _ _ _ _ (CopyI_kept HC5.out (kept_trans k9 (by go_grown))) (CopyI_kept hc9 (by go_grown))).mono ?_; rintro e w10 ⟨rfl, hb10⟩; have k10 := kept_trans (kept_trans k9 (by go_grown)) hb10))
    all_goals
      go_wp2_with fail
      go_meet
      case rel => exact ⟨rfl, k10⟩
  case rest =>
  obtain ⟨rfl, hb11⟩ := hcut
  have k11 := kept_trans k8 hb11
  have b11 := kept_trans b2 k11
  have hzwc := k11.size
  clear l0h l1h p0h p1h p2h p3h p4h p5h p6h q0h q1h q2h q3h q4h q5h q6h q7h q8h
  have l0i := Nat.lt_of_lt_of_le l0 (Below.size k11)
  have l1i := Nat.lt_of_lt_of_le l1 (Below.size k11)
  have p0i := (kept_cell k11 _ 0 l0).trans p0
  have p1i := (kept_cell k11 _ 1 l0).trans p1
  have p2i := (kept_cell k11 _ 2 l0).trans p2
  have p3i := (kept_cell k11 _ 3 l0).trans p3
  have p4i := (kept_cell k11 _ 4 l0).trans p4
  have p5i := (kept_cell k11 _ 5 l0).trans p5
  have p6i := (kept_cell k11 _ 6 l0).trans p6
  have q0i := (kept_cell k11 _ 0 l1).trans q0
  have q1i := (kept_cell k11 _ 1 l1).trans q1
  have q2i := (kept_cell k11 _ 2 l1).trans q2
  have q3i := (kept_cell k11 _ 3 l1).trans q3
  have q4i := (kept_cell k11 _ 4 l1).trans q4
  have q5i := (kept_cell k11 _ 5 l1).trans q5
  have q6i := (kept_cell k11 _ 6 l1).trans q6
  have q7i := (kept_cell k11 _ 7 l1).trans q7
  have q8i := (kept_cell k11 _ 8 l1).trans q8
  clear gg0 gg1 gg2 gg3 gg4 gg5 gg6 gg7 gg8
  go_wp2_with fail
  go_cut [10] (fun s0 w' => s0 = .bool ra ∧ Below wc.heap.size wc w')
  case first =>
    go_region_with (first
      | (go_at_call 31; refine (HV.out _ _ _ (RdP_kept hy1 hy3) hy2).mono ?_; rintro e wz ⟨rfl, hbz⟩; have kz := kept_trans (a := wc) (kept_trans ky (by go_grown)) hbz)
      | (go_at_call 24; refine (LT.out _ (RdI_kept HL.out (kept_trans b11 (kept_trans kx (by go_grown))))).mono ?_; rintro e wy ⟨cy, rfl, hcy, hby⟩; have hy2 := RowI_rd hcy; obtain ⟨Ay, cpy, rfl, _, _⟩ := RdI_slice hy2; have hy3 := kept_trans (a := wx) (by go_grown) hby; have ky := kept_trans (a := wc) (kept_trans kx (by go_grown)) hby)
      | (go_at_call 23; refine (HT.out _ (RdP_kept H.out (kept_trans b11 (by go_grown)))).mono ?_; rintro e wx ⟨cx, rfl, hcx, hbx⟩; have hy1 := RowF_rd hcx; obtain ⟨Ax, cpx, rfl, _, _⟩ := RdP_slice hy1; have kx := kept_trans (a := wc) (by go_grown) hbx; have lx0 := Nat.lt_of_lt_of_le l0 (Nat.le_trans hzwc kx.size); have lx1 := Nat.lt_of_lt_of_le l1 (Nat.le_trans hzwc kx.size); have gx0 : wx.cell? ⟨w.heap.size + 1, 0, none⟩ = some (.string ls) := (kept_cell kx _ _ (Nat.lt_of_lt_of_le l1 hzwc)).trans q0i; have gx1 : wx.cell? ⟨w.heap.size + 1, 1, none⟩ = some (.int .i64 i1) := (kept_cell kx _ _ (Nat.lt_of_lt_of_le l1 hzwc)).trans q1i; have gx2 : wx.cell? ⟨w.heap.size + 1, 2, none⟩ = some (.int .i64 i2) := (kept_cell kx _ _ (Nat.lt_of_lt_of_le l1 hzwc)).trans q2i; have gx3 : wx.cell? ⟨w.heap.size + 1, 3, none⟩ = some (.int .i64 i3) := (kept_cell kx _ _ (Nat.lt_of_lt_of_le l1 hzwc)).trans q3i; have gx4 : wx.cell? ⟨w.heap.size + 1, 4, none⟩ = some (.int .i64 i4) := (kept_cell kx _ _ (Nat.lt_of_lt_of_le l1 hzwc)).trans q4i; have gx5 : wx.cell? ⟨w.heap.size + 1, 5, none⟩ = some (.int .i64 i5) := (kept_cell kx _ _ (Nat.lt_of_lt_of_le l1 hzwc)).trans q5i; have gx6 : wx.cell? ⟨w.heap.size + 1, 6, none⟩ = some (.int .i64 i6) := (kept_cell kx _ _ (Nat.lt_of_lt_of_le l1 hzwc)).trans q6i; have gx7 : wx.cell? ⟨w.heap.size + 1, 7, none⟩ = some (.int .i64 i7) := (kept_cell kx _ _ (Nat.lt_of_lt_of_le l1 hzwc)).trans q7i; have gx8 : wx.cell? ⟨w.heap.size + 1, 8, none⟩ = some (.slice AL us.length cpl) := (kept_cell kx _ _ (Nat.lt_of_lt_of_le l1 hzwc)).trans q8i)
      )
    all_goals
      go_wp2_with fail
      go_meet
      case rel => exact ⟨rfl, kz⟩
  case rest =>
  obtain ⟨rfl, hb12⟩ := hcut
  have b12 := kept_trans b11 hb12
  go_wp2
  go_ret
  exact ⟨rfl, b12⟩

end Go.Proofs.Ytdcndoincahhiab
