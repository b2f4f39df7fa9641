import Derived.Test.YtnflaeimiegepabGreatDoorRows
import Derived.WalkKit
import Derived.ProofKit
import Derived.OpenShut
import Derived.Lib.Hide
import Derived.Handy
import Derived.BigQuiet
import Derived.Carry
import Derived.Deep.DeepCutAuto
import Derived.Deep.QuietTactic
import Derived.Deep.RegionHeld3
import Derived.Deep.SlicePairs
import Derived.Laws.RangeAny
import Derived.Lib.ItoaLen
import Derived.Lib.ItoaNum
import Derived.Lib.LaidU8
import Derived.Lib.SmallJoins
import Derived.LoopIn
import Derived.LoopNIn
import Derived.Maps.AppendAt
import Derived.Maps.OwnIn
import Derived.OwnWalk
import Derived.OwnWalkIn
import Derived.RangeFuncBound
import Derived.RangeFuncBox
import Derived.RangeFuncCalls
import Derived.RangeFuncFrom
import Derived.RangeFuncLeaves
import Derived.RangeFuncNested
import Derived.Shelf.Abstract
import Derived.Shelf.RegionOpen
import Derived.TacticsInMore
import Derived.Test.YtnflaeimiegepabGreatDoorCards
import Derived.Test.YtnflaeimiegepabGreatDoorTie
import Derived.Lib.SmallJoins
import Derived.ChangeMaps5
import Derived.Deep.DeepHandedRow
import Derived.Deep.DeepWitnessRowRef
import Derived.Lib.LaidTab
import Derived.SevenTiedAt
import Derived.Test.YtnflaeimiegepabGreatDoorExactAblesOfWalkb
namespace Go.Proofs.YtnflaeimiegepabGreatDoor
open Go.ChangeShapes Go.WideShapes Go.ChangeAt Go.RowKit
set_option linter.unusedVariables false
set_option linter.unusedSimpArgs false


set_option maxRecDepth 100000 in
set_option maxHeartbeats 20000000 in
theorem walk_FnExactAblesOf (w : World) (c0 : Value) (ks0 : List (Cr × Value)) (hr0 : RdK w c0 ks0) (hk0 : wfS ks0) (l1 : Lf) (c1 : Value) (hr1 : RdI w c1 l1.af) (hk1 : wfLf l1) (ht : Ers w) :
    Calls Tryz.prog 3 #[.agg #[c0], .agg #[.string l1.nm, .int .i64 l1.wt, .int .i64 l1.fx, .int .i64 l1.fy, .int .i64 l1.tx, .int .i64 l1.ty, .int .i64 l1.h, .int .i64 l1.dl, c1]] w fun e w' => e = .returned (.bool true) ∧ Below w.heap.size w w' := by
  have HTX := Lib.hid ht; clear ht
  obtain ⟨A0, cp0, rfl, _⟩ := RdK_at hr0
  have H0 := Lib.hid hr0; clear hr0
  obtain ⟨hk0, hkl0⟩ := hk0
  unfold maxLen at hkl0
  obtain ⟨A1, cp1, rfl, _, _⟩ := RdI_slice hr1
  have H1 := Lib.hid hr1; clear hr1
  have hsz1 := hk1.1
  clear hk1
  have HZ0 := fun u q => szS_any (.slice A0 ks0.length cp0) ks0 1000000 u q (by omega) hk0
  by_cases hfit : (ks0.length : Int) + totK ks0 ≤ 1000000
  case neg =>
    simp only [if_neg hfit] at HZ0
    have HZ0 := Lib.hid HZ0
    clear hfit
    obtain ⟨ls1, i1_1, i2_1, i3_1, i4_1, i5_1, i6_1, i7_1, us1⟩ := l1
    (try dsimp only at *)
    go_enter Tryz.func3, Tryz.ntmps3
    go_wp2_with fail
    refine (HZ0.out _ (RdK_kept H0.out (by go_grown))).mono ?_
    rintro e w1 ⟨rfl, hb1⟩
    have b1 := kept_trans (a := w) (by first | exact Below.refl _ _ | go_grown) hb1
    go_wp2
    go_ret
    exact ⟨rfl, b1⟩
  simp only [if_pos hfit] at HZ0
  have HZ0 := Lib.hid HZ0
  have hn0 : ks0.length ≤ 1000000 := by omega
  have hch0 : ∀ p ∈ ks0, p.1.ch.length ≤ 1000000 := fun p hp => by have := totK_mem hp; omega
  have hnm0 : ∀ p ∈ ks0, p.1.nm.size ≤ 1000000 := fun p hp => by have := totK_mem hp; omega
  have HF0 := Lib.hid (fun u (q : RdK u (.slice A0 ks0.length cp0) ks0) => toS_false _ ks0 u q hn0 hch0)
  have HT0 := Lib.hid (fun u (q : RdK u (.slice A0 ks0.length cp0) ks0) => toS_true _ ks0 u q hn0 hch0)
  have HX0 := Lib.hid (fun c1 c2 lo1 hi1 lo2 hi2 u h1 h2 => intactS_same (ks0.map (·.1)) c1 c2 lo1 hi1 lo2 hi2 u h1 h2)
  have hle1 : (0 : Int) ≤ 1000000 - ks0.length - totK ks0 := by omega
  have HZ1 := fun u q => szLf_any l1 (.slice A1 l1.af.length cp1) (1000000 - ks0.length - totK ks0) (by omega) hsz1 u q
  by_cases hfl : (l1.nm.size : Int) + (l1.af.length : Int) ≤ 1000000 - ks0.length - totK ks0
  case neg =>
    unfold szLf at HZ1
    simp only [if_neg hfl] at HZ1
    have HZ1 := Lib.hid HZ1
    clear hfl hfit
    obtain ⟨ls1, i1_1, i2_1, i3_1, i4_1, i5_1, i6_1, i7_1, us1⟩ := l1
    (try dsimp only at *)
    go_enter Tryz.func3, Tryz.ntmps3
    go_wp2_with fail
    refine (HZ0.out _ (RdK_kept H0.out (by go_grown))).mono ?_
    rintro e w1 ⟨rfl, hb1⟩
    have b1 := kept_trans (a := w) (by first | exact Below.refl _ _ | go_grown) hb1
    have KZ : BoxR w1 (w.heap.size + 1) [.string ls1, .int .i64 i1_1, .int .i64 i2_1, .int .i64 i3_1, .int .i64 i4_1, .int .i64 i5_1, .int .i64 i6_1, .int .i64 i7_1, .slice A1 us1.length cp1] := BoxR_kept ((BoxR_new' (by simp))) hb1
    have z1_0 : w1.cell? ⟨w.heap.size + 1, 0, none⟩ = some (.string ls1) := (KZ).2 0 _ rfl
    have z1_1 : w1.cell? ⟨w.heap.size + 1, 1, none⟩ = some (.int .i64 i1_1) := (KZ).2 1 _ rfl
    have z1_2 : w1.cell? ⟨w.heap.size + 1, 2, none⟩ = some (.int .i64 i2_1) := (KZ).2 2 _ rfl
    have z1_3 : w1.cell? ⟨w.heap.size + 1, 3, none⟩ = some (.int .i64 i3_1) := (KZ).2 3 _ rfl
    have z1_4 : w1.cell? ⟨w.heap.size + 1, 4, none⟩ = some (.int .i64 i4_1) := (KZ).2 4 _ rfl
    have z1_5 : w1.cell? ⟨w.heap.size + 1, 5, none⟩ = some (.int .i64 i5_1) := (KZ).2 5 _ rfl
    have z1_6 : w1.cell? ⟨w.heap.size + 1, 6, none⟩ = some (.int .i64 i6_1) := (KZ).2 6 _ rfl
    have z1_7 : w1.cell? ⟨w.heap.size + 1, 7, none⟩ = some (.int .i64 i7_1) := (KZ).2 7 _ rfl
    have z1_8 : w1.cell? ⟨w.heap.size + 1, 8, none⟩ = some (.slice A1 us1.length cp1) := (KZ).2 8 _ rfl
    have z1_s : w.heap.size + 1 < w1.heap.size := (KZ).1
    go_wp2_with fail
    refine (HZ1.out _ (RdI_kept H1.out (kept_trans b1 (by first | exact Below.refl _ _ | go_grown)))).mono ?_
    rintro e w2 ⟨rfl, hb2⟩
    have b2 := kept_trans (a := w) (kept_trans b1 (by first | exact Below.refl _ _ | go_grown)) hb2
    go_wp2
    go_ret
    exact ⟨rfl, b2⟩
  unfold szLf at HZ1
  simp only [if_pos hfl] at HZ1
  have HZ1 := Lib.hid HZ1
  have hle2 : (0 : Int) ≤ 1000000 - ks0.length - totK ks0 - l1.nm.size - l1.af.length := by omega
  have hls1 : l1.nm.size ≤ 1000000 := by omega
  have HF1 := Lib.hid (fun u (q : RdI u (.slice A1 l1.af.length cp1) l1.af) => toLf_false l1 _ u q (by omega))
  have HT1 := Lib.hid (fun u (q : RdI u (.slice A1 l1.af.length cp1) l1.af) => toLf_true l1 _ u q (by omega))
  have HX1 := Lib.hid (fun c1 c2 lo1 hi1 lo2 hi2 u h1 h2 => intactLf_same l1 c1 c2 lo1 hi1 lo2 hi2 u h1 h2)
  clear hfl
  have HS := Lib.hid (fun c0 T0 c1 u (q0 : RdK u c0 T0) (q1 : RdI u c1 l1.af) (hc0 : ∃ A cp, c0 = .slice A T0.length cp ∧ T0.length ≤ cp) (m0 : T0.map (·.1) = ks0.map (·.1)) => specAO_any c0 T0 ks0 l1 c1 u q0 q1 m0 hnm0 hls1)
  have HV := Lib.hid (fun c0 T0 c1 u (q0 : RdK u c0 T0) (q1 : RdI u c1 l1.af) (hc0 : ∃ A cp, c0 = .slice A T0.length cp ∧ T0.length ≤ cp) (m0 : T0.map (·.1) = ks0.map (·.1)) (t : Ers u) => implAO_any c0 T0 ks0 l1 c1 u q0 q1 hc0 m0 hnm0 hls1 t)
  clear hfit
  have hlen : (ablesR ks0 l1).1.length ≤ 4000000 := ablesR_len ks0 l1
  generalize ablesR ks0 l1 = R at *
  obtain ⟨ra, rb⟩ := R
  have hcs0 : chS (ks0.map (·.1)) ≤ 1000000 := by have := chS_tot ks0; omega
  have MK0 := Lib.hid (fun c lo hi u q => markSB_any c (ks0.map (·.1)) lo hi 101 u q ⟨by omega, by omega⟩ hcs0)
  clear hcs0
  have hal1 : l1.af.length ≤ 1000000 := by omega
  have MK1 := Lib.hid (fun c lo hi k0 u q (hk : 1 ≤ k0 ∧ k0 ≤ 9000000) => markLf1_any l1 c lo hi k0 u q hk.2 hal1)
  clear hal1
  dsimp only at hlen
  clear hk0 hch0 hnm0
  generalize ks0.map (·.1) = ms0 at *
  generalize (totK ks0 : Int) = tk0 at *
  obtain ⟨ls1, i1_1, i2_1, i3_1, i4_1, i5_1, i6_1, i7_1, us1⟩ := l1
  (try dsimp only at *)
  go_enter Tryz.func3, Tryz.ntmps3
  go_wp2_with fail
  refine (HZ0.out _ (RdK_kept H0.out (by go_grown))).mono ?_
  rintro e w1 ⟨rfl, hb1⟩
  have b1 := kept_trans (a := w) (by first | exact Below.refl _ _ | go_grown) hb1
  have K0 : Hid (BoxR w1 (w.heap.size) [.slice A0 ks0.length cp0]) := Lib.hid (BoxR_kept (BoxR_up ((BoxR_new' (by simp)))) hb1)
  have K1 : Hid (BoxR w1 (w.heap.size + 1) [.string ls1, .int .i64 i1_1, .int .i64 i2_1, .int .i64 i3_1, .int .i64 i4_1, .int .i64 i5_1, .int .i64 i6_1, .int .i64 i7_1, .slice A1 us1.length cp1]) := Lib.hid (BoxR_kept ((BoxR_new' (by simp))) hb1)
  have nb0 := K0.out.1
  have nb1 := K1.out.1
  have nb_w := b1.size
  have z1_0 : w1.cell? ⟨w.heap.size + 1, 0, none⟩ = some (.string ls1) := (K1.out).2 0 _ rfl
  have z1_1 : w1.cell? ⟨w.heap.size + 1, 1, none⟩ = some (.int .i64 i1_1) := (K1.out).2 1 _ rfl
  have z1_2 : w1.cell? ⟨w.heap.size + 1, 2, none⟩ = some (.int .i64 i2_1) := (K1.out).2 2 _ rfl
  have z1_3 : w1.cell? ⟨w.heap.size + 1, 3, none⟩ = some (.int .i64 i3_1) := (K1.out).2 3 _ rfl
  have z1_4 : w1.cell? ⟨w.heap.size + 1, 4, none⟩ = some (.int .i64 i4_1) := (K1.out).2 4 _ rfl
  have z1_5 : w1.cell? ⟨w.heap.size + 1, 5, none⟩ = some (.int .i64 i5_1) := (K1.out).2 5 _ rfl
  have z1_6 : w1.cell? ⟨w.heap.size + 1, 6, none⟩ = some (.int .i64 i6_1) := (K1.out).2 6 _ rfl
  have z1_7 : w1.cell? ⟨w.heap.size + 1, 7, none⟩ = some (.int .i64 i7_1) := (K1.out).2 7 _ rfl
  have z1_8 : w1.cell? ⟨w.heap.size + 1, 8, none⟩ = some (.slice A1 us1.length cp1) := (K1.out).2 8 _ rfl
  have z1_s : w.heap.size + 1 < w1.heap.size := (K1.out).1
  go_wp2_with fail
  refine (HZ1.out _ (RdI_kept H1.out (kept_trans b1 (by first | exact Below.refl _ _ | go_grown)))).mono ?_
  rintro e w2 ⟨rfl, hb2⟩
  have b2 := kept_trans (a := w) (kept_trans b1 (by first | exact Below.refl _ _ | go_grown)) hb2
  clear z1_s z1_0 z1_1 z1_2 z1_3 z1_4 z1_5 z1_6 z1_7 z1_8
  have kk2 := kept_trans (a := w1) (by first | exact Below.refl _ _ | go_grown) hb2
  replace K0 := Lib.hid (BoxR_kept K0.out kk2)
  replace K1 := Lib.hid (BoxR_kept K1.out kk2)
  have n_kk2 := kk2.size
  have SOF := Lib.hid (show ∀ u, Below w2.heap.size w2 u → (fun w' => w'.cell? ⟨w.heap.size, 0, none⟩ = some (.slice A0 ks0.length cp0) ∧ w'.cell? ⟨w.heap.size + 1, 0, none⟩ = some (.string ls1) ∧ w'.cell? ⟨w.heap.size + 1, 1, none⟩ = some (.int .i64 i1_1) ∧ w'.cell? ⟨w.heap.size + 1, 2, none⟩ = some (.int .i64 i2_1) ∧ w'.cell? ⟨w.heap.size + 1, 3, none⟩ = some (.int .i64 i3_1) ∧ w'.cell? ⟨w.heap.size + 1, 4, none⟩ = some (.int .i64 i4_1) ∧ w'.cell? ⟨w.heap.size + 1, 5, none⟩ = some (.int .i64 i5_1) ∧ w'.cell? ⟨w.heap.size + 1, 6, none⟩ = some (.int .i64 i6_1) ∧ w'.cell? ⟨w.heap.size + 1, 7, none⟩ = some (.int .i64 i7_1) ∧ w'.cell? ⟨w.heap.size + 1, 8, none⟩ = some (.slice A1 us1.length cp1)) u from fun u q => ⟨(BoxR_kept K0.out q).2 0 _ rfl, (BoxR_kept K1.out q).2 0 _ rfl, (BoxR_kept K1.out q).2 1 _ rfl, (BoxR_kept K1.out q).2 2 _ rfl, (BoxR_kept K1.out q).2 3 _ rfl, (BoxR_kept K1.out q).2 4 _ rfl, (BoxR_kept K1.out q).2 5 _ rfl, (BoxR_kept K1.out q).2 6 _ rfl, (BoxR_kept K1.out q).2 7 _ rfl, (BoxR_kept K1.out q).2 8 _ rfl⟩)
  have hrefl : Below w2.heap.size w2 w2 := Below.refl _ _
  go_wp2_with fail
  first
    | go_region_held3 (fun w' => w'.cell? ⟨w.heap.size, 0, none⟩ = some (.slice A0 ks0.length cp0) ∧ w'.cell? ⟨w.heap.size + 1, 0, none⟩ = some (.string ls1) ∧ w'.cell? ⟨w.heap.size + 1, 1, none⟩ = some (.int .i64 i1_1) ∧ w'.cell? ⟨w.heap.size + 1, 2, none⟩ = some (.int .i64 i2_1) ∧ w'.cell? ⟨w.heap.size + 1, 3, none⟩ = some (.int .i64 i3_1) ∧ w'.cell? ⟨w.heap.size + 1, 4, none⟩ = some (.int .i64 i4_1) ∧ w'.cell? ⟨w.heap.size + 1, 5, none⟩ = some (.int .i64 i5_1) ∧ w'.cell? ⟨w.heap.size + 1, 6, none⟩ = some (.int .i64 i6_1) ∧ w'.cell? ⟨w.heap.size + 1, 7, none⟩ = some (.int .i64 i7_1) ∧ w'.cell? ⟨w.heap.size + 1, 8, none⟩ = some (.slice A1 us1.length cp1)) (first | (refine SOF.out _ ?_; assumption) | (refine SOF.out _ ?_; go_grown)) (first
        | (go_at_call 8; have pksz := krs1; refine (HS.out _ Ts_0 _ _ (RdK_kept rs_0_1 (by go_grown)) (RdI_kept rs_1_1 (by go_grown)) hcs_0 ms_0).mono ?_; rintro e wsz ⟨vrs, rfl, rrs, hsz⟩; have ksz := kept_trans (a := w2) (kept_trans krs1 (by go_grown)) hsz)
        | (go_at_call 10; have pks1 := krs0; refine (HF1.out _ (RdI_kept H1.out (kept_trans b2 (kept_trans krs0 (by go_grown))))).mono ?_; rintro e ws1 ⟨cs_1, rfl, hqs_1, hs1⟩; have rs_1_1 := CopyI_rd hqs_1; obtain ⟨As_1, cps_1, rfl, _, _⟩ := RdI_slice rs_1_1; have krs1 := kept_trans (a := w2) (kept_trans krs0 (by go_grown)) hs1; have rs_0_1 := RdK_kept rs_0_0 (kept_trans (a := ws0) (by go_grown) hs1))
        | (go_at_call 9; refine (HF0.out _ (RdK_kept H0.out (kept_trans b2 (by go_grown)))).mono ?_; rintro e ws0 ⟨cs_0, rfl, hqs_0, hs0⟩; obtain ⟨Ts_0, rs_0_0, hcs_0, ms_0⟩ := SiteC_use hqs_0; obtain ⟨As_0, cps_0, rfl, _⟩ := RdK_at rs_0_0; have krs0 := kept_trans (a := w2) (by go_grown) hs0))
    | fail
  clear SOF hrefl
  have bs := kept_trans b2 ksz
  replace K0 := Lib.hid (BoxR_kept K0.out ksz)
  replace K1 := Lib.hid (BoxR_kept K1.out ksz)
  have n_ksz := ksz.size
  have RW : Hid (RowI wsz 0 wsz.heap.size vrs ra) := Lib.hid (RowI_lo rrs (Nat.zero_le _) (Nat.le_refl _))
  clear rrs
  have z0_0 : wsz.cell? ⟨w.heap.size, 0, none⟩ = some (.slice A0 ks0.length cp0) := (K0.out).2 0 _ rfl
  have z0_s : w.heap.size < wsz.heap.size := (K0.out).1
  go_wp2_with fail
  clear z0_s z0_0
  refine (HF0.out _ (RdK_kept H0.out (kept_trans bs (by first | exact Below.refl _ _ | go_grown)))).mono ?_
  rintro e wx0 ⟨cx0, rfl, hcx0, hbx0⟩
  have kx0 := kept_trans (a := wsz) (by first | exact Below.refl _ _ | go_grown) hbx0
  have bx0 := kept_trans bs kx0
  replace K0 := Lib.hid (BoxR_kept K0.out kx0)
  replace K1 := Lib.hid (BoxR_kept K1.out kx0)
  replace RW := Lib.hid (RowI_kept RW.out kx0)
  have n_kx0 := kx0.size
  skip
  obtain ⟨TX0, rx0, CAPX0, MX0⟩ := SiteC_use hcx0
  obtain ⟨AX0, cpX0, rfl, _⟩ := RdK_at rx0
  have RX0 := Lib.hid rx0; clear rx0
  have HC0 := Lib.hid hcx0; clear hcx0
  have z1_0 : wx0.cell? ⟨w.heap.size + 1, 0, none⟩ = some (.string ls1) := (K1.out).2 0 _ rfl
  have z1_1 : wx0.cell? ⟨w.heap.size + 1, 1, none⟩ = some (.int .i64 i1_1) := (K1.out).2 1 _ rfl
  have z1_2 : wx0.cell? ⟨w.heap.size + 1, 2, none⟩ = some (.int .i64 i2_1) := (K1.out).2 2 _ rfl
  have z1_3 : wx0.cell? ⟨w.heap.size + 1, 3, none⟩ = some (.int .i64 i3_1) := (K1.out).2 3 _ rfl
  have z1_4 : wx0.cell? ⟨w.heap.size + 1, 4, none⟩ = some (.int .i64 i4_1) := (K1.out).2 4 _ rfl
  have z1_5 : wx0.cell? ⟨w.heap.size + 1, 5, none⟩ = some (.int .i64 i5_1) := (K1.out).2 5 _ rfl
  have z1_6 : wx0.cell? ⟨w.heap.size + 1, 6, none⟩ = some (.int .i64 i6_1) := (K1.out).2 6 _ rfl
  have z1_7 : wx0.cell? ⟨w.heap.size + 1, 7, none⟩ = some (.int .i64 i7_1) := (K1.out).2 7 _ rfl
  have z1_8 : wx0.cell? ⟨w.heap.size + 1, 8, none⟩ = some (.slice A1 us1.length cp1) := (K1.out).2 8 _ rfl
  have z1_s : w.heap.size + 1 < wx0.heap.size := (K1.out).1
  go_wp2_with fail
  clear z1_s z1_0 z1_1 z1_2 z1_3 z1_4 z1_5 z1_6 z1_7 z1_8
  refine (HF1.out _ (RdI_kept H1.out (kept_trans bx0 (by go_grown)))).mono ?_
  rintro e wx1 ⟨cx1, rfl, hcx1, hbx1⟩
  have kx1 := kept_trans (a := wx0) (by first | exact Below.refl _ _ | go_grown) hbx1
  have bx1 := kept_trans bx0 kx1
  have X0 : Hid (BoxR wx1 wx0.heap.size [.slice AX0 TX0.length cpX0]) := Lib.hid (BoxR_kept (BoxR_new' rfl) hbx1)
  replace K0 := Lib.hid (BoxR_kept K0.out kx1)
  replace K1 := Lib.hid (BoxR_kept K1.out kx1)
  replace RW := Lib.hid (RowI_kept RW.out kx1)
  have n_kx1 := kx1.size
  replace HC0 := Lib.hid (SiteC_kept HC0.out kx1)
  replace RX0 := Lib.hid (RdK_kept RX0.out kx1)
  simp only [World.size_alloc] at hcx1
  obtain ⟨AX1, cpX1, rfl, _, _⟩ := RdI_slice (CopyI_rd hcx1)
  have HC1 := Lib.hid hcx1; clear hcx1
  have gx : Below wx1.heap.size wx1 (wx1.alloc (.cells #[.string ls1, .int .i64 i1_1, .int .i64 i2_1, .int .i64 i3_1, .int .i64 i4_1, .int .i64 i5_1, .int .i64 i6_1, .int .i64 i7_1, .slice AX1 us1.length cpX1] 40)) := by go_grown
  have y0_0 : wx1.cell? ⟨wx0.heap.size, 0, none⟩ = some (.slice AX0 TX0.length cpX0) := (X0.out).2 0 _ rfl
  have y0_s : wx0.heap.size < wx1.heap.size := (X0.out).1
  go_wp2_with fail
  clear y0_s y0_0
  refine (HV.out _ TX0 _ _ (RdK_kept RX0.out gx) (RdI_kept (CopyI_rd HC1.out) gx) CAPX0 MX0 (Ers_kept HTX.out (kept_trans bx1 gx))).mono ?_
  rintro e wgz ⟨vrg, rfl, rrg, hbg⟩
  have kg := kept_trans gx hbg
  have X1 : Hid (BoxR wgz wx1.heap.size [.string ls1, .int .i64 i1_1, .int .i64 i2_1, .int .i64 i3_1, .int .i64 i4_1, .int .i64 i5_1, .int .i64 i6_1, .int .i64 i7_1, .slice AX1 us1.length cpX1]) := Lib.hid (BoxR_kept (BoxR_new' rfl) hbg)
  replace K0 := Lib.hid (BoxR_kept K0.out kg)
  replace K1 := Lib.hid (BoxR_kept K1.out kg)
  replace X0 := Lib.hid (BoxR_kept X0.out kg)
  replace RW := Lib.hid (RowI_kept RW.out kg)
  have n_kg := kg.size
  replace HC0 := Lib.hid (SiteC_kept HC0.out kg)
  replace HC1 := Lib.hid (CopyI_kept HC1.out kg)
  have bg := kept_trans bx1 kg
  clear RX0 CAPX0 MX0
  simp only [World.size_alloc] at rrg
  have RG := Lib.hid rrg; clear rrg
  go_wp2_with fail
  refine (eqInts_same _ _ _ _ (RowI_rd RG.out) (RowI_rd RW.out)).mono ?_
  rintro e we1 ⟨rfl, ke1⟩
  have be1 := kept_trans bg ke1
  replace K0 := Lib.hid (BoxR_kept K0.out ke1)
  replace K1 := Lib.hid (BoxR_kept K1.out ke1)
  replace X0 := Lib.hid (BoxR_kept X0.out ke1)
  replace X1 := Lib.hid (BoxR_kept X1.out ke1)
  replace RW := Lib.hid (RowI_kept RW.out ke1)
  replace RG := Lib.hid (RowI_kept RG.out ke1)
  have n_ke1 := ke1.size
  replace HC0 := Lib.hid (SiteC_kept HC0.out ke1)
  replace HC1 := Lib.hid (CopyI_kept HC1.out ke1)
  have SOF := Lib.hid (show ∀ u, Below we1.heap.size we1 u → (fun w' => w'.cell? ⟨wx0.heap.size, 0, none⟩ = some (.slice AX0 TX0.length cpX0) ∧ w'.cell? ⟨w.heap.size, 0, none⟩ = some (.slice A0 ks0.length cp0)) u from fun u q => ⟨(BoxR_kept X0.out q).2 0 _ rfl, (BoxR_kept K0.out q).2 0 _ rfl⟩)
  have hrefl : Below we1.heap.size we1 we1 := Below.refl _ _
  go_wp2_with fail
  first
    | go_region_held3 (fun w' => w'.cell? ⟨wx0.heap.size, 0, none⟩ = some (.slice AX0 TX0.length cpX0) ∧ w'.cell? ⟨w.heap.size, 0, none⟩ = some (.slice A0 ks0.length cp0)) (first | (refine SOF.out _ ?_; assumption) | (refine SOF.out _ ?_; go_grown)) (first
        | (go_at_call 13; have pki0 := ki0a; refine (HX0.out _ _ _ _ _ _ _ (SiteC_kept HC0.out (kept_trans ki0a (by go_grown))) (SiteC_kept hqi0 (by go_grown))).mono ?_; rintro e wi0z ⟨rfl, hi0z⟩; have ki0z := kept_trans (a := we1) (kept_trans ki0a (by go_grown)) hi0z)
        | (go_at_call 9; refine (HF0.out _ (RdK_kept H0.out (kept_trans be1 (by go_grown)))).mono ?_; rintro e wi0a ⟨ci0, rfl, hqi0, hi0a⟩; have ki0a := kept_trans (a := we1) (by go_grown) hi0a))
    | fail
  clear SOF hrefl
  have bi0 := kept_trans be1 ki0z
  replace K0 := Lib.hid (BoxR_kept K0.out ki0z)
  replace K1 := Lib.hid (BoxR_kept K1.out ki0z)
  replace X0 := Lib.hid (BoxR_kept X0.out ki0z)
  replace X1 := Lib.hid (BoxR_kept X1.out ki0z)
  replace RW := Lib.hid (RowI_kept RW.out ki0z)
  replace RG := Lib.hid (RowI_kept RG.out ki0z)
  have n_ki0z := ki0z.size
  replace HC0 := Lib.hid (SiteC_kept HC0.out ki0z)
  replace HC1 := Lib.hid (CopyI_kept HC1.out ki0z)
  have SOF := Lib.hid (show ∀ u, Below wi0z.heap.size wi0z u → (fun w' => w'.cell? ⟨wx1.heap.size, 0, none⟩ = some (.string ls1) ∧ w'.cell? ⟨wx1.heap.size, 1, none⟩ = some (.int .i64 i1_1) ∧ w'.cell? ⟨wx1.heap.size, 2, none⟩ = some (.int .i64 i2_1) ∧ w'.cell? ⟨wx1.heap.size, 3, none⟩ = some (.int .i64 i3_1) ∧ w'.cell? ⟨wx1.heap.size, 4, none⟩ = some (.int .i64 i4_1) ∧ w'.cell? ⟨wx1.heap.size, 5, none⟩ = some (.int .i64 i5_1) ∧ w'.cell? ⟨wx1.heap.size, 6, none⟩ = some (.int .i64 i6_1) ∧ w'.cell? ⟨wx1.heap.size, 7, none⟩ = some (.int .i64 i7_1) ∧ w'.cell? ⟨wx1.heap.size, 8, none⟩ = some (.slice AX1 us1.length cpX1) ∧ w'.cell? ⟨w.heap.size + 1, 0, none⟩ = some (.string ls1) ∧ w'.cell? ⟨w.heap.size + 1, 1, none⟩ = some (.int .i64 i1_1) ∧ w'.cell? ⟨w.heap.size + 1, 2, none⟩ = some (.int .i64 i2_1) ∧ w'.cell? ⟨w.heap.size + 1, 3, none⟩ = some (.int .i64 i3_1) ∧ w'.cell? ⟨w.heap.size + 1, 4, none⟩ = some (.int .i64 i4_1) ∧ w'.cell? ⟨w.heap.size + 1, 5, none⟩ = some (.int .i64 i5_1) ∧ w'.cell? ⟨w.heap.size + 1, 6, none⟩ = some (.int .i64 i6_1) ∧ w'.cell? ⟨w.heap.size + 1, 7, none⟩ = some (.int .i64 i7_1) ∧ w'.cell? ⟨w.heap.size + 1, 8, none⟩ = some (.slice A1 us1.length cp1)) u from fun u q => ⟨(BoxR_kept X1.out q).2 0 _ rfl, (BoxR_kept X1.out q).2 1 _ rfl, (BoxR_kept X1.out q).2 2 _ rfl, (BoxR_kept X1.out q).2 3 _ rfl, (BoxR_kept X1.out q).2 4 _ rfl, (BoxR_kept X1.out q).2 5 _ rfl, (BoxR_kept X1.out q).2 6 _ rfl, (BoxR_kept X1.out q).2 7 _ rfl, (BoxR_kept X1.out q).2 8 _ rfl, (BoxR_kept K1.out q).2 0 _ rfl, (BoxR_kept K1.out q).2 1 _ rfl, (BoxR_kept K1.out q).2 2 _ rfl, (BoxR_kept K1.out q).2 3 _ rfl, (BoxR_kept K1.out q).2 4 _ rfl, (BoxR_kept K1.out q).2 5 _ rfl, (BoxR_kept K1.out q).2 6 _ rfl, (BoxR_kept K1.out q).2 7 _ rfl, (BoxR_kept K1.out q).2 8 _ rfl⟩)
  have hrefl : Below wi0z.heap.size wi0z wi0z := Below.refl _ _
  go_wp2_with fail
  first
    | go_region_held3 (fun w' => w'.cell? ⟨wx1.heap.size, 0, none⟩ = some (.string ls1) ∧ w'.cell? ⟨wx1.heap.size, 1, none⟩ = some (.int .i64 i1_1) ∧ w'.cell? ⟨wx1.heap.size, 2, none⟩ = some (.int .i64 i2_1) ∧ w'.cell? ⟨wx1.heap.size, 3, none⟩ = some (.int .i64 i3_1) ∧ w'.cell? ⟨wx1.heap.size, 4, none⟩ = some (.int .i64 i4_1) ∧ w'.cell? ⟨wx1.heap.size, 5, none⟩ = some (.int .i64 i5_1) ∧ w'.cell? ⟨wx1.heap.size, 6, none⟩ = some (.int .i64 i6_1) ∧ w'.cell? ⟨wx1.heap.size, 7, none⟩ = some (.int .i64 i7_1) ∧ w'.cell? ⟨wx1.heap.size, 8, none⟩ = some (.slice AX1 us1.length cpX1) ∧ w'.cell? ⟨w.heap.size + 1, 0, none⟩ = some (.string ls1) ∧ w'.cell? ⟨w.heap.size + 1, 1, none⟩ = some (.int .i64 i1_1) ∧ w'.cell? ⟨w.heap.size + 1, 2, none⟩ = some (.int .i64 i2_1) ∧ w'.cell? ⟨w.heap.size + 1, 3, none⟩ = some (.int .i64 i3_1) ∧ w'.cell? ⟨w.heap.size + 1, 4, none⟩ = some (.int .i64 i4_1) ∧ w'.cell? ⟨w.heap.size + 1, 5, none⟩ = some (.int .i64 i5_1) ∧ w'.cell? ⟨w.heap.size + 1, 6, none⟩ = some (.int .i64 i6_1) ∧ w'.cell? ⟨w.heap.size + 1, 7, none⟩ = some (.int .i64 i7_1) ∧ w'.cell? ⟨w.heap.size + 1, 8, none⟩ = some (.slice A1 us1.length cp1)) (first | (refine SOF.out _ ?_; assumption) | (refine SOF.out _ ?_; go_grown)) (first
        | (go_at_call 14; have pki1 := ki1a; refine (HX1.out _ _ _ _ _ _ _ (CopyI_kept HC1.out (kept_trans ki1a (by go_grown))) (CopyI_kept hqi1 (by go_grown))).mono ?_; rintro e wi1z ⟨rfl, hi1z⟩; have ki1z := kept_trans (a := wi0z) (kept_trans ki1a (by go_grown)) hi1z)
        | (go_at_call 10; refine (HF1.out _ (RdI_kept H1.out (kept_trans bi0 (by go_grown)))).mono ?_; rintro e wi1a ⟨ci1, rfl, hqi1, hi1a⟩; have ki1a := kept_trans (a := wi0z) (by go_grown) hi1a))
    | fail
  clear SOF hrefl
  have bi1 := kept_trans bi0 ki1z
  replace K0 := Lib.hid (BoxR_kept K0.out ki1z)
  replace K1 := Lib.hid (BoxR_kept K1.out ki1z)
  replace X0 := Lib.hid (BoxR_kept X0.out ki1z)
  replace X1 := Lib.hid (BoxR_kept X1.out ki1z)
  replace RW := Lib.hid (RowI_kept RW.out ki1z)
  replace RG := Lib.hid (RowI_kept RG.out ki1z)
  have n_ki1z := ki1z.size
  replace HC0 := Lib.hid (SiteC_kept HC0.out ki1z)
  replace HC1 := Lib.hid (CopyI_kept HC1.out ki1z)
  have y0_0 : wi1z.cell? ⟨wx0.heap.size, 0, none⟩ = some (.slice AX0 TX0.length cpX0) := (X0.out).2 0 _ rfl
  have y0_s : wx0.heap.size < wi1z.heap.size := (X0.out).1
  go_wp2_with fail
  clear y0_s y0_0
  refine (MK0.out _ _ _ _ HC0.out).mono ?_
  rintro e wm0 ⟨mk0, rfl, hmk0, hw0⟩
  have n_hw0 := hw0.size
  have bm0 := Below_within bi1 hw0 (by omega) (Nat.le_refl _)
  replace K0 := Lib.hid (BoxR_within K0.out hw0 (by omega))
  replace K1 := Lib.hid (BoxR_within K1.out hw0 (by omega))
  replace X1 := Lib.hid (BoxR_within X1.out hw0 (by omega))
  replace RW := Lib.hid (RowI_within RW.out hw0 (by omega))
  replace RG := Lib.hid (RowI_within RG.out hw0 (by omega))
  replace HC1 := Lib.hid (CopyI_within HC1.out hw0 (by omega))
  clear X0 HC0
  have y1_0 : wm0.cell? ⟨wx1.heap.size, 0, none⟩ = some (.string ls1) := (X1.out).2 0 _ rfl
  have y1_1 : wm0.cell? ⟨wx1.heap.size, 1, none⟩ = some (.int .i64 i1_1) := (X1.out).2 1 _ rfl
  have y1_2 : wm0.cell? ⟨wx1.heap.size, 2, none⟩ = some (.int .i64 i2_1) := (X1.out).2 2 _ rfl
  have y1_3 : wm0.cell? ⟨wx1.heap.size, 3, none⟩ = some (.int .i64 i3_1) := (X1.out).2 3 _ rfl
  have y1_4 : wm0.cell? ⟨wx1.heap.size, 4, none⟩ = some (.int .i64 i4_1) := (X1.out).2 4 _ rfl
  have y1_5 : wm0.cell? ⟨wx1.heap.size, 5, none⟩ = some (.int .i64 i5_1) := (X1.out).2 5 _ rfl
  have y1_6 : wm0.cell? ⟨wx1.heap.size, 6, none⟩ = some (.int .i64 i6_1) := (X1.out).2 6 _ rfl
  have y1_7 : wm0.cell? ⟨wx1.heap.size, 7, none⟩ = some (.int .i64 i7_1) := (X1.out).2 7 _ rfl
  have y1_8 : wm0.cell? ⟨wx1.heap.size, 8, none⟩ = some (.slice AX1 us1.length cpX1) := (X1.out).2 8 _ rfl
  have y1_s : wx1.heap.size < wm0.heap.size := (X1.out).1
  go_wp2_with fail
  clear y1_s y1_0 y1_1 y1_2 y1_3 y1_4 y1_5 y1_6 y1_7 y1_8
  refine (MK1.out _ _ _ _ _ HC1.out (by omega)).mono ?_
  rintro e wm1 ⟨mk1, rfl, hw1⟩
  have n_hw1 := hw1.size
  have bm1 := Below_within bm0 hw1 (by omega) (Nat.le_refl _)
  replace K0 := Lib.hid (BoxR_within K0.out hw1 (by omega))
  replace K1 := Lib.hid (BoxR_within K1.out hw1 (by omega))
  replace RW := Lib.hid (RowI_within RW.out hw1 (by omega))
  replace RG := Lib.hid (RowI_within RG.out hw1 (by omega))
  clear X1 HC1
  go_wp2_with fail
  refine (eqInts_same _ _ _ _ (RowI_rd RG.out) (RowI_rd RW.out)).mono ?_
  rintro e we2 ⟨rfl, ke2⟩
  have be2 := kept_trans bm1 ke2
  replace K0 := Lib.hid (BoxR_kept K0.out ke2)
  replace K1 := Lib.hid (BoxR_kept K1.out ke2)
  replace RW := Lib.hid (RowI_kept RW.out ke2)
  replace RG := Lib.hid (RowI_kept RG.out ke2)
  have n_ke2 := ke2.size
  have hgr := RG.out.2
  go_wp2_with fail
  refine (markInts_any _ _ _ _ 101 _ RG.out (by omega) (by omega)).mono ?_
  rintro e wmr ⟨rfl, mrG, gmr⟩
  have n_gmr := gmr.size
  replace RW := Lib.hid (RowI_far RW.out gmr (fun g hg => by have := hgr g hg; omega))
  have bmr := grown_below be2 gmr (fun g hg => by have := hgr g hg; omega)
  replace K0 := Lib.hid (BoxR_far K0.out gmr (fun e => by have := hgr _ e; omega))
  replace K1 := Lib.hid (BoxR_far K1.out gmr (fun e => by have := hgr _ e; omega))
  have MG := Lib.hid mrG; clear mrG
  go_wp2_with fail
  refine (heldInts_same _ _ 101 _ (RowI_rd MG.out) (by omega) (by omega)).mono ?_
  rintro e w' ⟨rfl, rfl⟩
  have SOF := Lib.hid (show ∀ u, Below wmr.heap.size wmr u → (fun w' => w'.cell? ⟨w.heap.size, 0, none⟩ = some (.slice A0 ks0.length cp0) ∧ w'.cell? ⟨w.heap.size + 1, 0, none⟩ = some (.string ls1) ∧ w'.cell? ⟨w.heap.size + 1, 1, none⟩ = some (.int .i64 i1_1) ∧ w'.cell? ⟨w.heap.size + 1, 2, none⟩ = some (.int .i64 i2_1) ∧ w'.cell? ⟨w.heap.size + 1, 3, none⟩ = some (.int .i64 i3_1) ∧ w'.cell? ⟨w.heap.size + 1, 4, none⟩ = some (.int .i64 i4_1) ∧ w'.cell? ⟨w.heap.size + 1, 5, none⟩ = some (.int .i64 i5_1) ∧ w'.cell? ⟨w.heap.size + 1, 6, none⟩ = some (.int .i64 i6_1) ∧ w'.cell? ⟨w.heap.size + 1, 7, none⟩ = some (.int .i64 i7_1) ∧ w'.cell? ⟨w.heap.size + 1, 8, none⟩ = some (.slice A1 us1.length cp1)) u from fun u q => ⟨(BoxR_kept K0.out q).2 0 _ rfl, (BoxR_kept K1.out q).2 0 _ rfl, (BoxR_kept K1.out q).2 1 _ rfl, (BoxR_kept K1.out q).2 2 _ rfl, (BoxR_kept K1.out q).2 3 _ rfl, (BoxR_kept K1.out q).2 4 _ rfl, (BoxR_kept K1.out q).2 5 _ rfl, (BoxR_kept K1.out q).2 6 _ rfl, (BoxR_kept K1.out q).2 7 _ rfl, (BoxR_kept K1.out q).2 8 _ rfl⟩)
  have hrefl : Below wmr.heap.size wmr wmr := Below.refl _ _
  go_wp2_with fail
  first
    | go_region_held3 (fun w' => w'.cell? ⟨w.heap.size, 0, none⟩ = some (.slice A0 ks0.length cp0) ∧ w'.cell? ⟨w.heap.size + 1, 0, none⟩ = some (.string ls1) ∧ w'.cell? ⟨w.heap.size + 1, 1, none⟩ = some (.int .i64 i1_1) ∧ w'.cell? ⟨w.heap.size + 1, 2, none⟩ = some (.int .i64 i2_1) ∧ w'.cell? ⟨w.heap.size + 1, 3, none⟩ = some (.int .i64 i3_1) ∧ w'.cell? ⟨w.heap.size + 1, 4, none⟩ = some (.int .i64 i4_1) ∧ w'.cell? ⟨w.heap.size + 1, 5, none⟩ = some (.int .i64 i5_1) ∧ w'.cell? ⟨w.heap.size + 1, 6, none⟩ = some (.int .i64 i6_1) ∧ w'.cell? ⟨w.heap.size + 1, 7, none⟩ = some (.int .i64 i7_1) ∧ w'.cell? ⟨w.heap.size + 1, 8, none⟩ = some (.slice A1 us1.length cp1)) (first | (refine SOF.out _ ?_; assumption) | (refine SOF.out _ ?_; go_grown)) (first
        | (go_at_call 11; have pkhz := krh1; refine (HV.out _ Th_0 _ _ (RdK_kept rh_0_1 (by go_grown)) (RdI_kept rh_1_1 (by go_grown)) hch_0 mh_0 (Ers_kept HTX.out (kept_trans bmr (kept_trans krh1 (by go_grown))))).mono ?_; rintro e whz ⟨vrh, rfl, rrh, hhz⟩; have khz := kept_trans (a := wmr) (kept_trans krh1 (by go_grown)) hhz)
        | (go_at_call 10; have pkh1 := krh0; refine (HT1.out _ (RdI_kept H1.out (kept_trans bmr (kept_trans krh0 (by go_grown))))).mono ?_; rintro e wh1 ⟨ch_1, rfl, hqh_1, hh1⟩; have rh_1_1 := RowI_rd hqh_1; obtain ⟨Ah_1, cph_1, rfl, _, _⟩ := RdI_slice rh_1_1; have krh1 := kept_trans (a := wmr) (kept_trans krh0 (by go_grown)) hh1; have rh_0_1 := RdK_kept rh_0_0 (kept_trans (a := wh0) (by go_grown) hh1))
        | (go_at_call 9; refine (HT0.out _ (RdK_kept H0.out (kept_trans bmr (by go_grown)))).mono ?_; rintro e wh0 ⟨ch_0, Th_0, rfl, rh_0_0, hch_0, mh_0, hh0⟩; obtain ⟨Ah_0, cph_0, rfl, _⟩ := RdK_at rh_0_0; have krh0 := kept_trans (a := wmr) (by go_grown) hh0))
    | fail
  clear SOF hrefl
  have bh := kept_trans bmr khz
  replace K0 := Lib.hid (BoxR_kept K0.out khz)
  replace K1 := Lib.hid (BoxR_kept K1.out khz)
  replace RW := Lib.hid (RowI_kept RW.out khz)
  replace MG := Lib.hid (RowI_kept MG.out khz)
  have n_khz := khz.size
  go_wp2_with fail
  refine (eqInts_same _ _ _ _ (RowI_rd rrh) (RowI_rd RW.out)).mono ?_
  rintro e we3 ⟨rfl, ke3⟩
  have be3 := kept_trans bh ke3
  replace K0 := Lib.hid (BoxR_kept K0.out ke3)
  replace K1 := Lib.hid (BoxR_kept K1.out ke3)
  replace RW := Lib.hid (RowI_kept RW.out ke3)
  replace MG := Lib.hid (RowI_kept MG.out ke3)
  have n_ke3 := ke3.size
  go_wp2_with fail
  refine (heldInts_same _ _ 101 _ (RowI_rd MG.out) (by omega) (by omega)).mono ?_
  rintro e w' ⟨rfl, rfl⟩
  go_wp2
  go_ret
  exact ⟨rfl, be3⟩

end Go.Proofs.YtnflaeimiegepabGreatDoor
