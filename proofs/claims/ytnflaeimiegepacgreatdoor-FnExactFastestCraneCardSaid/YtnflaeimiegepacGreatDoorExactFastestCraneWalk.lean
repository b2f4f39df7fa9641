import Derived.Test.YtnflaeimiegepacGreatDoorRows
import Derived.WalkKit
import Derived.ProofKit
import Derived.OpenShut
import Derived.Lib.Hide
import Derived.Handy
import Derived.BigFrame
import Derived.BigQuiet
import Derived.Carry
import Derived.Deep.DeepCutAuto
import Derived.Deep.QuietTactic
import Derived.Deep.RegionHeld3
import Derived.Deep.SlicePairs
import Derived.Laws.RangeAny
import Derived.Lib.LaidTab
import Derived.Lib.LaidU8
import Derived.Lib.SmallJoins
import Derived.LoopIn
import Derived.LoopNIn
import Derived.OwnWalk
import Derived.OwnWalkIn
import Derived.RangeFuncBound
import Derived.RangeFuncCalls
import Derived.RangeFuncFrom
import Derived.RangeFuncLeaves
import Derived.RangeFuncNested
import Derived.Shelf.Abstract
import Derived.Shelf.RegionOpen
import Derived.TacticsInMore
import Derived.Test.YtnflaeimiegepacGreatDoorCards
import Derived.Test.YtnflaeimiegepacGreatDoorTie
import Derived.Lib.SmallJoins
import Derived.ChangeMaps5
import Derived.Deep.DeepHandedRow
import Derived.Deep.DeepWitnessRowRef
import Derived.Lib.LaidTab
import Derived.SevenTiedAt
import Derived.Test.YtnflaeimiegepacGreatDoorExactFastestCraneWalkb
namespace Go.Proofs.YtnflaeimiegepacGreatDoor
open Go.ChangeShapes Go.WideShapes Go.ChangeAt Go.RowKit
set_option linter.unusedVariables false
set_option linter.unusedSimpArgs false


set_option maxRecDepth 100000 in
set_option maxHeartbeats 20000000 in
theorem walk_FnExactFastestCrane (w : World) (c0 : Value) (ks0 : List (Cr × Value)) (hr0 : RdK w c0 ks0) (hk0 : wfS ks0) (va : Int) (wva : (Lit.int .i64 va).wf = true) (vb : Int) (wvb : (Lit.int .i64 vb).wf = true) (vc : Int) (wvc : (Lit.int .i64 vc).wf = true) (vd : Int) (wvd : (Lit.int .i64 vd).wf = true) (l2 : Lf) (c2 : Value) (hr2 : RdI w c2 l2.af) (hk2 : wfLf l2) (ht : EVs w) :
    Calls Tryz.prog 6 #[.agg #[c0], .agg #[.int .i64 va, .int .i64 vb, .int .i64 vc, .int .i64 vd], .agg #[.string l2.nm, .int .i64 l2.wt, .int .i64 l2.fx, .int .i64 l2.fy, .int .i64 l2.tx, .int .i64 l2.ty, .int .i64 l2.h, .int .i64 l2.dl, c2]] w fun e w' => e = .returned (.bool true) ∧ Below w.heap.size w w' := by
  have HTX := Lib.hid ht; clear ht
  obtain ⟨A0, cp0, rfl, _⟩ := RdK_at hr0
  have H0 := Lib.hid hr0; clear hr0
  obtain ⟨hk0, hkl0⟩ := hk0
  unfold maxLen at hkl0
  obtain ⟨A2, cp2, rfl, _, _⟩ := RdI_slice hr2
  have H2 := Lib.hid hr2; clear hr2
  have hsz2 := hk2.1
  clear hk2
  have HZ0 := fun u q => szS_any (.slice A0 ks0.length cp0) ks0 1000000 u q (by omega) hk0
  by_cases hfit : (ks0.length : Int) + totK ks0 ≤ 1000000
  case neg =>
    simp only [if_neg hfit] at HZ0
    have HZ0 := Lib.hid HZ0
    clear hfit
    obtain ⟨ls2, i1_2, i2_2, i3_2, i4_2, i5_2, i6_2, i7_2, us2⟩ := l2
    (try dsimp only at *)
    go_enter Tryz.func6, Tryz.ntmps6
    go_wp2_with fail
    refine (HZ0.out _ (RdK_kept H0.out (by go_grown))).mono ?_
    rintro e w1 ⟨rfl, hb1⟩
    have b1 := kept_trans (a := w) (by first | exact Below.refl _ _ | go_grown) hb1
    go_wp2
    go_ret
    exact ⟨rfl, b1⟩
  simp only [if_pos hfit] at HZ0
  have HZ0 := Lib.hid HZ0
  have hn0 : ks0.length ≤ 1000000 := by omega
  have hch0 : ∀ p ∈ ks0, p.1.ch.length ≤ 1000000 := fun p hp => by have := totK_mem hp; omega
  have hnm0 : ∀ p ∈ ks0, p.1.nm.size ≤ 1000000 := fun p hp => by have := totK_mem hp; omega
  have HF0 := Lib.hid (fun u (q : RdK u (.slice A0 ks0.length cp0) ks0) => toS_false _ ks0 u q hn0 hch0)
  have HT0 := Lib.hid (fun u (q : RdK u (.slice A0 ks0.length cp0) ks0) => toS_true _ ks0 u q hn0 hch0)
  have HX0 := Lib.hid (fun c1 c2 lo1 hi1 lo2 hi2 u h1 h2 => intactS_same (ks0.map (·.1)) c1 c2 lo1 hi1 lo2 hi2 u h1 h2)
  have hle1 : (0 : Int) ≤ 1000000 - ks0.length - totK ks0 := by omega
  have HZ2 := fun u q => szLf_any l2 (.slice A2 l2.af.length cp2) (1000000 - ks0.length - totK ks0) (by omega) hsz2 u q
  by_cases hfl : (l2.nm.size : Int) + (l2.af.length : Int) ≤ 1000000 - ks0.length - totK ks0
  case neg =>
    unfold szLf at HZ2
    simp only [if_neg hfl] at HZ2
    have HZ2 := Lib.hid HZ2
    clear hfl hfit
    obtain ⟨ls2, i1_2, i2_2, i3_2, i4_2, i5_2, i6_2, i7_2, us2⟩ := l2
    (try dsimp only at *)
    go_enter Tryz.func6, Tryz.ntmps6
    go_wp2_with fail
    refine (HZ0.out _ (RdK_kept H0.out (by go_grown))).mono ?_
    rintro e w1 ⟨rfl, hb1⟩
    have b1 := kept_trans (a := w) (by first | exact Below.refl _ _ | go_grown) hb1
    have KZ : BoxR w1 (w.heap.size + 1 + 1) [.string ls2, .int .i64 i1_2, .int .i64 i2_2, .int .i64 i3_2, .int .i64 i4_2, .int .i64 i5_2, .int .i64 i6_2, .int .i64 i7_2, .slice A2 us2.length cp2] := BoxR_kept ((BoxR_new' (by simp))) hb1
    have z2_0 : w1.cell? ⟨w.heap.size + 1 + 1, 0, none⟩ = some (.string ls2) := (KZ).2 0 _ rfl
    have z2_1 : w1.cell? ⟨w.heap.size + 1 + 1, 1, none⟩ = some (.int .i64 i1_2) := (KZ).2 1 _ rfl
    have z2_2 : w1.cell? ⟨w.heap.size + 1 + 1, 2, none⟩ = some (.int .i64 i2_2) := (KZ).2 2 _ rfl
    have z2_3 : w1.cell? ⟨w.heap.size + 1 + 1, 3, none⟩ = some (.int .i64 i3_2) := (KZ).2 3 _ rfl
    have z2_4 : w1.cell? ⟨w.heap.size + 1 + 1, 4, none⟩ = some (.int .i64 i4_2) := (KZ).2 4 _ rfl
    have z2_5 : w1.cell? ⟨w.heap.size + 1 + 1, 5, none⟩ = some (.int .i64 i5_2) := (KZ).2 5 _ rfl
    have z2_6 : w1.cell? ⟨w.heap.size + 1 + 1, 6, none⟩ = some (.int .i64 i6_2) := (KZ).2 6 _ rfl
    have z2_7 : w1.cell? ⟨w.heap.size + 1 + 1, 7, none⟩ = some (.int .i64 i7_2) := (KZ).2 7 _ rfl
    have z2_8 : w1.cell? ⟨w.heap.size + 1 + 1, 8, none⟩ = some (.slice A2 us2.length cp2) := (KZ).2 8 _ rfl
    have z2_s : w.heap.size + 1 + 1 < w1.heap.size := (KZ).1
    go_wp2_with fail
    refine (HZ2.out _ (RdI_kept H2.out (kept_trans b1 (by first | exact Below.refl _ _ | go_grown)))).mono ?_
    rintro e w2 ⟨rfl, hb2⟩
    have b2 := kept_trans (a := w) (kept_trans b1 (by first | exact Below.refl _ _ | go_grown)) hb2
    go_wp2
    go_ret
    exact ⟨rfl, b2⟩
  unfold szLf at HZ2
  simp only [if_pos hfl] at HZ2
  have HZ2 := Lib.hid HZ2
  have hle2 : (0 : Int) ≤ 1000000 - ks0.length - totK ks0 - l2.nm.size - l2.af.length := by omega
  have hls2 : l2.nm.size ≤ 1000000 := by omega
  have HF2 := Lib.hid (fun u (q : RdI u (.slice A2 l2.af.length cp2) l2.af) => toLf_false l2 _ u q (by omega))
  have HT2 := Lib.hid (fun u (q : RdI u (.slice A2 l2.af.length cp2) l2.af) => toLf_true l2 _ u q (by omega))
  have HX2 := Lib.hid (fun c1 c2 lo1 hi1 lo2 hi2 u h1 h2 => intactLf_same l2 c1 c2 lo1 hi1 lo2 hi2 u h1 h2)
  clear hfl
  have HS := Lib.hid (fun c0 T0 c2 u (q0 : RdK u c0 T0) (q2 : RdI u c2 l2.af) (hc0 : ∃ A cp, c0 = .slice A T0.length cp ∧ T0.length ≤ cp) (m0 : T0.map (·.1) = ks0.map (·.1)) => specFC_any c0 T0 ks0 va vb vc vd l2 c2 u q0 q2 m0 hnm0 hls2)
  have HV := Lib.hid (fun c0 T0 c2 u (q0 : RdK u c0 T0) (q2 : RdI u c2 l2.af) (hc0 : ∃ A cp, c0 = .slice A T0.length cp ∧ T0.length ≤ cp) (m0 : T0.map (·.1) = ks0.map (·.1)) (t : EVs u) => implFC_any c0 T0 ks0 va vb vc vd l2 c2 u q0 q2 hc0 m0 hnm0 hls2 t)
  clear hfit
  generalize fastL ks0 va vb vc vd l2 = R at *
  obtain ⟨ra, rb, rc⟩ := R
  clear hk0 hch0 hnm0
  generalize ks0.map (·.1) = ms0 at *
  generalize (totK ks0 : Int) = tk0 at *
  obtain ⟨ls2, i1_2, i2_2, i3_2, i4_2, i5_2, i6_2, i7_2, us2⟩ := l2
  (try dsimp only at *)
  go_enter Tryz.func6, Tryz.ntmps6
  go_wp2_with fail
  refine (HZ0.out _ (RdK_kept H0.out (by go_grown))).mono ?_
  rintro e w1 ⟨rfl, hb1⟩
  have b1 := kept_trans (a := w) (by first | exact Below.refl _ _ | go_grown) hb1
  have K0 : Hid (BoxR w1 (w.heap.size) [.slice A0 ks0.length cp0]) := Lib.hid (BoxR_kept (BoxR_up (BoxR_up ((BoxR_new' (by simp))))) hb1)
  have K1 : Hid (BoxR w1 (w.heap.size + 1) [.int .i64 va, .int .i64 vb, .int .i64 vc, .int .i64 vd]) := Lib.hid (BoxR_kept (BoxR_up ((BoxR_new' (by simp)))) hb1)
  have K2 : Hid (BoxR w1 (w.heap.size + 1 + 1) [.string ls2, .int .i64 i1_2, .int .i64 i2_2, .int .i64 i3_2, .int .i64 i4_2, .int .i64 i5_2, .int .i64 i6_2, .int .i64 i7_2, .slice A2 us2.length cp2]) := Lib.hid (BoxR_kept ((BoxR_new' (by simp))) hb1)
  have z2_0 : w1.cell? ⟨w.heap.size + 1 + 1, 0, none⟩ = some (.string ls2) := (K2.out).2 0 _ rfl
  have z2_1 : w1.cell? ⟨w.heap.size + 1 + 1, 1, none⟩ = some (.int .i64 i1_2) := (K2.out).2 1 _ rfl
  have z2_2 : w1.cell? ⟨w.heap.size + 1 + 1, 2, none⟩ = some (.int .i64 i2_2) := (K2.out).2 2 _ rfl
  have z2_3 : w1.cell? ⟨w.heap.size + 1 + 1, 3, none⟩ = some (.int .i64 i3_2) := (K2.out).2 3 _ rfl
  have z2_4 : w1.cell? ⟨w.heap.size + 1 + 1, 4, none⟩ = some (.int .i64 i4_2) := (K2.out).2 4 _ rfl
  have z2_5 : w1.cell? ⟨w.heap.size + 1 + 1, 5, none⟩ = some (.int .i64 i5_2) := (K2.out).2 5 _ rfl
  have z2_6 : w1.cell? ⟨w.heap.size + 1 + 1, 6, none⟩ = some (.int .i64 i6_2) := (K2.out).2 6 _ rfl
  have z2_7 : w1.cell? ⟨w.heap.size + 1 + 1, 7, none⟩ = some (.int .i64 i7_2) := (K2.out).2 7 _ rfl
  have z2_8 : w1.cell? ⟨w.heap.size + 1 + 1, 8, none⟩ = some (.slice A2 us2.length cp2) := (K2.out).2 8 _ rfl
  have z2_s : w.heap.size + 1 + 1 < w1.heap.size := (K2.out).1
  go_wp2_with fail
  refine (HZ2.out _ (RdI_kept H2.out (kept_trans b1 (by first | exact Below.refl _ _ | go_grown)))).mono ?_
  rintro e w2 ⟨rfl, hb2⟩
  have b2 := kept_trans (a := w) (kept_trans b1 (by first | exact Below.refl _ _ | go_grown)) hb2
  clear z2_s z2_0 z2_1 z2_2 z2_3 z2_4 z2_5 z2_6 z2_7 z2_8
  have kk2 := kept_trans (a := w1) (by first | exact Below.refl _ _ | go_grown) hb2
  replace K0 := Lib.hid (BoxR_kept K0.out kk2)
  replace K1 := Lib.hid (BoxR_kept K1.out kk2)
  replace K2 := Lib.hid (BoxR_kept K2.out kk2)
  have SOF := Lib.hid (show ∀ u, Below w2.heap.size w2 u → (fun w' => w'.cell? ⟨w.heap.size, 0, none⟩ = some (.slice A0 ks0.length cp0) ∧ w'.cell? ⟨w.heap.size + 1, 0, none⟩ = some (.int .i64 va) ∧ w'.cell? ⟨w.heap.size + 1, 1, none⟩ = some (.int .i64 vb) ∧ w'.cell? ⟨w.heap.size + 1, 2, none⟩ = some (.int .i64 vc) ∧ w'.cell? ⟨w.heap.size + 1, 3, none⟩ = some (.int .i64 vd) ∧ w'.cell? ⟨w.heap.size + 1 + 1, 0, none⟩ = some (.string ls2) ∧ w'.cell? ⟨w.heap.size + 1 + 1, 1, none⟩ = some (.int .i64 i1_2) ∧ w'.cell? ⟨w.heap.size + 1 + 1, 2, none⟩ = some (.int .i64 i2_2) ∧ w'.cell? ⟨w.heap.size + 1 + 1, 3, none⟩ = some (.int .i64 i3_2) ∧ w'.cell? ⟨w.heap.size + 1 + 1, 4, none⟩ = some (.int .i64 i4_2) ∧ w'.cell? ⟨w.heap.size + 1 + 1, 5, none⟩ = some (.int .i64 i5_2) ∧ w'.cell? ⟨w.heap.size + 1 + 1, 6, none⟩ = some (.int .i64 i6_2) ∧ w'.cell? ⟨w.heap.size + 1 + 1, 7, none⟩ = some (.int .i64 i7_2) ∧ w'.cell? ⟨w.heap.size + 1 + 1, 8, none⟩ = some (.slice A2 us2.length cp2)) u from fun u q => ⟨(BoxR_kept K0.out q).2 0 _ rfl, (BoxR_kept K1.out q).2 0 _ rfl, (BoxR_kept K1.out q).2 1 _ rfl, (BoxR_kept K1.out q).2 2 _ rfl, (BoxR_kept K1.out q).2 3 _ rfl, (BoxR_kept K2.out q).2 0 _ rfl, (BoxR_kept K2.out q).2 1 _ rfl, (BoxR_kept K2.out q).2 2 _ rfl, (BoxR_kept K2.out q).2 3 _ rfl, (BoxR_kept K2.out q).2 4 _ rfl, (BoxR_kept K2.out q).2 5 _ rfl, (BoxR_kept K2.out q).2 6 _ rfl, (BoxR_kept K2.out q).2 7 _ rfl, (BoxR_kept K2.out q).2 8 _ rfl⟩)
  have hrefl : Below w2.heap.size w2 w2 := Below.refl _ _
  go_wp2_with fail
  first
    | go_region_held3 (fun w' => w'.cell? ⟨w.heap.size, 0, none⟩ = some (.slice A0 ks0.length cp0) ∧ w'.cell? ⟨w.heap.size + 1, 0, none⟩ = some (.int .i64 va) ∧ w'.cell? ⟨w.heap.size + 1, 1, none⟩ = some (.int .i64 vb) ∧ w'.cell? ⟨w.heap.size + 1, 2, none⟩ = some (.int .i64 vc) ∧ w'.cell? ⟨w.heap.size + 1, 3, none⟩ = some (.int .i64 vd) ∧ w'.cell? ⟨w.heap.size + 1 + 1, 0, none⟩ = some (.string ls2) ∧ w'.cell? ⟨w.heap.size + 1 + 1, 1, none⟩ = some (.int .i64 i1_2) ∧ w'.cell? ⟨w.heap.size + 1 + 1, 2, none⟩ = some (.int .i64 i2_2) ∧ w'.cell? ⟨w.heap.size + 1 + 1, 3, none⟩ = some (.int .i64 i3_2) ∧ w'.cell? ⟨w.heap.size + 1 + 1, 4, none⟩ = some (.int .i64 i4_2) ∧ w'.cell? ⟨w.heap.size + 1 + 1, 5, none⟩ = some (.int .i64 i5_2) ∧ w'.cell? ⟨w.heap.size + 1 + 1, 6, none⟩ = some (.int .i64 i6_2) ∧ w'.cell? ⟨w.heap.size + 1 + 1, 7, none⟩ = some (.int .i64 i7_2) ∧ w'.cell? ⟨w.heap.size + 1 + 1, 8, none⟩ = some (.slice A2 us2.length cp2)) (first | (refine SOF.out _ ?_; assumption) | (refine SOF.out _ ?_; go_grown)) (first
        | (go_at_call 32; have pksz := krs2; refine (HS.out _ Ts_0 _ _ (RdK_kept rs_0_2 (by go_grown)) (RdI_kept rs_2_2 (by go_grown)) hcs_0 ms_0).mono ?_; rintro e wsz ⟨rfl, hsz⟩; have ksz := kept_trans (a := w2) (kept_trans krs2 (by go_grown)) hsz)
        | (go_at_call 12; have pks2 := krs1; refine (HF2.out _ (RdI_kept H2.out (kept_trans b2 (kept_trans krs1 (by go_grown))))).mono ?_; rintro e ws2 ⟨cs_2, rfl, hqs_2, hs2⟩; have rs_2_2 := CopyI_rd hqs_2; obtain ⟨As_2, cps_2, rfl, _, _⟩ := RdI_slice rs_2_2; have krs2 := kept_trans (a := w2) (kept_trans krs1 (by go_grown)) hs2; have rs_0_2 := RdK_kept rs_0_1 (kept_trans (a := ws1) (by go_grown) hs2))
        | (go_at_call 11; have pks1 := krs0; refine (toSp_any va vb vc vd _).mono ?_; rintro e ws1 ⟨rfl, hs1⟩; have krs1 := kept_trans (a := w2) (kept_trans krs0 (by go_grown)) hs1; have rs_0_1 := RdK_kept rs_0_0 (kept_trans (a := ws0) (by go_grown) hs1))
        | (go_at_call 22; refine (HF0.out _ (RdK_kept H0.out (kept_trans b2 (by go_grown)))).mono ?_; rintro e ws0 ⟨cs_0, rfl, hqs_0, hs0⟩; obtain ⟨Ts_0, rs_0_0, hcs_0, ms_0⟩ := SiteC_use hqs_0; obtain ⟨As_0, cps_0, rfl, _⟩ := RdK_at rs_0_0; have krs0 := kept_trans (a := w2) (by go_grown) hs0))
    | fail
  clear SOF hrefl
  have bs := kept_trans b2 ksz
  replace K0 := Lib.hid (BoxR_kept K0.out ksz)
  replace K1 := Lib.hid (BoxR_kept K1.out ksz)
  replace K2 := Lib.hid (BoxR_kept K2.out ksz)
  have z0_0 : wsz.cell? ⟨w.heap.size, 0, none⟩ = some (.slice A0 ks0.length cp0) := (K0.out).2 0 _ rfl
  have z0_s : w.heap.size < wsz.heap.size := (K0.out).1
  go_wp2_with fail
  clear z0_s z0_0
  refine (HF0.out _ (RdK_kept H0.out (kept_trans bs (by first | exact Below.refl _ _ | go_grown)))).mono ?_
  rintro e wx0 ⟨cx0, rfl, hcx0, hbx0⟩
  have kx0 := kept_trans (a := wsz) (by first | exact Below.refl _ _ | go_grown) hbx0
  have bx0 := kept_trans bs kx0
  replace K0 := Lib.hid (BoxR_kept K0.out kx0)
  replace K1 := Lib.hid (BoxR_kept K1.out kx0)
  replace K2 := Lib.hid (BoxR_kept K2.out kx0)
  obtain ⟨TX0, rx0, CAPX0, MX0⟩ := SiteC_use hcx0
  obtain ⟨AX0, cpX0, rfl, _⟩ := RdK_at rx0
  have RX0 := Lib.hid rx0; clear rx0
  have HC0 := Lib.hid hcx0; clear hcx0
  have z2_0 : wx0.cell? ⟨w.heap.size + 1 + 1, 0, none⟩ = some (.string ls2) := (K2.out).2 0 _ rfl
  have z2_1 : wx0.cell? ⟨w.heap.size + 1 + 1, 1, none⟩ = some (.int .i64 i1_2) := (K2.out).2 1 _ rfl
  have z2_2 : wx0.cell? ⟨w.heap.size + 1 + 1, 2, none⟩ = some (.int .i64 i2_2) := (K2.out).2 2 _ rfl
  have z2_3 : wx0.cell? ⟨w.heap.size + 1 + 1, 3, none⟩ = some (.int .i64 i3_2) := (K2.out).2 3 _ rfl
  have z2_4 : wx0.cell? ⟨w.heap.size + 1 + 1, 4, none⟩ = some (.int .i64 i4_2) := (K2.out).2 4 _ rfl
  have z2_5 : wx0.cell? ⟨w.heap.size + 1 + 1, 5, none⟩ = some (.int .i64 i5_2) := (K2.out).2 5 _ rfl
  have z2_6 : wx0.cell? ⟨w.heap.size + 1 + 1, 6, none⟩ = some (.int .i64 i6_2) := (K2.out).2 6 _ rfl
  have z2_7 : wx0.cell? ⟨w.heap.size + 1 + 1, 7, none⟩ = some (.int .i64 i7_2) := (K2.out).2 7 _ rfl
  have z2_8 : wx0.cell? ⟨w.heap.size + 1 + 1, 8, none⟩ = some (.slice A2 us2.length cp2) := (K2.out).2 8 _ rfl
  have z2_s : w.heap.size + 1 + 1 < wx0.heap.size := (K2.out).1
  go_wp2_with fail
  clear z2_s z2_0 z2_1 z2_2 z2_3 z2_4 z2_5 z2_6 z2_7 z2_8
  refine (HF2.out _ (RdI_kept H2.out (kept_trans bx0 (by go_grown)))).mono ?_
  rintro e wx2 ⟨cx2, rfl, hcx2, hbx2⟩
  have kx2 := kept_trans (a := wx0) (by first | exact Below.refl _ _ | go_grown) hbx2
  have bx2 := kept_trans bx0 kx2
  have X0 : Hid (BoxR wx2 wx0.heap.size [.slice AX0 TX0.length cpX0]) := Lib.hid (BoxR_kept (BoxR_new' rfl) hbx2)
  replace K0 := Lib.hid (BoxR_kept K0.out kx2)
  replace K1 := Lib.hid (BoxR_kept K1.out kx2)
  replace K2 := Lib.hid (BoxR_kept K2.out kx2)
  replace HC0 := Lib.hid (SiteC_kept HC0.out kx2)
  replace RX0 := Lib.hid (RdK_kept RX0.out kx2)
  obtain ⟨AX2, cpX2, rfl, _, _⟩ := RdI_slice (CopyI_rd hcx2)
  have HC2 := Lib.hid hcx2; clear hcx2
  have gx : Below wx2.heap.size wx2 (wx2.alloc (.cells #[.string ls2, .int .i64 i1_2, .int .i64 i2_2, .int .i64 i3_2, .int .i64 i4_2, .int .i64 i5_2, .int .i64 i6_2, .int .i64 i7_2, .slice AX2 us2.length cpX2] 44)) := by go_grown
  have Y0 : Hid (BoxR (wx2.alloc (.cells #[.string ls2, .int .i64 i1_2, .int .i64 i2_2, .int .i64 i3_2, .int .i64 i4_2, .int .i64 i5_2, .int .i64 i6_2, .int .i64 i7_2, .slice AX2 us2.length cpX2] 44)) wx0.heap.size [.slice AX0 TX0.length cpX0]) := Lib.hid (BoxR_kept X0.out gx)
  have Y2 : Hid (BoxR (wx2.alloc (.cells #[.string ls2, .int .i64 i1_2, .int .i64 i2_2, .int .i64 i3_2, .int .i64 i4_2, .int .i64 i5_2, .int .i64 i6_2, .int .i64 i7_2, .slice AX2 us2.length cpX2] 44)) wx2.heap.size [.string ls2, .int .i64 i1_2, .int .i64 i2_2, .int .i64 i3_2, .int .i64 i4_2, .int .i64 i5_2, .int .i64 i6_2, .int .i64 i7_2, .slice AX2 us2.length cpX2]) := Lib.hid (BoxR_new' rfl)
  have Y1 := Lib.hid (BoxR_kept K1.out gx)
  have Q0 := Lib.hid (RdK_kept RX0.out gx)
  have Q2 := Lib.hid (RdI_kept (CopyI_rd HC2.out) gx)
  have bwx := kept_trans bx2 gx
  have SOF := Lib.hid (show ∀ u, Below (wx2.alloc (.cells #[.string ls2, .int .i64 i1_2, .int .i64 i2_2, .int .i64 i3_2, .int .i64 i4_2, .int .i64 i5_2, .int .i64 i6_2, .int .i64 i7_2, .slice AX2 us2.length cpX2] 44)).heap.size (wx2.alloc (.cells #[.string ls2, .int .i64 i1_2, .int .i64 i2_2, .int .i64 i3_2, .int .i64 i4_2, .int .i64 i5_2, .int .i64 i6_2, .int .i64 i7_2, .slice AX2 us2.length cpX2] 44)) u → (fun w' => w'.cell? ⟨wx0.heap.size, 0, none⟩ = some (.slice AX0 TX0.length cpX0) ∧ w'.cell? ⟨wx2.heap.size, 0, none⟩ = some (.string ls2) ∧ w'.cell? ⟨wx2.heap.size, 1, none⟩ = some (.int .i64 i1_2) ∧ w'.cell? ⟨wx2.heap.size, 2, none⟩ = some (.int .i64 i2_2) ∧ w'.cell? ⟨wx2.heap.size, 3, none⟩ = some (.int .i64 i3_2) ∧ w'.cell? ⟨wx2.heap.size, 4, none⟩ = some (.int .i64 i4_2) ∧ w'.cell? ⟨wx2.heap.size, 5, none⟩ = some (.int .i64 i5_2) ∧ w'.cell? ⟨wx2.heap.size, 6, none⟩ = some (.int .i64 i6_2) ∧ w'.cell? ⟨wx2.heap.size, 7, none⟩ = some (.int .i64 i7_2) ∧ w'.cell? ⟨wx2.heap.size, 8, none⟩ = some (.slice AX2 us2.length cpX2) ∧ w'.cell? ⟨w.heap.size + 1, 0, none⟩ = some (.int .i64 va) ∧ w'.cell? ⟨w.heap.size + 1, 1, none⟩ = some (.int .i64 vb) ∧ w'.cell? ⟨w.heap.size + 1, 2, none⟩ = some (.int .i64 vc) ∧ w'.cell? ⟨w.heap.size + 1, 3, none⟩ = some (.int .i64 vd)) u from fun u q => ⟨(BoxR_kept Y0.out q).2 0 _ rfl, (BoxR_kept Y2.out q).2 0 _ rfl, (BoxR_kept Y2.out q).2 1 _ rfl, (BoxR_kept Y2.out q).2 2 _ rfl, (BoxR_kept Y2.out q).2 3 _ rfl, (BoxR_kept Y2.out q).2 4 _ rfl, (BoxR_kept Y2.out q).2 5 _ rfl, (BoxR_kept Y2.out q).2 6 _ rfl, (BoxR_kept Y2.out q).2 7 _ rfl, (BoxR_kept Y2.out q).2 8 _ rfl, (BoxR_kept Y1.out q).2 0 _ rfl, (BoxR_kept Y1.out q).2 1 _ rfl, (BoxR_kept Y1.out q).2 2 _ rfl, (BoxR_kept Y1.out q).2 3 _ rfl⟩)
  have hrefl : Below (wx2.alloc (.cells #[.string ls2, .int .i64 i1_2, .int .i64 i2_2, .int .i64 i3_2, .int .i64 i4_2, .int .i64 i5_2, .int .i64 i6_2, .int .i64 i7_2, .slice AX2 us2.length cpX2] 44)).heap.size (wx2.alloc (.cells #[.string ls2, .int .i64 i1_2, .int .i64 i2_2, .int .i64 i3_2, .int .i64 i4_2, .int .i64 i5_2, .int .i64 i6_2, .int .i64 i7_2, .slice AX2 us2.length cpX2] 44)) (wx2.alloc (.cells #[.string ls2, .int .i64 i1_2, .int .i64 i2_2, .int .i64 i3_2, .int .i64 i4_2, .int .i64 i5_2, .int .i64 i6_2, .int .i64 i7_2, .slice AX2 us2.length cpX2] 44)) := Below.refl _ _
  go_wp2_with fail
  first
    | go_region_held3 (fun w' => w'.cell? ⟨wx0.heap.size, 0, none⟩ = some (.slice AX0 TX0.length cpX0) ∧ w'.cell? ⟨wx2.heap.size, 0, none⟩ = some (.string ls2) ∧ w'.cell? ⟨wx2.heap.size, 1, none⟩ = some (.int .i64 i1_2) ∧ w'.cell? ⟨wx2.heap.size, 2, none⟩ = some (.int .i64 i2_2) ∧ w'.cell? ⟨wx2.heap.size, 3, none⟩ = some (.int .i64 i3_2) ∧ w'.cell? ⟨wx2.heap.size, 4, none⟩ = some (.int .i64 i4_2) ∧ w'.cell? ⟨wx2.heap.size, 5, none⟩ = some (.int .i64 i5_2) ∧ w'.cell? ⟨wx2.heap.size, 6, none⟩ = some (.int .i64 i6_2) ∧ w'.cell? ⟨wx2.heap.size, 7, none⟩ = some (.int .i64 i7_2) ∧ w'.cell? ⟨wx2.heap.size, 8, none⟩ = some (.slice AX2 us2.length cpX2) ∧ w'.cell? ⟨w.heap.size + 1, 0, none⟩ = some (.int .i64 va) ∧ w'.cell? ⟨w.heap.size + 1, 1, none⟩ = some (.int .i64 vb) ∧ w'.cell? ⟨w.heap.size + 1, 2, none⟩ = some (.int .i64 vc) ∧ w'.cell? ⟨w.heap.size + 1, 3, none⟩ = some (.int .i64 vd)) (first | (refine SOF.out _ ?_; assumption) | (refine SOF.out _ ?_; go_grown)) (first
        | (go_at_call 33; have pkgz := krg0; refine (HV.out _ TX0 _ _ (RdK_kept Q0.out (kept_trans (a := (wx2.alloc (.cells #[.string ls2, .int .i64 i1_2, .int .i64 i2_2, .int .i64 i3_2, .int .i64 i4_2, .int .i64 i5_2, .int .i64 i6_2, .int .i64 i7_2, .slice AX2 us2.length cpX2] 44))) krg0 (by go_grown))) (RdI_kept Q2.out (kept_trans (a := (wx2.alloc (.cells #[.string ls2, .int .i64 i1_2, .int .i64 i2_2, .int .i64 i3_2, .int .i64 i4_2, .int .i64 i5_2, .int .i64 i6_2, .int .i64 i7_2, .slice AX2 us2.length cpX2] 44))) krg0 (by go_grown))) CAPX0 MX0 (EVs_kept HTX.out (kept_trans bwx (kept_trans krg0 (by go_grown))))).mono ?_; rintro e wgz ⟨rfl, hgz⟩; have kgz := kept_trans (a := (wx2.alloc (.cells #[.string ls2, .int .i64 i1_2, .int .i64 i2_2, .int .i64 i3_2, .int .i64 i4_2, .int .i64 i5_2, .int .i64 i6_2, .int .i64 i7_2, .slice AX2 us2.length cpX2] 44))) (kept_trans krg0 (by go_grown)) hgz)
        | (go_at_call 11; refine (toSp_any va vb vc vd _).mono ?_; rintro e wg0 ⟨rfl, hg0⟩; have krg0 := kept_trans (a := (wx2.alloc (.cells #[.string ls2, .int .i64 i1_2, .int .i64 i2_2, .int .i64 i3_2, .int .i64 i4_2, .int .i64 i5_2, .int .i64 i6_2, .int .i64 i7_2, .slice AX2 us2.length cpX2] 44))) (by go_grown) hg0))
    | fail
  clear SOF hrefl
  have kg := kept_trans gx kgz
  have X2 := Lib.hid (BoxR_kept Y2.out kgz)
  clear Y0 Y2 Y1
  clear Q0 Q2
  replace K0 := Lib.hid (BoxR_kept K0.out kg)
  replace K1 := Lib.hid (BoxR_kept K1.out kg)
  replace K2 := Lib.hid (BoxR_kept K2.out kg)
  replace X0 := Lib.hid (BoxR_kept X0.out kg)
  replace HC0 := Lib.hid (SiteC_kept HC0.out kg)
  replace HC2 := Lib.hid (CopyI_kept HC2.out kg)
  have bg := kept_trans bx2 kg
  clear RX0 CAPX0 MX0
  have SOF := Lib.hid (show ∀ u, Below wgz.heap.size wgz u → (fun w' => w'.cell? ⟨wx0.heap.size, 0, none⟩ = some (.slice AX0 TX0.length cpX0) ∧ w'.cell? ⟨w.heap.size, 0, none⟩ = some (.slice A0 ks0.length cp0)) u from fun u q => ⟨(BoxR_kept X0.out q).2 0 _ rfl, (BoxR_kept K0.out q).2 0 _ rfl⟩)
  have hrefl : Below wgz.heap.size wgz wgz := Below.refl _ _
  go_wp2_with fail
  first
    | go_region_held3 (fun w' => w'.cell? ⟨wx0.heap.size, 0, none⟩ = some (.slice AX0 TX0.length cpX0) ∧ w'.cell? ⟨w.heap.size, 0, none⟩ = some (.slice A0 ks0.length cp0)) (first | (refine SOF.out _ ?_; assumption) | (refine SOF.out _ ?_; go_grown)) (first
        | (go_at_call 26; have pki0 := ki0a; refine (HX0.out _ _ _ _ _ _ _ (SiteC_kept HC0.out (kept_trans ki0a (by go_grown))) (SiteC_kept hqi0 (by go_grown))).mono ?_; rintro e wi0z ⟨rfl, hi0z⟩; have ki0z := kept_trans (a := wgz) (kept_trans ki0a (by go_grown)) hi0z)
        | (go_at_call 22; refine (HF0.out _ (RdK_kept H0.out (kept_trans bg (by go_grown)))).mono ?_; rintro e wi0a ⟨ci0, rfl, hqi0, hi0a⟩; have ki0a := kept_trans (a := wgz) (by go_grown) hi0a))
    | fail
  clear SOF hrefl
  have bi0 := kept_trans bg ki0z
  clear X0
  replace K0 := Lib.hid (BoxR_kept K0.out ki0z)
  replace K1 := Lib.hid (BoxR_kept K1.out ki0z)
  replace K2 := Lib.hid (BoxR_kept K2.out ki0z)
  replace X2 := Lib.hid (BoxR_kept X2.out ki0z)
  clear HC0
  replace HC2 := Lib.hid (CopyI_kept HC2.out ki0z)
  have SOF := Lib.hid (show ∀ u, Below wi0z.heap.size wi0z u → (fun w' => w'.cell? ⟨wx2.heap.size, 0, none⟩ = some (.string ls2) ∧ w'.cell? ⟨wx2.heap.size, 1, none⟩ = some (.int .i64 i1_2) ∧ w'.cell? ⟨wx2.heap.size, 2, none⟩ = some (.int .i64 i2_2) ∧ w'.cell? ⟨wx2.heap.size, 3, none⟩ = some (.int .i64 i3_2) ∧ w'.cell? ⟨wx2.heap.size, 4, none⟩ = some (.int .i64 i4_2) ∧ w'.cell? ⟨wx2.heap.size, 5, none⟩ = some (.int .i64 i5_2) ∧ w'.cell? ⟨wx2.heap.size, 6, none⟩ = some (.int .i64 i6_2) ∧ w'.cell? ⟨wx2.heap.size, 7, none⟩ = some (.int .i64 i7_2) ∧ w'.cell? ⟨wx2.heap.size, 8, none⟩ = some (.slice AX2 us2.length cpX2) ∧ w'.cell? ⟨w.heap.size + 1 + 1, 0, none⟩ = some (.string ls2) ∧ w'.cell? ⟨w.heap.size + 1 + 1, 1, none⟩ = some (.int .i64 i1_2) ∧ w'.cell? ⟨w.heap.size + 1 + 1, 2, none⟩ = some (.int .i64 i2_2) ∧ w'.cell? ⟨w.heap.size + 1 + 1, 3, none⟩ = some (.int .i64 i3_2) ∧ w'.cell? ⟨w.heap.size + 1 + 1, 4, none⟩ = some (.int .i64 i4_2) ∧ w'.cell? ⟨w.heap.size + 1 + 1, 5, none⟩ = some (.int .i64 i5_2) ∧ w'.cell? ⟨w.heap.size + 1 + 1, 6, none⟩ = some (.int .i64 i6_2) ∧ w'.cell? ⟨w.heap.size + 1 + 1, 7, none⟩ = some (.int .i64 i7_2) ∧ w'.cell? ⟨w.heap.size + 1 + 1, 8, none⟩ = some (.slice A2 us2.length cp2)) u from fun u q => ⟨(BoxR_kept X2.out q).2 0 _ rfl, (BoxR_kept X2.out q).2 1 _ rfl, (BoxR_kept X2.out q).2 2 _ rfl, (BoxR_kept X2.out q).2 3 _ rfl, (BoxR_kept X2.out q).2 4 _ rfl, (BoxR_kept X2.out q).2 5 _ rfl, (BoxR_kept X2.out q).2 6 _ rfl, (BoxR_kept X2.out q).2 7 _ rfl, (BoxR_kept X2.out q).2 8 _ rfl, (BoxR_kept K2.out q).2 0 _ rfl, (BoxR_kept K2.out q).2 1 _ rfl, (BoxR_kept K2.out q).2 2 _ rfl, (BoxR_kept K2.out q).2 3 _ rfl, (BoxR_kept K2.out q).2 4 _ rfl, (BoxR_kept K2.out q).2 5 _ rfl, (BoxR_kept K2.out q).2 6 _ rfl, (BoxR_kept K2.out q).2 7 _ rfl, (BoxR_kept K2.out q).2 8 _ rfl⟩)
  have hrefl : Below wi0z.heap.size wi0z wi0z := Below.refl _ _
  go_wp2_with fail
  first
    | go_region_held3 (fun w' => w'.cell? ⟨wx2.heap.size, 0, none⟩ = some (.string ls2) ∧ w'.cell? ⟨wx2.heap.size, 1, none⟩ = some (.int .i64 i1_2) ∧ w'.cell? ⟨wx2.heap.size, 2, none⟩ = some (.int .i64 i2_2) ∧ w'.cell? ⟨wx2.heap.size, 3, none⟩ = some (.int .i64 i3_2) ∧ w'.cell? ⟨wx2.heap.size, 4, none⟩ = some (.int .i64 i4_2) ∧ w'.cell? ⟨wx2.heap.size, 5, none⟩ = some (.int .i64 i5_2) ∧ w'.cell? ⟨wx2.heap.size, 6, none⟩ = some (.int .i64 i6_2) ∧ w'.cell? ⟨wx2.heap.size, 7, none⟩ = some (.int .i64 i7_2) ∧ w'.cell? ⟨wx2.heap.size, 8, none⟩ = some (.slice AX2 us2.length cpX2) ∧ w'.cell? ⟨w.heap.size + 1 + 1, 0, none⟩ = some (.string ls2) ∧ w'.cell? ⟨w.heap.size + 1 + 1, 1, none⟩ = some (.int .i64 i1_2) ∧ w'.cell? ⟨w.heap.size + 1 + 1, 2, none⟩ = some (.int .i64 i2_2) ∧ w'.cell? ⟨w.heap.size + 1 + 1, 3, none⟩ = some (.int .i64 i3_2) ∧ w'.cell? ⟨w.heap.size + 1 + 1, 4, none⟩ = some (.int .i64 i4_2) ∧ w'.cell? ⟨w.heap.size + 1 + 1, 5, none⟩ = some (.int .i64 i5_2) ∧ w'.cell? ⟨w.heap.size + 1 + 1, 6, none⟩ = some (.int .i64 i6_2) ∧ w'.cell? ⟨w.heap.size + 1 + 1, 7, none⟩ = some (.int .i64 i7_2) ∧ w'.cell? ⟨w.heap.size + 1 + 1, 8, none⟩ = some (.slice A2 us2.length cp2)) (first | (refine SOF.out _ ?_; assumption) | (refine SOF.out _ ?_; go_grown)) (first
        | (go_at_call 15; have pki2 := ki2a; refine (HX2.out _ _ _ _ _ _ _ (CopyI_kept HC2.out (kept_trans ki2a (by go_grown))) (CopyI_kept hqi2 (by go_grown))).mono ?_; rintro e wi2z ⟨rfl, hi2z⟩; have ki2z := kept_trans (a := wi0z) (kept_trans ki2a (by go_grown)) hi2z)
        | (go_at_call 12; refine (HF2.out _ (RdI_kept H2.out (kept_trans bi0 (by go_grown)))).mono ?_; rintro e wi2a ⟨ci2, rfl, hqi2, hi2a⟩; have ki2a := kept_trans (a := wi0z) (by go_grown) hi2a))
    | fail
  clear SOF hrefl
  have bi2 := kept_trans bi0 ki2z
  clear X2
  replace K0 := Lib.hid (BoxR_kept K0.out ki2z)
  replace K1 := Lib.hid (BoxR_kept K1.out ki2z)
  replace K2 := Lib.hid (BoxR_kept K2.out ki2z)
  clear HC2
  have SOF := Lib.hid (show ∀ u, Below wi2z.heap.size wi2z u → (fun w' => w'.cell? ⟨w.heap.size, 0, none⟩ = some (.slice A0 ks0.length cp0) ∧ w'.cell? ⟨w.heap.size + 1, 0, none⟩ = some (.int .i64 va) ∧ w'.cell? ⟨w.heap.size + 1, 1, none⟩ = some (.int .i64 vb) ∧ w'.cell? ⟨w.heap.size + 1, 2, none⟩ = some (.int .i64 vc) ∧ w'.cell? ⟨w.heap.size + 1, 3, none⟩ = some (.int .i64 vd) ∧ w'.cell? ⟨w.heap.size + 1 + 1, 0, none⟩ = some (.string ls2) ∧ w'.cell? ⟨w.heap.size + 1 + 1, 1, none⟩ = some (.int .i64 i1_2) ∧ w'.cell? ⟨w.heap.size + 1 + 1, 2, none⟩ = some (.int .i64 i2_2) ∧ w'.cell? ⟨w.heap.size + 1 + 1, 3, none⟩ = some (.int .i64 i3_2) ∧ w'.cell? ⟨w.heap.size + 1 + 1, 4, none⟩ = some (.int .i64 i4_2) ∧ w'.cell? ⟨w.heap.size + 1 + 1, 5, none⟩ = some (.int .i64 i5_2) ∧ w'.cell? ⟨w.heap.size + 1 + 1, 6, none⟩ = some (.int .i64 i6_2) ∧ w'.cell? ⟨w.heap.size + 1 + 1, 7, none⟩ = some (.int .i64 i7_2) ∧ w'.cell? ⟨w.heap.size + 1 + 1, 8, none⟩ = some (.slice A2 us2.length cp2)) u from fun u q => ⟨(BoxR_kept K0.out q).2 0 _ rfl, (BoxR_kept K1.out q).2 0 _ rfl, (BoxR_kept K1.out q).2 1 _ rfl, (BoxR_kept K1.out q).2 2 _ rfl, (BoxR_kept K1.out q).2 3 _ rfl, (BoxR_kept K2.out q).2 0 _ rfl, (BoxR_kept K2.out q).2 1 _ rfl, (BoxR_kept K2.out q).2 2 _ rfl, (BoxR_kept K2.out q).2 3 _ rfl, (BoxR_kept K2.out q).2 4 _ rfl, (BoxR_kept K2.out q).2 5 _ rfl, (BoxR_kept K2.out q).2 6 _ rfl, (BoxR_kept K2.out q).2 7 _ rfl, (BoxR_kept K2.out q).2 8 _ rfl⟩)
  have hrefl : Below wi2z.heap.size wi2z wi2z := Below.refl _ _
  go_wp2_with fail
  first
    | go_region_held3 (fun w' => w'.cell? ⟨w.heap.size, 0, none⟩ = some (.slice A0 ks0.length cp0) ∧ w'.cell? ⟨w.heap.size + 1, 0, none⟩ = some (.int .i64 va) ∧ w'.cell? ⟨w.heap.size + 1, 1, none⟩ = some (.int .i64 vb) ∧ w'.cell? ⟨w.heap.size + 1, 2, none⟩ = some (.int .i64 vc) ∧ w'.cell? ⟨w.heap.size + 1, 3, none⟩ = some (.int .i64 vd) ∧ w'.cell? ⟨w.heap.size + 1 + 1, 0, none⟩ = some (.string ls2) ∧ w'.cell? ⟨w.heap.size + 1 + 1, 1, none⟩ = some (.int .i64 i1_2) ∧ w'.cell? ⟨w.heap.size + 1 + 1, 2, none⟩ = some (.int .i64 i2_2) ∧ w'.cell? ⟨w.heap.size + 1 + 1, 3, none⟩ = some (.int .i64 i3_2) ∧ w'.cell? ⟨w.heap.size + 1 + 1, 4, none⟩ = some (.int .i64 i4_2) ∧ w'.cell? ⟨w.heap.size + 1 + 1, 5, none⟩ = some (.int .i64 i5_2) ∧ w'.cell? ⟨w.heap.size + 1 + 1, 6, none⟩ = some (.int .i64 i6_2) ∧ w'.cell? ⟨w.heap.size + 1 + 1, 7, none⟩ = some (.int .i64 i7_2) ∧ w'.cell? ⟨w.heap.size + 1 + 1, 8, none⟩ = some (.slice A2 us2.length cp2)) (first | (refine SOF.out _ ?_; assumption) | (refine SOF.out _ ?_; go_grown)) (first
        | (go_at_call 33; have pkhz := krh2; refine (HV.out _ Th_0 _ _ (RdK_kept rh_0_2 (by go_grown)) (RdI_kept rh_2_2 (by go_grown)) hch_0 mh_0 (EVs_kept HTX.out (kept_trans bi2 (kept_trans krh2 (by go_grown))))).mono ?_; rintro e whz ⟨rfl, hhz⟩; have khz := kept_trans (a := wi2z) (kept_trans krh2 (by go_grown)) hhz)
        | (go_at_call 12; have pkh2 := krh1; refine (HT2.out _ (RdI_kept H2.out (kept_trans bi2 (kept_trans krh1 (by go_grown))))).mono ?_; rintro e wh2 ⟨ch_2, rfl, hqh_2, hh2⟩; have rh_2_2 := RowI_rd hqh_2; obtain ⟨Ah_2, cph_2, rfl, _, _⟩ := RdI_slice rh_2_2; have krh2 := kept_trans (a := wi2z) (kept_trans krh1 (by go_grown)) hh2; have rh_0_2 := RdK_kept rh_0_1 (kept_trans (a := wh1) (by go_grown) hh2))
        | (go_at_call 11; have pkh1 := krh0; refine (toSp_any va vb vc vd _).mono ?_; rintro e wh1 ⟨rfl, hh1⟩; have krh1 := kept_trans (a := wi2z) (kept_trans krh0 (by go_grown)) hh1; have rh_0_1 := RdK_kept rh_0_0 (kept_trans (a := wh0) (by go_grown) hh1))
        | (go_at_call 22; refine (HT0.out _ (RdK_kept H0.out (kept_trans bi2 (by go_grown)))).mono ?_; rintro e wh0 ⟨ch_0, Th_0, rfl, rh_0_0, hch_0, mh_0, hh0⟩; obtain ⟨Ah_0, cph_0, rfl, _⟩ := RdK_at rh_0_0; have krh0 := kept_trans (a := wi2z) (by go_grown) hh0))
    | fail
  clear SOF hrefl
  go_wp2
  go_ret
  exact ⟨rfl, kept_trans bi2 khz⟩

theorem vecTab_of_four {W : World} (h : laidMetH Tryz.prog [("loop.example/g00932/impl.firstVectors", Rows.laid_loop_example_g00932_impl_firstVectors), ("loop.example/g00932/impl.errNameTaken", Rows.laid_loop_example_g00932_impl_errNameTaken), ("loop.example/g00932/impl.errSiteFull", Rows.laid_loop_example_g00932_impl_errSiteFull), ("loop.example/g00932/impl.errTooNear", Rows.laid_loop_example_g00932_impl_errTooNear)] W) : VecTab W := by
  have h' : laidMet Tryz.prog [("loop.example/g00932/impl.firstVectors", Rows.laid_loop_example_g00932_impl_firstVectors), ("loop.example/g00932/impl.errNameTaken", Rows.laid_loop_example_g00932_impl_errNameTaken), ("loop.example/g00932/impl.errSiteFull", Rows.laid_loop_example_g00932_impl_errSiteFull), ("loop.example/g00932/impl.errTooNear", Rows.laid_loop_example_g00932_impl_errTooNear)] W := h
  obtain ⟨ps, ⟨g, t, cs, fuel, p, q, hg, ht, hvar, hd, _, _⟩, _⟩ := h'
  obtain rfl : 3 = g := Option.some.inj ((show Tryz.prog.globalNamed "loop.example/g00932/impl.firstVectors" = some 3 by kernel_rfl).symm.trans hg)
  obtain rfl : 181 = t := Option.some.inj ((show (Tryz.prog.globals[3]?).map (·.type) = some 181 by kernel_rfl).symm.trans ht)
  have hc := cells_of_pairs (zs := [(1000, 0), (966, 259), (866, 500), (707, 707), (500, 866), (259, 966)]) Tryz.underlying181 Tryz.underlying36 Tryz.underlying2 Tryz.underlying2 (by kernel_rfl) (by kernel_rfl) (by kernel_rfl) rfl rfl hd
  refine ⟨?_, fun k hk => ?_⟩
  · simp only [World.var?, hg, Option.bind_some] at hvar
    rcases Nat.lt_or_ge 3 W.heap.size with hlt | hge
    · exact hlt
    · rw [Array.getElem?_eq_none hge] at hvar; simp at hvar
  · have := hc k (by simpa using hk)
    rw [World.var?_cell hg hvar, World.var?_cell hg hvar, ← Array.getElem?_toList, ← Array.getElem?_toList, this.1, this.2]
    rcases (show k = 0 ∨ k = 1 ∨ k = 2 ∨ k = 3 ∨ k = 4 ∨ k = 5 by omega) with rfl | rfl | rfl | rfl | rfl | rfl <;> exact ⟨rfl, rfl⟩

theorem vars_four {H : Type} {enc : TypeId × Value → H} {P : Program} {W : World} {sp : Nat → Bool} {n1 n2 n3 n4 : String} {gs : List (DataW H)} {q : List MemPlace} (h : DataW.TrodVars enc P W sp [n1, n2, n3, n4] gs q) : ∃ g1 g2 g3 g4, gs = [g1, g2, g3, g4] := by
  have := vars_len _ _ _ h
  match gs, this with
  | [g1, g2, g3, g4], _ => exact ⟨_, _, _, _, rfl⟩

end Go.Proofs.YtnflaeimiegepacGreatDoor
