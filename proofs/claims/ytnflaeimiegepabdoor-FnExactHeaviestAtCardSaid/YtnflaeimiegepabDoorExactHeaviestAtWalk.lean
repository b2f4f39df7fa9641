import Derived.Test.YtnflaeimiegepabDoorRows
import Derived.WalkKit
import Derived.ProofKit
import Derived.OpenShut
import Derived.Lib.Hide
import Derived.Handy
import Derived.BigQuiet
import Derived.Carry
import Derived.Deep.DeepCutAuto
import Derived.Deep.QuietTactic
import Derived.Deep.RegionHeld3
import Derived.Deep.SlicePairs
import Derived.Laws.RangeAny
import Derived.Lib.LaidU8
import Derived.Lib.SmallJoins
import Derived.LoopIn
import Derived.LoopNIn
import Derived.OwnWalk
import Derived.OwnWalkIn
import Derived.RangeFuncBound
import Derived.RangeFuncCalls
import Derived.RangeFuncFrom
import Derived.RangeFuncLeaves
import Derived.RangeFuncNested
import Derived.Shelf.Abstract
import Derived.Shelf.RegionOpen
import Derived.TacticsInMore
import Derived.Test.YtnflaeimiegepabDoorCards
import Derived.Test.YtnflaeimiegepabDoorTie
import Derived.Lib.SmallJoins
import Derived.ChangeMaps5
import Derived.Deep.DeepHandedRow
import Derived.Deep.DeepWitnessRowRef
import Derived.Lib.LaidTab
import Derived.SevenTiedAt
import Derived.Test.YtnflaeimiegepabDoorExactHeaviestAtWalkb
namespace Go.Proofs.YtnflaeimiegepabDoor
open Go.ChangeShapes Go.WideShapes Go.ChangeAt Go.RowKit
set_option linter.unusedVariables false
set_option linter.unusedSimpArgs false


set_option maxRecDepth 100000 in
set_option maxHeartbeats 20000000 in
theorem walk_FnExactHeaviestAt (w : World) (c0 : Value) (ks0 : List (Cr × Value)) (hr0 : RdK w c0 ks0) (hk0 : wfS ks0) (px1 : Int) (wx1 : (Lit.int .i64 px1).wf = true) (py1 : Int) (wy1 : (Lit.int .i64 py1).wf = true) (ht : Ers w) :
    Calls Tryd.prog 4 #[.agg #[c0], .agg #[.int .i64 px1, .int .i64 py1]] w fun e w' => e = .returned (.bool true) ∧ Below w.heap.size w w' := by
  have HTX := Lib.hid ht; clear ht
  obtain ⟨A0, cp0, rfl, _⟩ := RdK_at hr0
  have H0 := Lib.hid hr0; clear hr0
  obtain ⟨hk0, hkl0⟩ := hk0
  unfold maxLen at hkl0
  have HZ0 := fun u q => szS_any (.slice A0 ks0.length cp0) ks0 1000000 u q (by omega) hk0
  by_cases hfit : (ks0.length : Int) + totK ks0 ≤ 1000000
  case neg =>
    simp only [if_neg hfit] at HZ0
    have HZ0 := Lib.hid HZ0
    clear hfit
    (try dsimp only at *)
    go_enter Tryd.func4, Tryd.ntmps4
    go_wp2_with fail
    refine (HZ0.out _ (RdK_kept H0.out (by go_grown))).mono ?_
    rintro e w1 ⟨rfl, hb1⟩
    have b1 := kept_trans (a := w) (by first | exact Below.refl _ _ | go_grown) hb1
    go_wp2
    go_ret
    exact ⟨rfl, b1⟩
  simp only [if_pos hfit] at HZ0
  have HZ0 := Lib.hid HZ0
  have hn0 : ks0.length ≤ 1000000 := by omega
  have hch0 : ∀ p ∈ ks0, p.1.ch.length ≤ 1000000 := fun p hp => by have := totK_mem hp; omega
  have hnm0 : ∀ p ∈ ks0, p.1.nm.size ≤ 1000000 := fun p hp => by have := totK_mem hp; omega
  have HF0 := Lib.hid (fun u (q : RdK u (.slice A0 ks0.length cp0) ks0) => toS_false _ ks0 u q hn0 hch0)
  have HT0 := Lib.hid (fun u (q : RdK u (.slice A0 ks0.length cp0) ks0) => toS_true _ ks0 u q hn0 hch0)
  have HX0 := Lib.hid (fun c1 c2 lo1 hi1 lo2 hi2 u h1 h2 => intactS_same (ks0.map (·.1)) c1 c2 lo1 hi1 lo2 hi2 u h1 h2)
  have hle1 : (0 : Int) ≤ 1000000 - ks0.length - totK ks0 := by omega
  have HS := Lib.hid (fun c0 T0 u (q0 : RdK u c0 T0) (hc0 : ∃ A cp, c0 = .slice A T0.length cp ∧ T0.length ≤ cp) (m0 : T0.map (·.1) = ks0.map (·.1)) => specHV_any c0 T0 ks0 px1 py1 u q0 m0 hnm0)
  have HV := Lib.hid (fun c0 T0 u (q0 : RdK u c0 T0) (hc0 : ∃ A cp, c0 = .slice A T0.length cp ∧ T0.length ≤ cp) (m0 : T0.map (·.1) = ks0.map (·.1)) (t : Ers u) => implHV_any c0 T0 ks0 px1 py1 u q0 hc0 m0 hnm0 t)
  clear hfit
  generalize heavL ks0 px1 py1 = R at *
  obtain ⟨ra, rb, rc⟩ := R
  clear hk0 hch0 hnm0
  generalize ks0.map (·.1) = ms0 at *
  generalize (totK ks0 : Int) = tk0 at *
  (try dsimp only at *)
  go_enter Tryd.func4, Tryd.ntmps4
  go_wp2_with fail
  refine (HZ0.out _ (RdK_kept H0.out (by go_grown))).mono ?_
  rintro e w1 ⟨rfl, hb1⟩
  have b1 := kept_trans (a := w) (by first | exact Below.refl _ _ | go_grown) hb1
  have K0 : Hid (BoxR w1 (w.heap.size) [.slice A0 ks0.length cp0]) := Lib.hid (BoxR_kept (BoxR_up ((BoxR_new' (by simp)))) hb1)
  have K1 : Hid (BoxR w1 (w.heap.size + 1) [.int .i64 px1, .int .i64 py1]) := Lib.hid (BoxR_kept ((BoxR_new' (by simp))) hb1)
  have SOF := Lib.hid (show ∀ u, Below w1.heap.size w1 u → (fun w' => w'.cell? ⟨w.heap.size, 0, none⟩ = some (.slice A0 ks0.length cp0) ∧ w'.cell? ⟨w.heap.size + 1, 0, none⟩ = some (.int .i64 px1) ∧ w'.cell? ⟨w.heap.size + 1, 1, none⟩ = some (.int .i64 py1)) u from fun u q => ⟨(BoxR_kept K0.out q).2 0 _ rfl, (BoxR_kept K1.out q).2 0 _ rfl, (BoxR_kept K1.out q).2 1 _ rfl⟩)
  have hrefl : Below w1.heap.size w1 w1 := Below.refl _ _
  go_wp2_with fail
  first
    | go_region_held3 (fun w' => w'.cell? ⟨w.heap.size, 0, none⟩ = some (.slice A0 ks0.length cp0) ∧ w'.cell? ⟨w.heap.size + 1, 0, none⟩ = some (.int .i64 px1) ∧ w'.cell? ⟨w.heap.size + 1, 1, none⟩ = some (.int .i64 py1)) (first | (refine SOF.out _ ?_; assumption) | (refine SOF.out _ ?_; go_grown)) (first
        | (go_at_call 14; have pksz := krs1; refine (HS.out _ Ts_0 _ (RdK_kept rs_0_1 (by go_grown)) hcs_0 ms_0).mono ?_; rintro e wsz ⟨rfl, hsz⟩; have ksz := kept_trans (a := w1) (kept_trans krs1 (by go_grown)) hsz)
        | (go_at_call 15; have pks1 := krs0; refine (toPoint_any _ _ _).mono ?_; rintro e ws1 ⟨rfl, hs1⟩; have krs1 := kept_trans (a := w1) (kept_trans krs0 (by go_grown)) hs1; have rs_0_1 := RdK_kept rs_0_0 (kept_trans (a := ws0) (by go_grown) hs1))
        | (go_at_call 9; refine (HF0.out _ (RdK_kept H0.out (kept_trans b1 (by go_grown)))).mono ?_; rintro e ws0 ⟨cs_0, rfl, hqs_0, hs0⟩; obtain ⟨Ts_0, rs_0_0, hcs_0, ms_0⟩ := SiteC_use hqs_0; obtain ⟨As_0, cps_0, rfl, _⟩ := RdK_at rs_0_0; have krs0 := kept_trans (a := w1) (by go_grown) hs0))
    | fail
  clear SOF hrefl
  have bs := kept_trans b1 ksz
  replace K0 := Lib.hid (BoxR_kept K0.out ksz)
  replace K1 := Lib.hid (BoxR_kept K1.out ksz)
  have z0_0 : wsz.cell? ⟨w.heap.size, 0, none⟩ = some (.slice A0 ks0.length cp0) := (K0.out).2 0 _ rfl
  have z0_s : w.heap.size < wsz.heap.size := (K0.out).1
  go_wp2_with fail
  clear z0_s z0_0
  refine (HF0.out _ (RdK_kept H0.out (kept_trans bs (by first | exact Below.refl _ _ | go_grown)))).mono ?_
  rintro e wx0 ⟨cx0, rfl, hcx0, hbx0⟩
  have kx0 := kept_trans (a := wsz) (by first | exact Below.refl _ _ | go_grown) hbx0
  have bx0 := kept_trans bs kx0
  replace K0 := Lib.hid (BoxR_kept K0.out kx0)
  replace K1 := Lib.hid (BoxR_kept K1.out kx0)
  obtain ⟨TX0, rx0, CAPX0, MX0⟩ := SiteC_use hcx0
  obtain ⟨AX0, cpX0, rfl, _⟩ := RdK_at rx0
  have RX0 := Lib.hid rx0; clear rx0
  have HC0 := Lib.hid hcx0; clear hcx0
  have gx : Below wx0.heap.size wx0 (wx0.alloc (.cells #[.slice AX0 TX0.length cpX0] 36)) := by go_grown
  have Y0 : Hid (BoxR (wx0.alloc (.cells #[.slice AX0 TX0.length cpX0] 36)) wx0.heap.size [.slice AX0 TX0.length cpX0]) := Lib.hid (BoxR_new' rfl)
  have Y1 := Lib.hid (BoxR_kept K1.out gx)
  have Q0 := Lib.hid (RdK_kept RX0.out gx)
  have bwx := kept_trans bx0 gx
  have SOF := Lib.hid (show ∀ u, Below (wx0.alloc (.cells #[.slice AX0 TX0.length cpX0] 36)).heap.size (wx0.alloc (.cells #[.slice AX0 TX0.length cpX0] 36)) u → (fun w' => w'.cell? ⟨wx0.heap.size, 0, none⟩ = some (.slice AX0 TX0.length cpX0) ∧ w'.cell? ⟨w.heap.size + 1, 0, none⟩ = some (.int .i64 px1) ∧ w'.cell? ⟨w.heap.size + 1, 1, none⟩ = some (.int .i64 py1)) u from fun u q => ⟨(BoxR_kept Y0.out q).2 0 _ rfl, (BoxR_kept Y1.out q).2 0 _ rfl, (BoxR_kept Y1.out q).2 1 _ rfl⟩)
  have hrefl : Below (wx0.alloc (.cells #[.slice AX0 TX0.length cpX0] 36)).heap.size (wx0.alloc (.cells #[.slice AX0 TX0.length cpX0] 36)) (wx0.alloc (.cells #[.slice AX0 TX0.length cpX0] 36)) := Below.refl _ _
  go_wp2_with fail
  first
    | go_region_held3 (fun w' => w'.cell? ⟨wx0.heap.size, 0, none⟩ = some (.slice AX0 TX0.length cpX0) ∧ w'.cell? ⟨w.heap.size + 1, 0, none⟩ = some (.int .i64 px1) ∧ w'.cell? ⟨w.heap.size + 1, 1, none⟩ = some (.int .i64 py1)) (first | (refine SOF.out _ ?_; assumption) | (refine SOF.out _ ?_; go_grown)) (first
        | (go_at_call 16; have pkgz := krg0; refine (HV.out _ TX0 _ (RdK_kept Q0.out (kept_trans (a := (wx0.alloc (.cells #[.slice AX0 TX0.length cpX0] 36))) krg0 (by go_grown))) CAPX0 MX0 (Ers_kept HTX.out (kept_trans bwx (kept_trans krg0 (by go_grown))))).mono ?_; rintro e wgz ⟨rfl, hgz⟩; have kgz := kept_trans (a := (wx0.alloc (.cells #[.slice AX0 TX0.length cpX0] 36))) (kept_trans krg0 (by go_grown)) hgz)
        | (go_at_call 15; refine (toPoint_any _ _ _).mono ?_; rintro e wg0 ⟨rfl, hg0⟩; have krg0 := kept_trans (a := (wx0.alloc (.cells #[.slice AX0 TX0.length cpX0] 36))) (by go_grown) hg0))
    | fail
  clear SOF hrefl
  have kg := kept_trans gx kgz
  have X0 := Lib.hid (BoxR_kept Y0.out kgz)
  clear Y0 Y1
  clear Q0
  replace K0 := Lib.hid (BoxR_kept K0.out kg)
  replace K1 := Lib.hid (BoxR_kept K1.out kg)
  replace HC0 := Lib.hid (SiteC_kept HC0.out kg)
  have bg := kept_trans bx0 kg
  clear RX0 CAPX0 MX0
  have SOF := Lib.hid (show ∀ u, Below wgz.heap.size wgz u → (fun w' => w'.cell? ⟨wx0.heap.size, 0, none⟩ = some (.slice AX0 TX0.length cpX0) ∧ w'.cell? ⟨w.heap.size, 0, none⟩ = some (.slice A0 ks0.length cp0)) u from fun u q => ⟨(BoxR_kept X0.out q).2 0 _ rfl, (BoxR_kept K0.out q).2 0 _ rfl⟩)
  have hrefl : Below wgz.heap.size wgz wgz := Below.refl _ _
  go_wp2_with fail
  first
    | go_region_held3 (fun w' => w'.cell? ⟨wx0.heap.size, 0, none⟩ = some (.slice AX0 TX0.length cpX0) ∧ w'.cell? ⟨w.heap.size, 0, none⟩ = some (.slice A0 ks0.length cp0)) (first | (refine SOF.out _ ?_; assumption) | (refine SOF.out _ ?_; go_grown)) (first
        | (go_at_call 12; have pki0 := ki0a; refine (HX0.out _ _ _ _ _ _ _ (SiteC_kept HC0.out (kept_trans ki0a (by go_grown))) (SiteC_kept hqi0 (by go_grown))).mono ?_; rintro e wi0z ⟨rfl, hi0z⟩; have ki0z := kept_trans (a := wgz) (kept_trans ki0a (by go_grown)) hi0z)
        | (go_at_call 9; refine (HF0.out _ (RdK_kept H0.out (kept_trans bg (by go_grown)))).mono ?_; rintro e wi0a ⟨ci0, rfl, hqi0, hi0a⟩; have ki0a := kept_trans (a := wgz) (by go_grown) hi0a))
    | fail
  clear SOF hrefl
  have bi0 := kept_trans bg ki0z
  clear X0
  replace K0 := Lib.hid (BoxR_kept K0.out ki0z)
  replace K1 := Lib.hid (BoxR_kept K1.out ki0z)
  clear HC0
  have SOF := Lib.hid (show ∀ u, Below wi0z.heap.size wi0z u → (fun w' => w'.cell? ⟨w.heap.size, 0, none⟩ = some (.slice A0 ks0.length cp0) ∧ w'.cell? ⟨w.heap.size + 1, 0, none⟩ = some (.int .i64 px1) ∧ w'.cell? ⟨w.heap.size + 1, 1, none⟩ = some (.int .i64 py1)) u from fun u q => ⟨(BoxR_kept K0.out q).2 0 _ rfl, (BoxR_kept K1.out q).2 0 _ rfl, (BoxR_kept K1.out q).2 1 _ rfl⟩)
  have hrefl : Below wi0z.heap.size wi0z wi0z := Below.refl _ _
  go_wp2_with fail
  first
    | go_region_held3 (fun w' => w'.cell? ⟨w.heap.size, 0, none⟩ = some (.slice A0 ks0.length cp0) ∧ w'.cell? ⟨w.heap.size + 1, 0, none⟩ = some (.int .i64 px1) ∧ w'.cell? ⟨w.heap.size + 1, 1, none⟩ = some (.int .i64 py1)) (first | (refine SOF.out _ ?_; assumption) | (refine SOF.out _ ?_; go_grown)) (first
        | (go_at_call 16; have pkhz := krh1; refine (HV.out _ Th_0 _ (RdK_kept rh_0_1 (by go_grown)) hch_0 mh_0 (Ers_kept HTX.out (kept_trans bi0 (kept_trans krh1 (by go_grown))))).mono ?_; rintro e whz ⟨rfl, hhz⟩; have khz := kept_trans (a := wi0z) (kept_trans krh1 (by go_grown)) hhz)
        | (go_at_call 15; have pkh1 := krh0; refine (toPoint_any _ _ _).mono ?_; rintro e wh1 ⟨rfl, hh1⟩; have krh1 := kept_trans (a := wi0z) (kept_trans krh0 (by go_grown)) hh1; have rh_0_1 := RdK_kept rh_0_0 (kept_trans (a := wh0) (by go_grown) hh1))
        | (go_at_call 9; refine (HT0.out _ (RdK_kept H0.out (kept_trans bi0 (by go_grown)))).mono ?_; rintro e wh0 ⟨ch_0, Th_0, rfl, rh_0_0, hch_0, mh_0, hh0⟩; obtain ⟨Ah_0, cph_0, rfl, _⟩ := RdK_at rh_0_0; have krh0 := kept_trans (a := wi0z) (by go_grown) hh0))
    | fail
  clear SOF hrefl
  go_wp2
  go_ret
  exact ⟨rfl, kept_trans bi0 khz⟩

end Go.Proofs.YtnflaeimiegepabDoor
