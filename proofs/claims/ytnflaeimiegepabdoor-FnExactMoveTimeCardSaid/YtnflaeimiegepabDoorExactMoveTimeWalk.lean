import Derived.Test.YtnflaeimiegepabDoorRows
import Derived.WalkKit
import Derived.ProofKit
import Derived.OpenShut
import Derived.Lib.Hide
import Derived.Handy
import Derived.BigQuiet
import Derived.Carry
import Derived.Deep.QuietTactic
import Derived.Deep.RegionHeld3
import Derived.Deep.SlicePairs
import Derived.Laws.RangeAny
import Derived.Lib.LaidTab
import Derived.Lib.SmallJoins
import Derived.Shelf.Abstract
import Derived.Test.YtnflaeimiegepabDoorCards
import Derived.Test.YtnflaeimiegepabDoorTie
import Derived.Lib.SmallJoins
import Derived.ChangeMaps5
import Derived.Deep.DeepHandedRow
import Derived.Deep.DeepWitnessRowRef
import Derived.Lib.LaidTab
import Derived.SevenTiedAt
import Derived.Test.YtnflaeimiegepabDoorExactMoveTimeWalka
namespace Go.Proofs.YtnflaeimiegepabDoor
open Go.ChangeShapes Go.WideShapes Go.ChangeAt Go.RowKit
set_option linter.unusedVariables false
set_option linter.unusedSimpArgs false


set_option maxRecDepth 100000 in
set_option maxHeartbeats 20000000 in
theorem walk_FnExactMoveTime (w : World) (k0 : Cr) (c0 : Value) (hr0 : RdP w c0 k0.ch) (hk0 : wfK k0) (va : Int) (wva : (Lit.int .i64 va).wf = true) (vb : Int) (wvb : (Lit.int .i64 vb).wf = true) (vc : Int) (wvc : (Lit.int .i64 vc).wf = true) (vd : Int) (wvd : (Lit.int .i64 vd).wf = true) (px2 : Int) (wx2 : (Lit.int .i64 px2).wf = true) (py2 : Int) (wy2 : (Lit.int .i64 py2).wf = true) (px3 : Int) (wx3 : (Lit.int .i64 px3).wf = true) (py3 : Int) (wy3 : (Lit.int .i64 py3).wf = true) (ht : VecTab w) :
    Calls Tryd.prog 5 #[.agg #[.string k0.nm, .int .i64 k0.x, .int .i64 k0.y, .int .i64 k0.h, .int .i64 k0.j, .int .i64 k0.b, c0], .agg #[.int .i64 va, .int .i64 vb, .int .i64 vc, .int .i64 vd], .agg #[.int .i64 px2, .int .i64 py2], .agg #[.int .i64 px3, .int .i64 py3]] w fun e w' => e = .returned (.bool true) ∧ Below w.heap.size w w' := by
  have HTX := Lib.hid ht; clear ht
  obtain ⟨A0, cp0, rfl, _, _⟩ := RdP_slice hr0
  have H0 := Lib.hid hr0; clear hr0
  have hsz0 := hk0.1
  clear hk0
  by_cases hfit : (k0.nm.size : Int) + (k0.ch.length : Int) ≤ 1000000
  case neg =>
    have HZ0 := Lib.hid (fun u q => szK_over k0 (.slice A0 k0.ch.length cp0) u hsz0 q hfit)
    clear hfit
    obtain ⟨s0, x0, y0, hh0, jj0, b0, zs0⟩ := k0
    (try dsimp only at *)
    go_enter Tryd.func5, Tryd.ntmps5
    go_wp2_with fail
    refine (HZ0.out _ (RdP_kept H0.out (by go_grown))).mono ?_
    rintro e w1 ⟨rfl, hb1⟩
    have b1 := kept_trans (a := w) (by first | exact Below.refl _ _ | go_grown) hb1
    go_wp2
    go_ret
    exact ⟨rfl, b1⟩
  have HZ0 := Lib.hid (fun u q => szK_fit k0 (.slice A0 k0.ch.length cp0) u hsz0 q hfit)
  have hks0 : k0.nm.size ≤ 1000000 := by omega
  have hcs0 : k0.ch.length ≤ 1000000 := by omega
  have HF0 := Lib.hid (fun u (q : RdP u (.slice A0 k0.ch.length cp0) k0.ch) => toK_false k0 _ u q (by omega))
  have HT0 := Lib.hid (fun u (q : RdP u (.slice A0 k0.ch.length cp0) k0.ch) => toK_true k0 _ u q (by omega))
  have HX0 := Lib.hid (fun c1 c2 lo1 hi1 lo2 hi2 u h1 h2 => intactK_same k0 c1 c2 lo1 hi1 lo2 hi2 u h1 h2)
  have hle1 : (0 : Int) ≤ 1000000 - k0.nm.size - k0.ch.length := by omega
  have HS := Lib.hid (fun c0 u (q0 : RdP u c0 k0.ch) => specMT_any k0 va vb vc vd px2 py2 px3 py3 c0 u q0 hks0)
  have HV := Lib.hid (fun c0 u (q0 : RdP u c0 k0.ch) (t : VecTab u) => implMT_any k0 va vb vc vd px2 py2 px3 py3 c0 u q0 hks0 t)
  clear hfit
  generalize moveL k0 va vb vc vd px2 py2 px3 py3 = R at *
  obtain ⟨ra, rb⟩ := R
  obtain ⟨s0, x0, y0, hh0, jj0, b0, zs0⟩ := k0
  (try dsimp only at *)
  go_enter Tryd.func5, Tryd.ntmps5
  go_wp2_with fail
  refine (HZ0.out _ (RdP_kept H0.out (by go_grown))).mono ?_
  rintro e w1 ⟨rfl, hb1⟩
  have b1 := kept_trans (a := w) (by first | exact Below.refl _ _ | go_grown) hb1
  have K0 : Hid (BoxR w1 (w.heap.size) [.string s0, .int .i64 x0, .int .i64 y0, .int .i64 hh0, .int .i64 jj0, .int .i64 b0, .slice A0 zs0.length cp0]) := Lib.hid (BoxR_kept (BoxR_up (BoxR_up (BoxR_up ((BoxR_new' (by simp)))))) hb1)
  have K1 : Hid (BoxR w1 (w.heap.size + 1) [.int .i64 va, .int .i64 vb, .int .i64 vc, .int .i64 vd]) := Lib.hid (BoxR_kept (BoxR_up (BoxR_up ((BoxR_new' (by simp))))) hb1)
  have K2 : Hid (BoxR w1 (w.heap.size + 2) [.int .i64 px2, .int .i64 py2]) := Lib.hid (BoxR_kept (BoxR_up ((BoxR_new' (by simp)))) hb1)
  have K3 : Hid (BoxR w1 (w.heap.size + 3) [.int .i64 px3, .int .i64 py3]) := Lib.hid (BoxR_kept ((BoxR_new' (by simp))) hb1)
  have SOF := Lib.hid (show ∀ u, Below w1.heap.size w1 u → (fun w' => w'.cell? ⟨w.heap.size, 0, none⟩ = some (.string s0) ∧ w'.cell? ⟨w.heap.size, 1, none⟩ = some (.int .i64 x0) ∧ w'.cell? ⟨w.heap.size, 2, none⟩ = some (.int .i64 y0) ∧ w'.cell? ⟨w.heap.size, 3, none⟩ = some (.int .i64 hh0) ∧ w'.cell? ⟨w.heap.size, 4, none⟩ = some (.int .i64 jj0) ∧ w'.cell? ⟨w.heap.size, 5, none⟩ = some (.int .i64 b0) ∧ w'.cell? ⟨w.heap.size, 6, none⟩ = some (.slice A0 zs0.length cp0) ∧ w'.cell? ⟨w.heap.size + 1, 0, none⟩ = some (.int .i64 va) ∧ w'.cell? ⟨w.heap.size + 1, 1, none⟩ = some (.int .i64 vb) ∧ w'.cell? ⟨w.heap.size + 1, 2, none⟩ = some (.int .i64 vc) ∧ w'.cell? ⟨w.heap.size + 1, 3, none⟩ = some (.int .i64 vd) ∧ w'.cell? ⟨w.heap.size + 2, 0, none⟩ = some (.int .i64 px2) ∧ w'.cell? ⟨w.heap.size + 2, 1, none⟩ = some (.int .i64 py2) ∧ w'.cell? ⟨w.heap.size + 3, 0, none⟩ = some (.int .i64 px3) ∧ w'.cell? ⟨w.heap.size + 3, 1, none⟩ = some (.int .i64 py3)) u from fun u q => ⟨(BoxR_kept K0.out q).2 0 _ rfl, (BoxR_kept K0.out q).2 1 _ rfl, (BoxR_kept K0.out q).2 2 _ rfl, (BoxR_kept K0.out q).2 3 _ rfl, (BoxR_kept K0.out q).2 4 _ rfl, (BoxR_kept K0.out q).2 5 _ rfl, (BoxR_kept K0.out q).2 6 _ rfl, (BoxR_kept K1.out q).2 0 _ rfl, (BoxR_kept K1.out q).2 1 _ rfl, (BoxR_kept K1.out q).2 2 _ rfl, (BoxR_kept K1.out q).2 3 _ rfl, (BoxR_kept K2.out q).2 0 _ rfl, (BoxR_kept K2.out q).2 1 _ rfl, (BoxR_kept K3.out q).2 0 _ rfl, (BoxR_kept K3.out q).2 1 _ rfl⟩)
  have hrefl : Below w1.heap.size w1 w1 := Below.refl _ _
  go_wp2_with fail
  first
    | go_region_held3 (fun w' => w'.cell? ⟨w.heap.size, 0, none⟩ = some (.string s0) ∧ w'.cell? ⟨w.heap.size, 1, none⟩ = some (.int .i64 x0) ∧ w'.cell? ⟨w.heap.size, 2, none⟩ = some (.int .i64 y0) ∧ w'.cell? ⟨w.heap.size, 3, none⟩ = some (.int .i64 hh0) ∧ w'.cell? ⟨w.heap.size, 4, none⟩ = some (.int .i64 jj0) ∧ w'.cell? ⟨w.heap.size, 5, none⟩ = some (.int .i64 b0) ∧ w'.cell? ⟨w.heap.size, 6, none⟩ = some (.slice A0 zs0.length cp0) ∧ w'.cell? ⟨w.heap.size + 1, 0, none⟩ = some (.int .i64 va) ∧ w'.cell? ⟨w.heap.size + 1, 1, none⟩ = some (.int .i64 vb) ∧ w'.cell? ⟨w.heap.size + 1, 2, none⟩ = some (.int .i64 vc) ∧ w'.cell? ⟨w.heap.size + 1, 3, none⟩ = some (.int .i64 vd) ∧ w'.cell? ⟨w.heap.size + 2, 0, none⟩ = some (.int .i64 px2) ∧ w'.cell? ⟨w.heap.size + 2, 1, none⟩ = some (.int .i64 py2) ∧ w'.cell? ⟨w.heap.size + 3, 0, none⟩ = some (.int .i64 px3) ∧ w'.cell? ⟨w.heap.size + 3, 1, none⟩ = some (.int .i64 py3)) (first | (refine SOF.out _ ?_; assumption) | (refine SOF.out _ ?_; go_grown)) (first
        | (go_at_call 18; have pksz := ks3; refine (HS.out _ _ (RdP_kept rs_0_3 (by go_grown))).mono ?_; rintro e wsz ⟨rfl, hsz⟩; have ksz := kept_trans (a := w1) (kept_trans ks3 (by go_grown)) hsz)
        | (go_at_call 15; have pks3 := ks2; refine (toPoint_any _ _ _).mono ?_; rintro e ws3 ⟨rfl, hs3⟩; have ks3 := kept_trans (a := w1) (kept_trans ks2 (by go_grown)) hs3; have rs_0_3 := RdP_kept rs_0_2 (kept_trans (a := ws2) (by go_grown) hs3))
        | (go_at_call 15; have pks2 := ks1; refine (toPoint_any _ _ _).mono ?_; rintro e ws2 ⟨rfl, hs2⟩; have ks2 := kept_trans (a := w1) (kept_trans ks1 (by go_grown)) hs2; have rs_0_2 := RdP_kept rs_0_1 (kept_trans (a := ws1) (by go_grown) hs2))
        | (go_at_call 20; have pks1 := ks0; refine (toSp_any va vb vc vd _).mono ?_; rintro e ws1 ⟨rfl, hs1⟩; have ks1 := kept_trans (a := w1) (kept_trans ks0 (by go_grown)) hs1; have rs_0_1 := RdP_kept rs_0_0 (kept_trans (a := ws0) (by go_grown) hs1))
        | (go_at_call 19; refine (HF0.out _ (RdP_kept H0.out (kept_trans b1 (by go_grown)))).mono ?_; rintro e ws0 ⟨cs_0, rfl, hqs_0, hs0⟩; have rs_0_0 := CopyC_rd hqs_0; obtain ⟨As_0, cps_0, rfl, _, _⟩ := RdP_slice rs_0_0; have ks0 := kept_trans (a := w1) (by go_grown) hs0))
    | fail
  clear SOF hrefl
  have bs := kept_trans b1 ksz
  replace K0 := Lib.hid (BoxR_kept K0.out ksz)
  replace K1 := Lib.hid (BoxR_kept K1.out ksz)
  replace K2 := Lib.hid (BoxR_kept K2.out ksz)
  replace K3 := Lib.hid (BoxR_kept K3.out ksz)
  go_wp2_with fail
  refine (HF0.out _ (RdP_kept H0.out (kept_trans bs (by first | exact Below.refl _ _ | go_grown)))).mono ?_
  rintro e wx0 ⟨cx0, rfl, hcx0, hbx0⟩
  have kx0 := kept_trans (a := wsz) (by first | exact Below.refl _ _ | go_grown) hbx0
  have bx0 := kept_trans bs kx0
  replace K0 := Lib.hid (BoxR_kept K0.out kx0)
  replace K1 := Lib.hid (BoxR_kept K1.out kx0)
  replace K2 := Lib.hid (BoxR_kept K2.out kx0)
  replace K3 := Lib.hid (BoxR_kept K3.out kx0)
  obtain ⟨AX0, cpX0, rfl, _, _⟩ := RdP_slice (CopyC_rd hcx0)
  have HC0 := Lib.hid hcx0; clear hcx0
  have gx : Below wx0.heap.size wx0 (wx0.alloc (.cells #[.string s0, .int .i64 x0, .int .i64 y0, .int .i64 hh0, .int .i64 jj0, .int .i64 b0, .slice AX0 zs0.length cpX0] 58)) := by go_grown
  have Y0 : Hid (BoxR (wx0.alloc (.cells #[.string s0, .int .i64 x0, .int .i64 y0, .int .i64 hh0, .int .i64 jj0, .int .i64 b0, .slice AX0 zs0.length cpX0] 58)) wx0.heap.size [.string s0, .int .i64 x0, .int .i64 y0, .int .i64 hh0, .int .i64 jj0, .int .i64 b0, .slice AX0 zs0.length cpX0]) := Lib.hid (BoxR_new' rfl)
  have Y1 := Lib.hid (BoxR_kept K1.out gx)
  have Y2 := Lib.hid (BoxR_kept K2.out gx)
  have Y3 := Lib.hid (BoxR_kept K3.out gx)
  have Q0 := Lib.hid (RdP_kept (CopyC_rd HC0.out) gx)
  have bwx := kept_trans bx0 gx
  have SOF := Lib.hid (show ∀ u, Below (wx0.alloc (.cells #[.string s0, .int .i64 x0, .int .i64 y0, .int .i64 hh0, .int .i64 jj0, .int .i64 b0, .slice AX0 zs0.length cpX0] 58)).heap.size (wx0.alloc (.cells #[.string s0, .int .i64 x0, .int .i64 y0, .int .i64 hh0, .int .i64 jj0, .int .i64 b0, .slice AX0 zs0.length cpX0] 58)) u → (fun w' => w'.cell? ⟨wx0.heap.size, 0, none⟩ = some (.string s0) ∧ w'.cell? ⟨wx0.heap.size, 1, none⟩ = some (.int .i64 x0) ∧ w'.cell? ⟨wx0.heap.size, 2, none⟩ = some (.int .i64 y0) ∧ w'.cell? ⟨wx0.heap.size, 3, none⟩ = some (.int .i64 hh0) ∧ w'.cell? ⟨wx0.heap.size, 4, none⟩ = some (.int .i64 jj0) ∧ w'.cell? ⟨wx0.heap.size, 5, none⟩ = some (.int .i64 b0) ∧ w'.cell? ⟨wx0.heap.size, 6, none⟩ = some (.slice AX0 zs0.length cpX0) ∧ w'.cell? ⟨w.heap.size + 1, 0, none⟩ = some (.int .i64 va) ∧ w'.cell? ⟨w.heap.size + 1, 1, none⟩ = some (.int .i64 vb) ∧ w'.cell? ⟨w.heap.size + 1, 2, none⟩ = some (.int .i64 vc) ∧ w'.cell? ⟨w.heap.size + 1, 3, none⟩ = some (.int .i64 vd) ∧ w'.cell? ⟨w.heap.size + 2, 0, none⟩ = some (.int .i64 px2) ∧ w'.cell? ⟨w.heap.size + 2, 1, none⟩ = some (.int .i64 py2) ∧ w'.cell? ⟨w.heap.size + 3, 0, none⟩ = some (.int .i64 px3) ∧ w'.cell? ⟨w.heap.size + 3, 1, none⟩ = some (.int .i64 py3)) u from fun u q => ⟨(BoxR_kept Y0.out q).2 0 _ rfl, (BoxR_kept Y0.out q).2 1 _ rfl, (BoxR_kept Y0.out q).2 2 _ rfl, (BoxR_kept Y0.out q).2 3 _ rfl, (BoxR_kept Y0.out q).2 4 _ rfl, (BoxR_kept Y0.out q).2 5 _ rfl, (BoxR_kept Y0.out q).2 6 _ rfl, (BoxR_kept Y1.out q).2 0 _ rfl, (BoxR_kept Y1.out q).2 1 _ rfl, (BoxR_kept Y1.out q).2 2 _ rfl, (BoxR_kept Y1.out q).2 3 _ rfl, (BoxR_kept Y2.out q).2 0 _ rfl, (BoxR_kept Y2.out q).2 1 _ rfl, (BoxR_kept Y3.out q).2 0 _ rfl, (BoxR_kept Y3.out q).2 1 _ rfl⟩)
  have hrefl : Below (wx0.alloc (.cells #[.string s0, .int .i64 x0, .int .i64 y0, .int .i64 hh0, .int .i64 jj0, .int .i64 b0, .slice AX0 zs0.length cpX0] 58)).heap.size (wx0.alloc (.cells #[.string s0, .int .i64 x0, .int .i64 y0, .int .i64 hh0, .int .i64 jj0, .int .i64 b0, .slice AX0 zs0.length cpX0] 58)) (wx0.alloc (.cells #[.string s0, .int .i64 x0, .int .i64 y0, .int .i64 hh0, .int .i64 jj0, .int .i64 b0, .slice AX0 zs0.length cpX0] 58)) := Below.refl _ _
  go_wp2_with fail
  first
    | go_region_held3 (fun w' => w'.cell? ⟨wx0.heap.size, 0, none⟩ = some (.string s0) ∧ w'.cell? ⟨wx0.heap.size, 1, none⟩ = some (.int .i64 x0) ∧ w'.cell? ⟨wx0.heap.size, 2, none⟩ = some (.int .i64 y0) ∧ w'.cell? ⟨wx0.heap.size, 3, none⟩ = some (.int .i64 hh0) ∧ w'.cell? ⟨wx0.heap.size, 4, none⟩ = some (.int .i64 jj0) ∧ w'.cell? ⟨wx0.heap.size, 5, none⟩ = some (.int .i64 b0) ∧ w'.cell? ⟨wx0.heap.size, 6, none⟩ = some (.slice AX0 zs0.length cpX0) ∧ w'.cell? ⟨w.heap.size + 1, 0, none⟩ = some (.int .i64 va) ∧ w'.cell? ⟨w.heap.size + 1, 1, none⟩ = some (.int .i64 vb) ∧ w'.cell? ⟨w.heap.size + 1, 2, none⟩ = some (.int .i64 vc) ∧ w'.cell? ⟨w.heap.size + 1, 3, none⟩ = some (.int .i64 vd) ∧ w'.cell? ⟨w.heap.size + 2, 0, none⟩ = some (.int .i64 px2) ∧ w'.cell? ⟨w.heap.size + 2, 1, none⟩ = some (.int .i64 py2) ∧ w'.cell? ⟨w.heap.size + 3, 0, none⟩ = some (.int .i64 px3) ∧ w'.cell? ⟨w.heap.size + 3, 1, none⟩ = some (.int .i64 py3)) (first | (refine SOF.out _ ?_; assumption) | (refine SOF.out _ ?_; go_grown)) (first
        | (go_at_call 21; have pkgz := kg2; refine (HV.out _ _ (RdP_kept Q0.out (kept_trans (a := (wx0.alloc (.cells #[.string s0, .int .i64 x0, .int .i64 y0, .int .i64 hh0, .int .i64 jj0, .int .i64 b0, .slice AX0 zs0.length cpX0] 58))) kg2 (by go_grown))) (VecTab_kept HTX.out (kept_trans bwx (kept_trans kg2 (by go_grown))))).mono ?_; rintro e wgz ⟨rfl, hgz⟩; have kgz := kept_trans (a := (wx0.alloc (.cells #[.string s0, .int .i64 x0, .int .i64 y0, .int .i64 hh0, .int .i64 jj0, .int .i64 b0, .slice AX0 zs0.length cpX0] 58))) (kept_trans kg2 (by go_grown)) hgz)
        | (go_at_call 15; have pkg2 := kg1; refine (toPoint_any _ _ _).mono ?_; rintro e wg2 ⟨rfl, hg2⟩; have kg2 := kept_trans (a := (wx0.alloc (.cells #[.string s0, .int .i64 x0, .int .i64 y0, .int .i64 hh0, .int .i64 jj0, .int .i64 b0, .slice AX0 zs0.length cpX0] 58))) (kept_trans kg1 (by go_grown)) hg2)
        | (go_at_call 15; have pkg1 := kg0; refine (toPoint_any _ _ _).mono ?_; rintro e wg1 ⟨rfl, hg1⟩; have kg1 := kept_trans (a := (wx0.alloc (.cells #[.string s0, .int .i64 x0, .int .i64 y0, .int .i64 hh0, .int .i64 jj0, .int .i64 b0, .slice AX0 zs0.length cpX0] 58))) (kept_trans kg0 (by go_grown)) hg1)
        | (go_at_call 20; refine (toSp_any va vb vc vd _).mono ?_; rintro e wg0 ⟨rfl, hg0⟩; have kg0 := kept_trans (a := (wx0.alloc (.cells #[.string s0, .int .i64 x0, .int .i64 y0, .int .i64 hh0, .int .i64 jj0, .int .i64 b0, .slice AX0 zs0.length cpX0] 58))) (by go_grown) hg0))
    | fail
  clear SOF hrefl
  have kg := kept_trans gx kgz
  have X0 := Lib.hid (BoxR_kept Y0.out kgz)
  clear Y0 Y1 Y2 Y3
  clear Q0
  replace K0 := Lib.hid (BoxR_kept K0.out kg)
  replace K1 := Lib.hid (BoxR_kept K1.out kg)
  replace K2 := Lib.hid (BoxR_kept K2.out kg)
  replace K3 := Lib.hid (BoxR_kept K3.out kg)
  replace HC0 := Lib.hid (CopyC_kept HC0.out kg)
  have bg := kept_trans bx0 kg
  have SOF := Lib.hid (show ∀ u, Below wgz.heap.size wgz u → (fun w' => w'.cell? ⟨wx0.heap.size, 0, none⟩ = some (.string s0) ∧ w'.cell? ⟨wx0.heap.size, 1, none⟩ = some (.int .i64 x0) ∧ w'.cell? ⟨wx0.heap.size, 2, none⟩ = some (.int .i64 y0) ∧ w'.cell? ⟨wx0.heap.size, 3, none⟩ = some (.int .i64 hh0) ∧ w'.cell? ⟨wx0.heap.size, 4, none⟩ = some (.int .i64 jj0) ∧ w'.cell? ⟨wx0.heap.size, 5, none⟩ = some (.int .i64 b0) ∧ w'.cell? ⟨wx0.heap.size, 6, none⟩ = some (.slice AX0 zs0.length cpX0) ∧ w'.cell? ⟨w.heap.size, 0, none⟩ = some (.string s0) ∧ w'.cell? ⟨w.heap.size, 1, none⟩ = some (.int .i64 x0) ∧ w'.cell? ⟨w.heap.size, 2, none⟩ = some (.int .i64 y0) ∧ w'.cell? ⟨w.heap.size, 3, none⟩ = some (.int .i64 hh0) ∧ w'.cell? ⟨w.heap.size, 4, none⟩ = some (.int .i64 jj0) ∧ w'.cell? ⟨w.heap.size, 5, none⟩ = some (.int .i64 b0) ∧ w'.cell? ⟨w.heap.size, 6, none⟩ = some (.slice A0 zs0.length cp0)) u from fun u q => ⟨(BoxR_kept X0.out q).2 0 _ rfl, (BoxR_kept X0.out q).2 1 _ rfl, (BoxR_kept X0.out q).2 2 _ rfl, (BoxR_kept X0.out q).2 3 _ rfl, (BoxR_kept X0.out q).2 4 _ rfl, (BoxR_kept X0.out q).2 5 _ rfl, (BoxR_kept X0.out q).2 6 _ rfl, (BoxR_kept K0.out q).2 0 _ rfl, (BoxR_kept K0.out q).2 1 _ rfl, (BoxR_kept K0.out q).2 2 _ rfl, (BoxR_kept K0.out q).2 3 _ rfl, (BoxR_kept K0.out q).2 4 _ rfl, (BoxR_kept K0.out q).2 5 _ rfl, (BoxR_kept K0.out q).2 6 _ rfl⟩)
  have hrefl : Below wgz.heap.size wgz wgz := Below.refl _ _
  go_wp2_with fail
  first
    | go_region_held3 (fun w' => w'.cell? ⟨wx0.heap.size, 0, none⟩ = some (.string s0) ∧ w'.cell? ⟨wx0.heap.size, 1, none⟩ = some (.int .i64 x0) ∧ w'.cell? ⟨wx0.heap.size, 2, none⟩ = some (.int .i64 y0) ∧ w'.cell? ⟨wx0.heap.size, 3, none⟩ = some (.int .i64 hh0) ∧ w'.cell? ⟨wx0.heap.size, 4, none⟩ = some (.int .i64 jj0) ∧ w'.cell? ⟨wx0.heap.size, 5, none⟩ = some (.int .i64 b0) ∧ w'.cell? ⟨wx0.heap.size, 6, none⟩ = some (.slice AX0 zs0.length cpX0) ∧ w'.cell? ⟨w.heap.size, 0, none⟩ = some (.string s0) ∧ w'.cell? ⟨w.heap.size, 1, none⟩ = some (.int .i64 x0) ∧ w'.cell? ⟨w.heap.size, 2, none⟩ = some (.int .i64 y0) ∧ w'.cell? ⟨w.heap.size, 3, none⟩ = some (.int .i64 hh0) ∧ w'.cell? ⟨w.heap.size, 4, none⟩ = some (.int .i64 jj0) ∧ w'.cell? ⟨w.heap.size, 5, none⟩ = some (.int .i64 b0) ∧ w'.cell? ⟨w.heap.size, 6, none⟩ = some (.slice A0 zs0.length cp0)) (first | (refine SOF.out _ ?_; assumption) | (refine SOF.out _ ?_; go_grown)) (first
        | (go_at_call 22; have pki0 := ki0a; refine (HX0.out _ _ _ _ _ _ _ (CopyC_kept HC0.out (kept_trans ki0a (by go_grown))) (CopyC_kept hqi0 (by go_grown))).mono ?_; rintro e wi0z ⟨rfl, hi0z⟩; have ki0z := kept_trans (a := wgz) (kept_trans ki0a (by go_grown)) hi0z)
        | (go_at_call 19; refine (HF0.out _ (RdP_kept H0.out (kept_trans bg (by go_grown)))).mono ?_; rintro e wi0a ⟨ci0, rfl, hqi0, hi0a⟩; have ki0a := kept_trans (a := wgz) (by go_grown) hi0a))
    | fail
  clear SOF hrefl
  have bi0 := kept_trans bg ki0z
  clear X0
  replace K0 := Lib.hid (BoxR_kept K0.out ki0z)
  replace K1 := Lib.hid (BoxR_kept K1.out ki0z)
  replace K2 := Lib.hid (BoxR_kept K2.out ki0z)
  replace K3 := Lib.hid (BoxR_kept K3.out ki0z)
  clear HC0
  have SOF := Lib.hid (show ∀ u, Below wi0z.heap.size wi0z u → (fun w' => w'.cell? ⟨w.heap.size, 0, none⟩ = some (.string s0) ∧ w'.cell? ⟨w.heap.size, 1, none⟩ = some (.int .i64 x0) ∧ w'.cell? ⟨w.heap.size, 2, none⟩ = some (.int .i64 y0) ∧ w'.cell? ⟨w.heap.size, 3, none⟩ = some (.int .i64 hh0) ∧ w'.cell? ⟨w.heap.size, 4, none⟩ = some (.int .i64 jj0) ∧ w'.cell? ⟨w.heap.size, 5, none⟩ = some (.int .i64 b0) ∧ w'.cell? ⟨w.heap.size, 6, none⟩ = some (.slice A0 zs0.length cp0) ∧ w'.cell? ⟨w.heap.size + 1, 0, none⟩ = some (.int .i64 va) ∧ w'.cell? ⟨w.heap.size + 1, 1, none⟩ = some (.int .i64 vb) ∧ w'.cell? ⟨w.heap.size + 1, 2, none⟩ = some (.int .i64 vc) ∧ w'.cell? ⟨w.heap.size + 1, 3, none⟩ = some (.int .i64 vd) ∧ w'.cell? ⟨w.heap.size + 2, 0, none⟩ = some (.int .i64 px2) ∧ w'.cell? ⟨w.heap.size + 2, 1, none⟩ = some (.int .i64 py2) ∧ w'.cell? ⟨w.heap.size + 3, 0, none⟩ = some (.int .i64 px3) ∧ w'.cell? ⟨w.heap.size + 3, 1, none⟩ = some (.int .i64 py3)) u from fun u q => ⟨(BoxR_kept K0.out q).2 0 _ rfl, (BoxR_kept K0.out q).2 1 _ rfl, (BoxR_kept K0.out q).2 2 _ rfl, (BoxR_kept K0.out q).2 3 _ rfl, (BoxR_kept K0.out q).2 4 _ rfl, (BoxR_kept K0.out q).2 5 _ rfl, (BoxR_kept K0.out q).2 6 _ rfl, (BoxR_kept K1.out q).2 0 _ rfl, (BoxR_kept K1.out q).2 1 _ rfl, (BoxR_kept K1.out q).2 2 _ rfl, (BoxR_kept K1.out q).2 3 _ rfl, (BoxR_kept K2.out q).2 0 _ rfl, (BoxR_kept K2.out q).2 1 _ rfl, (BoxR_kept K3.out q).2 0 _ rfl, (BoxR_kept K3.out q).2 1 _ rfl⟩)
  have hrefl : Below wi0z.heap.size wi0z wi0z := Below.refl _ _
  go_wp2_with fail
  first
    | go_region_held3 (fun w' => w'.cell? ⟨w.heap.size, 0, none⟩ = some (.string s0) ∧ w'.cell? ⟨w.heap.size, 1, none⟩ = some (.int .i64 x0) ∧ w'.cell? ⟨w.heap.size, 2, none⟩ = some (.int .i64 y0) ∧ w'.cell? ⟨w.heap.size, 3, none⟩ = some (.int .i64 hh0) ∧ w'.cell? ⟨w.heap.size, 4, none⟩ = some (.int .i64 jj0) ∧ w'.cell? ⟨w.heap.size, 5, none⟩ = some (.int .i64 b0) ∧ w'.cell? ⟨w.heap.size, 6, none⟩ = some (.slice A0 zs0.length cp0) ∧ w'.cell? ⟨w.heap.size + 1, 0, none⟩ = some (.int .i64 va) ∧ w'.cell? ⟨w.heap.size + 1, 1, none⟩ = some (.int .i64 vb) ∧ w'.cell? ⟨w.heap.size + 1, 2, none⟩ = some (.int .i64 vc) ∧ w'.cell? ⟨w.heap.size + 1, 3, none⟩ = some (.int .i64 vd) ∧ w'.cell? ⟨w.heap.size + 2, 0, none⟩ = some (.int .i64 px2) ∧ w'.cell? ⟨w.heap.size + 2, 1, none⟩ = some (.int .i64 py2) ∧ w'.cell? ⟨w.heap.size + 3, 0, none⟩ = some (.int .i64 px3) ∧ w'.cell? ⟨w.heap.size + 3, 1, none⟩ = some (.int .i64 py3)) (first | (refine SOF.out _ ?_; assumption) | (refine SOF.out _ ?_; go_grown)) (first
        | (go_at_call 21; have pkhz := kh3; refine (HV.out _ _ (RdP_kept rh_0_3 (by go_grown)) (VecTab_kept HTX.out (kept_trans bi0 (kept_trans kh3 (by go_grown))))).mono ?_; rintro e whz ⟨rfl, hhz⟩; have khz := kept_trans (a := wi0z) (kept_trans kh3 (by go_grown)) hhz)
        | (go_at_call 15; have pkh3 := kh2; refine (toPoint_any _ _ _).mono ?_; rintro e wh3 ⟨rfl, hh3⟩; have kh3 := kept_trans (a := wi0z) (kept_trans kh2 (by go_grown)) hh3; have rh_0_3 := RdP_kept rh_0_2 (kept_trans (a := wh2) (by go_grown) hh3))
        | (go_at_call 15; have pkh2 := kh1; refine (toPoint_any _ _ _).mono ?_; rintro e wh2 ⟨rfl, hh2⟩; have kh2 := kept_trans (a := wi0z) (kept_trans kh1 (by go_grown)) hh2; have rh_0_2 := RdP_kept rh_0_1 (kept_trans (a := wh1) (by go_grown) hh2))
        | (go_at_call 20; have pkh1 := kh0; refine (toSp_any va vb vc vd _).mono ?_; rintro e wh1 ⟨rfl, hh1⟩; have kh1 := kept_trans (a := wi0z) (kept_trans kh0 (by go_grown)) hh1; have rh_0_1 := RdP_kept rh_0_0 (kept_trans (a := wh0) (by go_grown) hh1))
        | (go_at_call 19; refine (HT0.out _ (RdP_kept H0.out (kept_trans bi0 (by go_grown)))).mono ?_; rintro e wh0 ⟨ch_0, rfl, hqh_0, hh0⟩; have rh_0_0 := RowF_rd hqh_0; obtain ⟨Ah_0, cph_0, rfl, _, _⟩ := RdP_slice rh_0_0; have kh0 := kept_trans (a := wi0z) (by go_grown) hh0))
    | fail
  clear SOF hrefl
  go_wp2
  go_ret
  exact ⟨rfl, kept_trans bi0 khz⟩

end Go.Proofs.YtnflaeimiegepabDoor
