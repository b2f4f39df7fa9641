import Derived.Test.YtnflaeimiegepaaRows
import Derived.WalkKit
import Derived.ProofKit
import Derived.OpenShut
import Derived.Lib.Hide
import Derived.Handy
import Derived.BigQuiet
import Derived.Carry
import Derived.Deep.DeepCutAuto
import Derived.Deep.LoopGhost
import Derived.Deep.QuietTactic
import Derived.Deep.RegionHeld3
import Derived.Deep.SlicePairs
import Derived.Laws.Entries
import Derived.Laws.RangeAny
import Derived.Lib.SmallJoins
import Derived.Maps.OwnSet
import Derived.Maps.RangeWalk
import Derived.OwnWalk
import Derived.Shelf.Abstract
import Derived.WalkMore
import Derived.Lib.SmallJoins
import Derived.ChangeMaps5
import Derived.Test.YtnflaeimiegepaaExactCountLiftOrdersWalka
namespace Go.Proofs.Ytnflaeimiegepaa
open Go.ChangeShapes Go.WideShapes Go.ChangeAt Go.RowKit
set_option linter.unusedVariables false
set_option linter.unusedSimpArgs false


set_option maxHeartbeats 2000000 in
theorem walk_FnExactCountLiftOrders (w : World) (v0 : Value) (ks0 : List (Lf × Value)) (h0 : RdLf w v0 ks0) (wf0 : wfLfs ks0) :
    Calls Try.prog 5 #[v0] w fun e w' => e = .returned (.bool true) ∧ Below w.heap.size w w' := by
  obtain ⟨A0, c0, rfl, l0, _⟩ := RdLf_at h0
  have H0 := Lib.hid h0; clear h0
  obtain ⟨wf0, wl0⟩ := wf0
  unfold maxLen at wl0
  have HZ0 := fun u q => szLfs_any (.slice A0 ks0.length c0) ks0 (1000000) u q (by omega) wf0
  by_cases n0 : (ks0.length : Int) + totLf ks0 ≤ 1000000
  case neg =>
    simp only [if_neg n0] at HZ0
    have HZ0 := Lib.hid HZ0
    go_enter Try.func5, Try.ntmps5
    go_wp2_with fail
    refine (HZ0.out _ H0.out).mono ?_
    rintro e u0 ⟨rfl, y0⟩
    go_wp2
    go_ret
    exact ⟨rfl, y0⟩
  simp only [if_pos n0] at HZ0
  replace HZ0 := Lib.hid HZ0
  have hn0 : ks0.length ≤ 1000000 := by omega
  have ha0 : ∀ p ∈ ks0, p.1.af.length ≤ 1000000 := fun p hp => by have := totLf_mem hp; omega
  have hs0 : ∀ k ∈ ks0.map (·.1), k.nm.size ≤ 1000000 := fun k hk => by obtain ⟨p, hp, rfl⟩ := List.mem_map.1 hk; have := totLf_mem hp; omega
  have hc0 : afS (ks0.map (·.1)) ≤ 1000000 := by have := afS_tot ks0; omega
  have hml0 : (ks0.map (·.1)).length ≤ 1000000 := by simpa using hn0
  have HF0 := Lib.hid (fun u (q : RdLf u (.slice A0 ks0.length c0) ks0) => toLfs_false _ ks0 u q hn0 ha0)
  have HT0 := Lib.hid (fun u (q : RdLf u (.slice A0 ks0.length c0) ks0) => toM_true _ ks0 u q hn0 ha0)
  have HX0 := Lib.hid (fun c1 c2 lo1 hi1 lo2 hi2 u h1 h2 => intactLfs_same c1 c2 (ks0.map (·.1)) lo1 hi1 lo2 hi2 u h1 h2)
  have hS := fun (x0 : Value) (u : World) (q0 : RdM u x0 (ks0.map (·.1))) => specCO_any x0 (ks0.map (·.1)) u q0 hs0 hml0
  have hI := fun (x0 : Value) (u : World) (q0 : RdM u x0 (ks0.map (·.1))) => implCO_any x0 (ks0.map (·.1)) u q0 hs0 hml0
  have hle0 : (0 : Int) ≤ 1000000 - ks0.length - totLf ks0 := by omega
  generalize coRes (ks0.map (·.1)) = F at hS hI
  obtain ⟨fa, fb⟩ := F
  (try dsimp only at hS hI)
  have HS := Lib.hid hS; clear hS
  have HI := Lib.hid hI; clear hI
  clear wf0 ha0 hs0 hc0
  generalize (totLf ks0 : Int) = tk0 at *
  go_enter Try.func5, Try.ntmps5
  go_wp2_with fail
  refine (HZ0.out _ H0.out).mono ?_
  rintro e w101 ⟨rfl, b1⟩
  have z1 := b1.size
  go_wp2_with fail
  refine (HF0.out _ (RdLf_kept H0.out b1)).mono ?_
  rintro e w102 ⟨s0, rfl, ks0, b2⟩
  have z2 := b2.size
  replace b2 := kept_trans b1 b2
  go_wp2_with fail
  refine (HS.out s0 _ (RdM_copy ks0)).mono ?_
  rintro e w103 ⟨rfl, b3⟩
  have z3 := b3.size
  replace ks0 := LfsC_kept ks0 b3
  replace b3 := kept_trans b2 b3
  clear ks0
  go_wp2_with fail
  refine (HF0.out _ (RdLf_kept H0.out b3)).mono ?_
  rintro e w104 ⟨x0, rfl, kx0, b4⟩
  have z4 := b4.size
  replace b4 := kept_trans b3 b4
  go_wp2_with fail
  refine (HI.out x0 _ (RdM_copy kx0)).mono ?_
  rintro e w105 ⟨rfl, b5⟩
  have z5 := b5.size
  replace kx0 := LfsC_kept kx0 b5
  replace b5 := kept_trans b4 b5
  go_wp2_with fail
  refine (HF0.out _ (RdLf_kept H0.out b5)).mono ?_
  rintro e w106 ⟨y0, rfl, ky0, b6⟩
  have z6 := b6.size
  replace kx0 := LfsC_kept kx0 b6
  replace b6 := kept_trans b5 b6
  go_wp2_with fail
  refine (HX0.out _ _ _ _ _ _ _ kx0 ky0).mono ?_
  rintro e w107 ⟨rfl, b7⟩
  have z7 := b7.size
  replace kx0 := LfsC_kept kx0 b7
  replace ky0 := LfsC_kept ky0 b7
  replace b7 := kept_trans b6 b7
  clear ky0
  clear kx0
  go_wp2_with fail
  refine (HT0.out _ (RdLf_kept H0.out b7)).mono ?_
  rintro e w108 ⟨t0, rfl, kt0, b8⟩
  have z8 := b8.size
  replace b8 := kept_trans b7 b8
  go_wp2_with fail
  refine (HI.out t0 _ kt0).mono ?_
  rintro e w109 ⟨rfl, b9⟩
  have z9 := b9.size
  replace kt0 := RdM_kept kt0 b9
  replace b9 := kept_trans b8 b9
  clear kt0
  go_wp2
  go_ret
  exact ⟨rfl, b9⟩

end Go.Proofs.Ytnflaeimiegepaa
