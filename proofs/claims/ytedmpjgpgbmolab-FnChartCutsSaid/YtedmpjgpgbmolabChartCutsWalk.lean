import Derived.Test.YtedmpjgpgbmolabRows
import Derived.WalkKit
import Derived.ProofKit
import Derived.OpenShut
import Derived.Lib.Hide
import Derived.Handy
import Derived.BigQuiet
import Derived.Carry
import Derived.ChangeSlices
import Derived.Deep.AppendLies
import Derived.Deep.Draws
import Derived.Deep.OwnRows
import Derived.Deep.QuietTactic
import Derived.Deep.RegionHeld3
import Derived.Laws.MakeOwn
import Derived.Lib.SmallJoins
import Derived.Maps.AppendAt
import Derived.OwnWalk
import Derived.Shelf.Abstract
import Derived.Lib.SmallJoins
import Derived.ChangeMaps5
import Derived.Test.YtedmpjgpgbmolabChartCutsWalka
namespace Go.Proofs.Ytedmpjgpgbmolab
open Go.ChangeShapes Go.WideShapes Go.ChangeAt Go.RowKit
set_option linter.unusedVariables false
set_option linter.unusedSimpArgs false


theorem a2AtI_any (A : Option Addr) (n c : Nat) (k : Nat) (z m : Int) (w : World) (hz : (k : Int) = z) (h : RdC w A n) (hk : k ≤ 1000) (hm : 1 ≤ m ∧ m ≤ 256) : Calls Try.prog 6 #[.slice A n c, .int .i64 z, .int .i64 m] w fun e w' => ∃ x : Int, e = .returned (.int .i64 x) ∧ (0 ≤ x ∧ x < m) ∧ w = w' := by
  subst hz
  exact a2At_any A n c k m w h hk hm

-- needs open_bytes
set_option maxRecDepth 1000000 in
set_option maxHeartbeats 20000000 in
theorem walk_FnChartCuts (w : World) (A : Option Addr) (n cp : Nat) (hr : RdC w A n) (hn : n ≤ maxLen) (B : Option Addr) (m dp : Nat) (hr2 : RdC w B m) (hn2 : m ≤ maxLen) :
    Calls Try.prog 3 #[.slice A n cp, .slice B m dp] w fun e w' => e = .returned (.bool true) ∧ Below w.heap.size w w' := by
  have HR := Lib.hid hr; clear hr hn
  have HM := Lib.hid hr2; clear hr2 hn2
  by_cases hbig : (decide (3000 < n) || decide (3000 < m)) = true
  · go_enter Try.func3, Try.ntmps3
    go_wp2_with fail
    refine (a2Long_any _ _ _ _ _ _ _).mono ?_
    rintro e w1 ⟨rfl, rfl⟩
    rw [hbig]
    go_wp2
    go_ret
    exact ⟨rfl, Below.refl _ _⟩
  have hsm : (decide (3000 < n) || decide (3000 < m)) = false := by simpa using hbig
  have hn : n ≤ 3000 := by simp at hbig; omega
  clear hbig
  go_enter Try.func3, Try.ntmps3
  go_wp2_with fail
  refine (a2Long_any _ _ _ _ _ _ _).mono ?_
  rintro e w1 ⟨rfl, rfl⟩
  rw [hsm]
  go_wp2_with fail
  refine (drawA2_any A n cp _ HR.out (by omega)).mono ?_
  rintro e w1 ⟨v1, zs, v2, us, rfl, hz, hu, hl1, hl2, B1⟩
  obtain ⟨A1, c1, rfl, hln, hrr⟩ := RdP_slice hl1
  clear hrr
  have L1 := Lib.hid hl1; clear hl1
  have L2 := Lib.hid hl2; clear hl2
  have hmo := mom_ok hz
  have hzn := hz.2
  go_wp2_with fail
  refine (a2AtI_any B m dp 0 0 100 _ rfl (RdC_kept HM.out B1) (by omega) (by omega)).mono ?_
  rintro e w2 ⟨x0, rfl, hx0, rfl⟩
  obtain ⟨pc, hpc⟩ : ∃ pc, pc = 1 + x0 := ⟨_, rfl⟩
  have k1 : IntKind.i64.wrap (1 + x0) = pc := by rw [hpc]; exact IntWalk.i64_in _ (by omega)
  have k2 : wrap64 (1 + x0) = pc := by rw [hpc]; exact IntWalk.wrap64_in _ (by omega)
  go_wp2_with fail
  refine (a2AtI_any B m dp 1 1 256 _ rfl (RdC_kept HM.out B1) (by omega) (by omega)).mono ?_
  rintro e w2 ⟨x1, rfl, hx1, rfl⟩
  obtain ⟨hk, hhk⟩ : ∃ hk, hk = x1 * 10 := ⟨_, rfl⟩
  have k3 : IntKind.i64.wrap (x1 * 10) = hk := by rw [hhk]; exact IntWalk.i64_in _ (by omega)
  have k4 : wrap64 (x1 * 10) = hk := by rw [hhk]; exact IntWalk.wrap64_in _ (by omega)
  have hpc1 : 1 ≤ pc ∧ pc ≤ 100 := by omega
  have hhk1 : 0 ≤ hk ∧ hk ≤ 2550 := by omega
  have eM : momL zs = (momU zs, 0) := by rw [momL, if_pos (chartB_true hz)]
  have hRI := fun v u x => reduceOk_any v zs pc u hz hpc1 x
  have hLI := fun v u x => lessOk_any v zs hk u hz (by omega) x
  have hMI := fun v u x => implMoment_any v zs u x
  rw [eM] at hMI
  dsimp only at hMI
  have hGS := fun v v' u x y => lesserS_any v zs v' us u x y
  have hGI := fun v v' u x y => lesserI_any v zs v' us u x y
  have hgk := lesser_ok hz hu
  have hll := lesserL_len zs us
  generalize lesserL zs us = GL at *
  obtain ⟨ls, lc⟩ := GL
  dsimp only at hGS hGI hgk hll
  have hcx := chartB_true (reduce_chart hz hpc1)
  have hcy := chartB_true (less_chart hz hhk1.1)
  generalize hMM : momU zs = M at *
  clear hMM eM
  have HRI := Lib.hid hRI; clear hRI
  have HLI := Lib.hid hLI; clear hLI
  have HMI := Lib.hid hMI; clear hMI
  have HGS := Lib.hid hGS; clear hGS
  have HGI := Lib.hid hGI; clear hGI
  have HGK := Lib.hid hgk; clear hgk
  have HMO := Lib.hid hmo; clear hmo
  have HZ := Lib.hid hz; clear hz
  have HU := Lib.hid hu; clear hu
  have HX0 := Lib.hid (And.intro hx0 hx1); clear hx0 hx1
  have hcX := Lib.hid hcx; clear hcx
  have hcY := Lib.hid hcy; clear hcy
  have HPC := Lib.hid hpc; clear hpc
  have HHK := Lib.hid hhk; clear hhk
  go_wp2_with fail
  clear k1 k2 k3 k4
  rw [show 1 + x0 = pc from HPC.out.symm]
  refine (HGS.out _ _ _ (by exact L1.out) (by exact L2.out)).mono ?_
  rintro e w2 ⟨A3, c3, rfl, hrow, hb2⟩
  clear hrow
  replace L1 := Lib.hid (RdP_kept L1.out hb2)
  replace L2 := Lib.hid (RdP_kept L2.out hb2)
  have B2 := kept_trans B1 hb2
  clear hb2
  go_wp2_with fail
  refine (HRI.out _ _ (by exact L1.out)).mono ?_
  rintro e w3 ⟨A4, c4, rfl, hrow, hb3⟩
  have X4 := Lib.hid hrow; clear hrow
  replace L1 := Lib.hid (RdP_kept L1.out hb3)
  replace L2 := Lib.hid (RdP_kept L2.out hb3)
  have B3 := kept_trans B2 hb3
  clear hb3
  go_wp2_with fail
  refine (HLI.out _ _ (by exact L1.out)).mono ?_
  rintro e w4 ⟨A5, c5, rfl, hrow, hb4⟩
  have X5 := Lib.hid hrow; clear hrow
  replace L1 := Lib.hid (RdP_kept L1.out hb4)
  replace L2 := Lib.hid (RdP_kept L2.out hb4)
  replace X4 := Lib.hid (RdP_kept X4.out hb4)
  have B4 := kept_trans B3 hb4
  clear hb4
  go_wp2_with fail
  refine (HGI.out _ _ _ (by exact L1.out) (by exact L2.out)).mono ?_
  rintro e w5 ⟨A6, c6, rfl, hrow, hb5⟩
  have X6 := Lib.hid hrow; clear hrow
  replace L1 := Lib.hid (RdP_kept L1.out hb5)
  replace L2 := Lib.hid (RdP_kept L2.out hb5)
  replace X4 := Lib.hid (RdP_kept X4.out hb5)
  replace X5 := Lib.hid (RdP_kept X5.out hb5)
  have B5 := kept_trans B4 hb5
  clear hb5
  go_wp2_with fail
  refine (HMI.out _ _ (by exact L1.out)).mono ?_
  rintro e w6 ⟨rfl, hb6⟩
  replace L1 := Lib.hid (RdP_kept L1.out hb6)
  replace L2 := Lib.hid (RdP_kept L2.out hb6)
  replace X4 := Lib.hid (RdP_kept X4.out hb6)
  replace X5 := Lib.hid (RdP_kept X5.out hb6)
  replace X6 := Lib.hid (RdP_kept X6.out hb6)
  have B6 := kept_trans B5 hb6
  clear hb6
  go_wp2_with fail
  refine (specValid_any _ (zs.map (reduceZ pc)) _ (by exact X4.out)).mono ?_
  rintro e w7 ⟨rfl, hb7⟩
  rw [hcX.out]
  replace L1 := Lib.hid (RdP_kept L1.out hb7)
  replace L2 := Lib.hid (RdP_kept L2.out hb7)
  replace X4 := Lib.hid (RdP_kept X4.out hb7)
  replace X5 := Lib.hid (RdP_kept X5.out hb7)
  replace X6 := Lib.hid (RdP_kept X6.out hb7)
  have B7 := kept_trans B6 hb7
  clear hb7
  go_wp2_with fail
  refine (specValid_any _ (zs.map (lessZ hk)) _ (by exact X5.out)).mono ?_
  rintro e w8 ⟨rfl, hb8⟩
  rw [hcY.out]
  replace L1 := Lib.hid (RdP_kept L1.out hb8)
  replace L2 := Lib.hid (RdP_kept L2.out hb8)
  replace X4 := Lib.hid (RdP_kept X4.out hb8)
  replace X5 := Lib.hid (RdP_kept X5.out hb8)
  replace X6 := Lib.hid (RdP_kept X6.out hb8)
  have B8 := kept_trans B7 hb8
  clear hb8
  clear B1 B2 B3 B4 B5 B6 B7 hcX hcY HRI HLI HMI HGS HGI
  have HB := Lib.hid B8; clear B8
  go_wp2_with fail
  go_loopw [19, 20] (fun s i wr => ∃ k : Nat, k ≤ zs.length ∧ s = .bool (someB zs M k) ∧ i = .int .i64 k ∧ RdP wr (.slice A1 zs.length c1) zs ∧ RdP wr v2 us ∧ RdP wr (.slice A4 zs.length c4) (zs.map (reduceZ pc)) ∧ RdP wr (.slice A5 zs.length c5) (zs.map (lessZ hk)) ∧ RdP wr (.slice A6 ls.length c6) ls ∧ Below w.heap.size w wr) (fun _ i _ => zs.length - (intOf i).toNat)
  case atStart => exact ⟨0, by omega, by simp [someB], rfl, L1.out, L2.out, X4.out, X5.out, X6.out, HB.out⟩
  case round =>
    obtain ⟨k, hkl, rfl, rfl, q1, q2, q4, q5, q6, qb⟩ := hrel
    clear L1 L2 X4 X5 X6 HB
    by_cases hlt : k < zs.length
    · obtain ⟨b1, o1, rfl, hb1, r0, r1⟩ := RdP_get q1 k hlt
      obtain ⟨b4, o4, rfl, hb4, d0, d1⟩ := RdP_get q4 k (by simpa using hlt)
      obtain ⟨b5, o5, rfl, hb5, e0, e1⟩ := RdP_get q5 k (by simpa using hlt)
      simp only [List.getElem_map, reduceZ, lessZ] at d0 d1 e0 e1
      have hs := someB_step zs M k hlt
      have hge := HMO.out.1 k hlt
      have hok := (HZ.out.1 k hlt hlt).1
      have Q1 := Lib.hid q1; clear q1
      have Q2 := Lib.hid q2; clear q2
      have Q4 := Lib.hid q4; clear q4
      have Q5 := Lib.hid q5; clear q5
      have Q6 := Lib.hid q6; clear q6
      have QB := Lib.hid qb; clear qb
      generalize zs[k].1 = x at *
      generalize zs[k].2 = y at *
      have hrz := reduceZ_ok pc x y hpc1 (by omega)
      have hxy := mul_bd x y 1000 50000 (by omega) (by omega)
      have hpy := mul_bd pc y 100 50000 (by omega) (by omega)
      obtain ⟨p, hp⟩ : ∃ p, p = x * y := ⟨_, rfl⟩
      obtain ⟨t, ht⟩ : ∃ t, t = pc * y := ⟨_, rfl⟩
      rw [← hp] at hs hge hxy
      rw [← ht] at hpy hrz
      have m1 : IntKind.i64.wrap (x * y) = p := by rw [← hp]; exact IntWalk.i64_in _ (by omega)
      have m2 : wrap64 (x * y) = p := by rw [← hp]; exact IntWalk.wrap64_in _ (by omega)
      have m3 : IntKind.i64.wrap (pc * y) = t := by rw [← ht]; exact IntWalk.i64_in _ (by omega)
      have m4 : wrap64 (pc * y) = t := by rw [← ht]; exact IntWalk.wrap64_in _ (by omega)
      clear hp ht
      generalize y * pc / 100 = v at *
      have m5 : IntKind.i64.wrap (100 * v) = 100 * v := IntWalk.i64_in _ (by omega)
      have m6 : wrap64 (100 * v) = 100 * v := IntWalk.wrap64_in _ (by omega)
      have m7 : IntKind.i64.wrap (100 * (v + 1)) = 100 * (v + 1) := IntWalk.i64_in _ (by omega)
      have m8 : wrap64 (100 * (v + 1)) = 100 * (v + 1) := IntWalk.wrap64_in _ (by omega)
      have m9 : IntKind.i64.wrap (v + 1) = v + 1 := IntWalk.i64_in _ (by omega)
      have m10 : wrap64 (v + 1) = v + 1 := IntWalk.wrap64_in _ (by omega)
      have m11 : IntKind.i64.wrap (y - hk) = y - hk := IntWalk.i64_in _ (by omega)
      have m12 : wrap64 (y - hk) = y - hk := IntWalk.wrap64_in _ (by omega)
      obtain ⟨z0, z1, z2, z3⟩ := hrz
      have f1 : decide (M < p) = false := by simp; omega
      have f2 : decide (y < v) = false := by simp; omega
      have f3 : decide (t < 100 * v) = false := by simp; omega
      have f4 : decide (100 * (v + 1) ≤ t) = false := by simp; omega
      have f1' : ¬ M < p := by omega
      have f2' : ¬ y < v := by omega
      have Hs := Lib.hid hs; clear hs
      generalize hu5 : max 0 (y - hk) = u at *
      have KB : ∀ q, Below wr.heap.size wr (wr.drewN q) := fun q => kept_drewN (Below.refl _ _) q
      cases hsb : someB zs M k
      case true =>
        rw [hsb] at Hs
        as_aux_lemma =>
          go_wp2_with fail
          go_big_quiet (fail)
          go_wp2
          as_aux_lemma =>
            dsimp only [List.append]
            go_big_quiet (fail)
            as_aux_lemma =>
              go_wp2
              go_roundw
              case rel => exact ⟨k + 1, by omega, by first | (rw [Hs.out]; rfl) | (rw [Hs.out]; simp [*]), by go_num, RdP_kept Q1.out (KB _), RdP_kept Q2.out (KB _), RdP_kept Q4.out (KB _), RdP_kept Q5.out (KB _), RdP_kept Q6.out (KB _), kept_drewN QB.out _⟩
              case measure => simp [intOf]; omega
      case false =>
        rw [hsb] at Hs
        by_cases hpm : p = M
        · subst hpm
          as_aux_lemma =>
            go_wp2_with fail
            go_big_quiet (fail)
            go_wp2
            as_aux_lemma =>
              dsimp only [List.append]
              go_big_quiet (fail)
              as_aux_lemma =>
                go_wp2
                go_roundw
                case rel => exact ⟨k + 1, by omega, by first | (rw [Hs.out]; rfl) | (rw [Hs.out]; simp [*]), by go_num, RdP_kept Q1.out (KB _), RdP_kept Q2.out (KB _), RdP_kept Q4.out (KB _), RdP_kept Q5.out (KB _), RdP_kept Q6.out (KB _), kept_drewN QB.out _⟩
                case measure => simp [intOf]; omega
        · have hpm1 : (p == M) = false := by simpa using hpm
          have hpm2 : decide (p = M) = false := by simpa using hpm
          as_aux_lemma =>
            go_wp2_with fail
            go_big_quiet (fail)
            go_wp2
            as_aux_lemma =>
              dsimp only [List.append]
              go_big_quiet (fail)
              as_aux_lemma =>
                go_wp2
                go_roundw
                case rel => exact ⟨k + 1, by omega, by first | (rw [Hs.out]; rfl) | (rw [Hs.out]; simp [*]), by go_num, RdP_kept Q1.out (KB _), RdP_kept Q2.out (KB _), RdP_kept Q4.out (KB _), RdP_kept Q5.out (KB _), RdP_kept Q6.out (KB _), kept_drewN QB.out _⟩
                case measure => simp [intOf]; omega
    · have : k = zs.length := by omega
      subst this
      rw [HMO.out.2]
      clear q4 q5
      by_cases hlc : lc = 0
      · subst hlc
        obtain ⟨hch, hst⟩ := HGK.out rfl
        have hch1 := chartB_true hch
        have HST := Lib.hid hst; clear hst hch HGK
        have Q1 := Lib.hid q1; clear q1
        have Q2 := Lib.hid q2; clear q2
        have Q6 := Lib.hid q6; clear q6
        have QB := Lib.hid qb; clear qb
        go_wp2_with fail
        refine (specValid_any _ ls _ (by exact Q6.out)).mono ?_
        rintro e w9 ⟨rfl, hb9⟩
        rw [hch1]
        replace Q1 := Lib.hid (RdP_kept Q1.out hb9)
        replace Q2 := Lib.hid (RdP_kept Q2.out hb9)
        replace Q6 := Lib.hid (RdP_kept Q6.out hb9)
        replace QB := Lib.hid (kept_trans QB.out hb9)
        clear hb9
        go_wp2_with fail
        go_loopw [22] (fun i wr => ∃ k : Nat, k ≤ ls.length ∧ i = .int .i64 k ∧ RdP wr (.slice A1 zs.length c1) zs ∧ RdP wr v2 us ∧ RdP wr (.slice A6 ls.length c6) ls ∧ Below w.heap.size w wr) (fun i _ => ls.length - (intOf i).toNat)
        case atStart => exact ⟨0, by omega, rfl, Q1.out, Q2.out, Q6.out, QB.out⟩
        case round =>
          obtain ⟨k, hkl, rfl, q1, q2, q6, qb⟩ := hrel
          clear Q1 Q2 Q6 QB
          by_cases hlt : k < ls.length
          · obtain ⟨g1, g2, g3⟩ := HST.out k hlt
            obtain ⟨b6, o6, rfl, hb6, d0, d1⟩ := RdP_get q6 k hlt
            have hP := fun u x => specLoadAt_any (.slice A1 zs.length c1) zs ls[k].1 u x
            have hQ := fun u x => specLoadAt_any v2 us ls[k].1 u x
            rw [g1] at hP
            rw [g2] at hQ
            dsimp only at hP hQ
            rw [g3] at d1
            clear g1 g2 g3
            have HP := Lib.hid hP; clear hP
            have HQ := Lib.hid hQ; clear hQ
            have Q1 := Lib.hid q1; clear q1
            have Q2 := Lib.hid q2; clear q2
            have Q6 := Lib.hid q6; clear q6
            have QB := Lib.hid qb; clear qb
            generalize loadL zs ls[k].1 = P at *
            generalize loadL us ls[k].1 = Q at *
            generalize ls[k].1 = r at *
            rcases (show (min P Q = P ∧ P ≤ Q) ∨ (min P Q = Q ∧ ¬ P ≤ Q) by omega) with ⟨hmn, hpq⟩ | ⟨hmn, hpq⟩
            all_goals
              rw [hmn] at d1
              go_wp2_with fail
              refine (HP.out _ (by exact Q1.out)).mono ?_
              rintro e w10 ⟨rfl, hb10⟩
              rw [← kept_cell hb10 b6 _ hb6] at d0 d1
              have hb6' : b6 < w10.heap.size := Nat.lt_of_lt_of_le hb6 hb10.size
              replace Q1 := Lib.hid (RdP_kept Q1.out hb10)
              replace Q2 := Lib.hid (RdP_kept Q2.out hb10)
              replace Q6 := Lib.hid (RdP_kept Q6.out hb10)
              replace QB := Lib.hid (kept_trans QB.out hb10)
              clear hb10
              go_wp2_with fail
              refine (HQ.out _ (by exact Q2.out)).mono ?_
              rintro e w11 ⟨rfl, hb11⟩
              rw [← kept_cell hb11 b6 _ hb6'] at d0 d1
              replace Q1 := Lib.hid (RdP_kept Q1.out hb11)
              replace Q2 := Lib.hid (RdP_kept Q2.out hb11)
              replace Q6 := Lib.hid (RdP_kept Q6.out hb11)
              replace QB := Lib.hid (kept_trans QB.out hb11)
              clear hb11
              go_wp2
              all_goals
                go_roundw
                case rel => exact ⟨k + 1, by omega, by go_num, Q1.out, Q2.out, Q6.out, QB.out⟩
                case measure => simp [intOf]; omega
          · have : k = ls.length := by omega
            subst this
            go_wp2
            go_ret
            exact ⟨rfl, qb⟩
      · have hlc1 : (lc == 0) = false := by simpa using hlc
        go_wp2
        go_ret
        exact ⟨rfl, qb⟩

end Go.Proofs.Ytedmpjgpgbmolab
