import Derived.Test.YtnflaeimiegepabDoorRows
import Derived.WalkKit
import Derived.ProofKit
import Derived.OpenShut
import Derived.Lib.Hide
import Derived.Handy
import Derived.BigQuiet
import Derived.Carry
import Derived.Deep.DeepCutAuto
import Derived.Deep.QuietTactic
import Derived.Deep.RegionHeld3
import Derived.Deep.SlicePairs
import Derived.Laws.RangeAny
import Derived.Lib.LaidU8
import Derived.Lib.SmallJoins
import Derived.LoopIn
import Derived.LoopNIn
import Derived.OwnWalk
import Derived.OwnWalkIn
import Derived.RangeFuncBound
import Derived.RangeFuncCalls
import Derived.RangeFuncFrom
import Derived.RangeFuncLeaves
import Derived.RangeFuncNested
import Derived.Shelf.Abstract
import Derived.Shelf.RegionOpen
import Derived.TacticsInMore
import Derived.Test.YtnflaeimiegepabDoorCards
import Derived.Test.YtnflaeimiegepabDoorTie
import Derived.Lib.SmallJoins
import Derived.ChangeMaps5
import Derived.Deep.DeepHandedRow
import Derived.Deep.DeepWitnessRowRef
import Derived.Lib.LaidTab
import Derived.SevenTiedAt
import Derived.Test.YtnflaeimiegepabDoorExactHeaviestAtWalka
namespace Go.Proofs.YtnflaeimiegepabDoor
open Go.ChangeShapes Go.WideShapes Go.ChangeAt Go.RowKit
set_option linter.unusedVariables false
set_option linter.unusedSimpArgs false


noncomputable def loadPlaceL (k : Cr) (u v : Int) : Int × Int := if craneB k && okP u v then (if reachB k u v then (loadL k.ch (distL k u v), 0) else (0, 3)) else (0, 1)

set_option maxHeartbeats 4000000 in
theorem implRadTo_any (b o : Nat) (k : Cr) (c : Value) (u v : Int) (w : World) (h : CrAt w b o k c) (hc : craneB k = true) (hp : okP u v = true) :
    Calls Tryd.prog 100 #[.pointer (some ⟨b, o, none⟩), .agg #[.int .i64 u, .int .i64 v]] w fun e w' => e = .returned (.tuple #[.int .i64 (if reachB k u v then distL k u v else 0), .bool (reachB k u v)]) ∧ Below w.heap.size w w' := by
  have hk := craneB_true hc
  have hR := fun W => implRadius_any k.x k.y u v W
  have hD : radL k.x k.y u v = (distL k u v, 0) := by simp [radL, hk.1, hp, distL]
  simp only [hD] at hR
  have hL := fun u' (q : RdP u' c k.ch) => last_any c k.ch u' q hk.2.2.2.2.1.2.1
  unfold reachB
  clear hD
  generalize distL k u v = D at *
  generalize lastL k.ch = L at *
  obtain ⟨hb, ⟨c0, c1, c2, c3, c4, c5, c6⟩, hr⟩ := h
  obtain ⟨A, cp, rfl, _, _⟩ := RdP_slice hr
  have H := Lib.hid hr; clear hr
  clear hk hc hp c0 c3 c4 c5
  obtain ⟨s, x, y, hh, j, bb, zs⟩ := k
  dsimp only at *
  have HK : ∀ u, Below w.heap.size w u → u.cell? ⟨b, o + 6, none⟩ = some (.slice A zs.length cp) ∧ RdP u (.slice A zs.length cp) zs :=
    fun u q => ⟨by rw [kept_cell q b _ hb]; exact c6, RdP_kept H.out q⟩
  have HK := Lib.hid HK
  have HR := Lib.hid hR; clear hR
  have HL := Lib.hid hL; clear hL
  by_cases hD : D ≤ L
  · have hd2 : decide (L < D) = false := by simp; omega
    have hd3 : decide (D ≤ L) = true := by simp; omega
    go_enter Tryd.func100, Tryd.ntmps100
    go_wp2_with fail
    go_region_held3 (fun w' => w'.cell? ⟨b, o + 1, none⟩ = some (.int .i64 x) ∧ w'.cell? ⟨b, o + 2, none⟩ = some (.int .i64 y) ∧ w'.cell? ⟨w.heap.size, 0, none⟩ = some (.int .i64 u) ∧ w'.cell? ⟨w.heap.size, 1, none⟩ = some (.int .i64 v) ∧ Below w.heap.size w w') (refine ⟨?_, ?_, ?_, ?_, ?_⟩ <;> first | (go_grown; done) | (go_keep; done))
      ((go_at_call 109; refine (HR.out _).mono ?_; rintro e w1 ⟨rfl, hb⟩; have hs := hb.size; (try simp at hs); (try (refine kept_at hb (w.heap.size) ?_ (fun hc0 hz0 hs0 => ?_); focus go_size)); (try (refine kept_at hb (w.heap.size + 1) ?_ (fun hc1 hz1 hs1 => ?_); focus go_size)); (try (refine kept_at hb (w.heap.size + 2) ?_ (fun hc2 hz2 hs2 => ?_); focus go_size)); (try (refine kept_at hb (w.heap.size + 3) ?_ (fun hc3 hz3 hs3 => ?_); focus go_size)); (try (refine kept_at hb (w.heap.size + 4) ?_ (fun hc4 hz4 hs4 => ?_); focus go_size)); (try (refine kept_at hb (w.heap.size + 5) ?_ (fun hc5 hz5 hs5 => ?_); focus go_size)); replace hb := kept_trans (a := w) (by go_grown) hb; have hcl := kept_cell hb; have hzl := kept_frozen hb))
    obtain ⟨d6, dr⟩ := HK.out _ hb
    go_wp2_with (go_at_call 85; refine (HL.out _ dr).mono ?_; rintro e w1 ⟨rfl, rfl⟩)
    go_ret2
    exact ⟨by simp [hD], hb⟩
  · have hd2 : L < D := by omega
    have hd3 : decide (D ≤ L) = false := by simp; omega
    go_enter Tryd.func100, Tryd.ntmps100
    go_wp2_with fail
    go_region_held3 (fun w' => w'.cell? ⟨b, o + 1, none⟩ = some (.int .i64 x) ∧ w'.cell? ⟨b, o + 2, none⟩ = some (.int .i64 y) ∧ w'.cell? ⟨w.heap.size, 0, none⟩ = some (.int .i64 u) ∧ w'.cell? ⟨w.heap.size, 1, none⟩ = some (.int .i64 v) ∧ Below w.heap.size w w') (refine ⟨?_, ?_, ?_, ?_, ?_⟩ <;> first | (go_grown; done) | (go_keep; done))
      ((go_at_call 109; refine (HR.out _).mono ?_; rintro e w1 ⟨rfl, hb⟩; have hs := hb.size; (try simp at hs); (try (refine kept_at hb (w.heap.size) ?_ (fun hc0 hz0 hs0 => ?_); focus go_size)); (try (refine kept_at hb (w.heap.size + 1) ?_ (fun hc1 hz1 hs1 => ?_); focus go_size)); (try (refine kept_at hb (w.heap.size + 2) ?_ (fun hc2 hz2 hs2 => ?_); focus go_size)); (try (refine kept_at hb (w.heap.size + 3) ?_ (fun hc3 hz3 hs3 => ?_); focus go_size)); (try (refine kept_at hb (w.heap.size + 4) ?_ (fun hc4 hz4 hs4 => ?_); focus go_size)); (try (refine kept_at hb (w.heap.size + 5) ?_ (fun hc5 hz5 hs5 => ?_); focus go_size)); replace hb := kept_trans (a := w) (by go_grown) hb; have hcl := kept_cell hb; have hzl := kept_frozen hb))
    obtain ⟨d6, dr⟩ := HK.out _ hb
    go_wp2_with (go_at_call 85; refine (HL.out _ dr).mono ?_; rintro e w1 ⟨rfl, rfl⟩)
    all_goals first
      | (exfalso; apply hD; apply of_decide_eq_true; assumption)
      | (go_ret2; exact ⟨by simp [hD], hb⟩)

set_option maxHeartbeats 4000000 in
theorem implLoadPlace_any (k : Cr) (c : Value) (u v : Int) (w : World) (hr : RdP w c k.ch) (hs : k.nm.size ≤ 1000000) :
    Calls Tryd.prog 71 #[.agg #[.string k.nm, .int .i64 k.x, .int .i64 k.y, .int .i64 k.h, .int .i64 k.j, .int .i64 k.b, c], .agg #[.int .i64 u, .int .i64 v]] w fun e w' => e = .returned (.tuple #[.int .i64 (loadPlaceL k u v).1, .int .i64 (loadPlaceL k u v).2]) ∧ Below w.heap.size w w' := by
  obtain ⟨A, cp, rfl, _, _⟩ := RdP_slice hr
  have H := Lib.hid hr; clear hr
  have hA : CrAt (w.alloc (.cells #[.string k.nm, .int .i64 k.x, .int .i64 k.y, .int .i64 k.h, .int .i64 k.j, .int .i64 k.b, .slice A k.ch.length cp] 58)) w.heap.size 0 k (.slice A k.ch.length cp) :=
    ⟨by simp, by simp, RdP_kept H.out (by go_grown)⟩
  have HA := Lib.hid hA; clear hA
  have HC := Lib.hid (fun u (q : RdP u (.slice A k.ch.length cp) k.ch) => implCrane_any k _ u q hs)
  have HP := fun u' => validPlace_any u v u'
  cases h1 : craneB k <;> rw [h1] at HC
  · rw [show loadPlaceL k u v = (0, 1) by simp [loadPlaceL, h1]]
    go_enter Tryd.func71, Tryd.ntmps71
    go_wp2_with fail
    refine (HC.out _ (RdP_kept H.out (by go_grown))).mono ?_
    rintro e w1 ⟨rfl, hb1⟩
    have b1 := kept_trans (a := w) (by go_grown) hb1
    go_wp2
    go_ret2
    exact ⟨rfl, b1⟩
  cases h2 : okP u v <;> rw [h2] at HP <;> have HP := Lib.hid HP
  · rw [show loadPlaceL k u v = (0, 1) by simp [loadPlaceL, h1, h2]]
    go_enter Tryd.func71, Tryd.ntmps71
    go_wp2_with fail
    refine (HC.out _ (RdP_kept H.out (by go_grown))).mono ?_
    rintro e w1 ⟨rfl, hb1⟩
    refine kept_at hb1 (w.heap.size + 1) (by go_size) fun c1_1 z1_1 s1_1 => ?_
    have b1 := kept_trans (a := w) (by go_grown) hb1
    go_wp2_with fail
    refine (HP.out _).mono ?_
    rintro e w2 ⟨rfl, b2⟩
    replace b2 := kept_trans (a := w) (by go_grown) b2
    have l2 := kept_cell b2
    have zz2 := b2.size
    go_wp2
    go_ret2
    exact ⟨rfl, b2⟩
  have HL := fun b o u' (q : CrAt u' b o k (.slice A k.ch.length cp)) => implRadTo_any b o k _ u v u' q h1 h2
  have hE : loadPlaceL k u v = if reachB k u v then (loadL k.ch (distL k u v), 0) else (0, 3) := by simp [loadPlaceL, h1, h2]
  rw [hE]
  clear hE
  cases h3 : reachB k u v <;> simp only [h3, if_true, if_false, Bool.false_eq_true] at HL ⊢
  · have HL := Lib.hid HL
    go_enter Tryd.func71, Tryd.ntmps71
    go_wp2_with fail
    refine (HC.out _ (RdP_kept H.out (by go_grown))).mono ?_
    rintro e w1 ⟨rfl, hb1⟩
    have HA1 := Lib.hid (CrAt_kept (CrAt_kept HA.out (by go_grown)) hb1)
    refine kept_at hb1 (w.heap.size + 1) (by go_size) fun c1_1 z1_1 s1_1 => ?_
    have b1 := kept_trans (a := w) (by go_grown) hb1
    go_wp2_with fail
    refine (HP.out _).mono ?_
    rintro e w2 ⟨rfl, hbx2⟩
    refine kept_at hbx2 (w.heap.size + 1) (by go_size) fun c2_1 z2_1 s2_1 => ?_
    have b2 := kept_trans (a := w) (by go_grown) hbx2
    have HA2 := Lib.hid (CrAt_kept HA1.out hbx2)
    go_wp2_with fail
    refine (HL.out _ _ _ HA2.out).mono ?_
    rintro e w3 ⟨rfl, hb3⟩
    have b3 := kept_trans (a := w) (by go_grown) hb3
    go_wp2
    go_ret2
    exact ⟨rfl, b3⟩
  · have hG := fun u' (q : RdP u' (.slice A k.ch.length cp) k.ch) => implLoadIn_any _ k.ch (distL k u v) u' q (craneB_true h1).2.2.2.2.1 ((find_last (craneB_true h1).2.2.2.2.1 _).2 (by simpa [reachB] using h3))
    generalize loadL k.ch (distL k u v) = D at *
    generalize distL k u v = DD at *
    have HL := Lib.hid HL
    have HG := Lib.hid hG; clear hG
    go_enter Tryd.func71, Tryd.ntmps71
    go_wp2_with fail
    refine (HC.out _ (RdP_kept H.out (by go_grown))).mono ?_
    rintro e w1 ⟨rfl, hb1⟩
    have HA1 := Lib.hid (CrAt_kept (CrAt_kept HA.out (by go_grown)) hb1)
    refine kept_at hb1 (w.heap.size + 1) (by go_size) fun c1_1 z1_1 s1_1 => ?_
    refine kept_at hb1 w.heap.size (by go_size) fun c1_0 z1_0 s1_0 => ?_
    have b1 := kept_trans (a := w) (by go_grown) hb1
    go_wp2_with fail
    refine (HP.out _).mono ?_
    rintro e w2 ⟨rfl, hbx2⟩
    refine kept_at hbx2 (w.heap.size + 1) (by go_size) fun c2_1 z2_1 s2_1 => ?_
    refine kept_at hbx2 w.heap.size (by go_size) fun c2_0 z2_0 s2_0 => ?_
    have b2 := kept_trans (a := w) (by go_grown) hbx2
    have HA2 := Lib.hid (CrAt_kept HA1.out hbx2)
    go_wp2_with fail
    refine (HL.out _ _ _ HA2.out).mono ?_
    rintro e w3 ⟨rfl, hb3⟩
    refine kept_at hb3 w.heap.size (by go_size) fun c3_0 z3_0 s3_0 => ?_
    have b3 := kept_trans (a := w) (by go_grown) hb3
    go_wp2_with fail
    refine (HG.out _ (RdP_kept H.out b3)).mono ?_
    rintro e w4 ⟨rfl, hb4⟩
    have b4 := kept_trans b3 hb4
    go_wp2
    go_ret2
    exact ⟨rfl, b4⟩

/-- The measure of a list of cranes, beside its length. -/
def totK : List (Cr × Value) → Nat
  | [] => 0
  | p :: ks => p.1.nm.size + p.1.ch.length + totK ks

theorem totK_step (ks : List (Cr × Value)) (i : Nat) (h : i < ks.length) : totK (ks.drop i) = ks[i].1.nm.size + ks[i].1.ch.length + totK (ks.drop (i + 1)) := by
  rw [List.drop_eq_getElem_cons h]
  rfl

theorem szKs_any (v : Value) (ks : List (Cr × Value)) (left : Int) (w : World) (h : RdK w v ks) (hl : 0 ≤ left ∧ left ≤ 1000000) (hw : ∀ p ∈ ks, wfK p.1) :
    Calls Tryd.prog 23 #[v, .int .i64 left] w fun e w' => e = .returned (.int .i64 (if (ks.length : Int) + totK ks ≤ left then left - ks.length - totK ks else -1)) ∧ Below w.heap.size w w' := by
  obtain ⟨A, c, rfl, hln, r⟩ := RdK_at h
  clear h
  by_cases h1 : left < (ks.length : Int)
  · rw [if_neg (by omega)]
    go_enter Tryd.func23, Tryd.ntmps23
    go_wp2
    go_ret
    exact ⟨rfl, Below.refl _ _⟩
  have R := Lib.hid r; clear r
  have HW := Lib.hid hw; clear hw
  have HS := Lib.hid (fun i (hi : i < ks.length) => totK_step ks i hi)
  have hd0 : totK (ks.drop 0) = totK ks := by simp
  have hdn : totK (ks.drop ks.length) = 0 := by simp [totK]
  have HD0 := Lib.hid hd0; clear hd0
  have HDN := Lib.hid hdn; clear hdn
  go_enter Tryd.func23, Tryd.ntmps23
  go_wp2_with fail
  go_loopw [1, 5] (fun q i wr => ∃ (j : Nat) (l : Int), j ≤ ks.length ∧ i = .int .i64 j ∧ q = .int .i64 l ∧ 0 ≤ l ∧ l ≤ 1000000 ∧ l - totK (ks.drop j) = left - ks.length - totK ks ∧ Below w.heap.size w wr) (fun _ i _ => ks.length - (intOf i).toNat)
  case atStart => exact ⟨0, left - ks.length, by omega, rfl, by simp [IntWalk.i64_in, IntWalk.wrap64_in, *] <;> omega, by omega, by omega, by rw [HD0.out], Below.refl _ _⟩
  case round =>
    obtain ⟨j, l, hj, rfl, rfl, h0, h1, heq, hb⟩ := hrel
    by_cases hlt : j < ks.length
    · obtain ⟨b, off, rfl, hk⟩ := R.out j hlt
      have hs := HS.out j hlt
      have hwk := (HW.out ks[j] (List.getElem_mem hlt)).1
      have hk := CrAt_kept hk hb
      generalize ks[j].1 = k at *
      generalize ks[j].2 = cv at *
      obtain ⟨hlb, ⟨c0, c1, c2, c3, c4, c5, c6⟩, hr⟩ := hk
      obtain ⟨A2, cp2, rfl, _, _⟩ := RdP_slice hr
      have HZ := Lib.hid (szK_any k (.slice A2 k.ch.length cp2) l ⟨h0, h1⟩ hwk wr hr)
      clear hr
      have hszk : szK k l = if (k.nm.size : Int) + (k.ch.length : Int) ≤ l then l - k.nm.size - k.ch.length else -1 := rfl
      generalize szK k l = z at *
      by_cases hz : (k.nm.size : Int) + (k.ch.length : Int) ≤ l
      · rw [if_pos hz] at hszk
        have hz0 : ¬ z < 0 := by omega
        go_wp2_with fail
        refine HZ.out.mono ?_
        rintro e w1 ⟨rfl, hb1⟩
        go_wp2
        go_roundw
        case rel => exact ⟨j + 1, _, by omega, by go_num, rfl, by omega, by omega, by omega, kept_trans hb hb1⟩
        case measure => simp [intOf]; omega
      · rw [if_neg hz] at hszk
        subst hszk
        go_wp2_with fail
        refine HZ.out.mono ?_
        rintro e w1 ⟨rfl, hb1⟩
        go_wp2
        go_ret
        exact ⟨by first | rfl | rw [if_neg (by omega)], kept_trans hb hb1⟩
    · have : j = ks.length := by omega
      subst this
      rw [HDN.out] at heq
      go_wp2
      go_ret
      have hE : (if (ks.length : Int) + (totK ks : Nat) ≤ left then left - (ks.length : Int) - (totK ks : Nat) else -1) = l := by rw [if_pos (by omega)]; omega
      exact ⟨by first | (rw [hE]; rfl) | (rw [show left - (ks.length : Int) - (totK ks : Nat) = l by omega]; rfl), hb⟩

def fillK : Cr := ⟨⟨#[126, 115, 112, 97, 114, 101, 126]⟩, -7000000000000000101, -7000000000000000101, -7000000000000000101, -7000000000000000101, -7000000000000000101, [fillP]⟩

theorem fillPoint_any (w : World) :
    Calls Tryd.prog 91 #[] w fun e w' => e = .returned (.agg #[.int .i64 (-7000000000000000101), .int .i64 (-7000000000000000101)]) ∧ Below w.heap.size w w' := by
  go_enter Tryd.func91, Tryd.ntmps91
  go_wp2
  go_returns
  exact ⟨rfl, by go_grown⟩

set_option maxHeartbeats 4000000 in
theorem fillK_any (w : World) :
    Calls Tryd.prog 59 #[] w fun e w' => ∃ c', e = .returned (.agg #[.string ⟨#[126, 115, 112, 97, 114, 101, 126]⟩, .int .i64 (-7000000000000000101), .int .i64 (-7000000000000000101), .int .i64 (-7000000000000000101), .int .i64 (-7000000000000000101), .int .i64 (-7000000000000000101), c']) ∧ RowF 124 2 w' w.heap.size w'.heap.size c' 1 (flatP [fillP]) ∧ Below w.heap.size w w' := by
  have HR := Lib.hid (fun (u : World) => World.ownsRow_lit (base := w.heap.size) u (e := 124) (size := 2) #[.int .i64 (-7000000000000000101), .int .i64 (-7000000000000000101)] 1)
  have hq := fun u => fillStep_any u
  simp only [fillP] at hq
  have HQ := Lib.hid hq; clear hq
  go_enter Tryd.func59, Tryd.ntmps59
  go_wp2_with fail
  refine (fillPoint_any _).mono ?_
  rintro e w1 ⟨rfl, b1⟩
  refine kept_at b1 (w.heap.size) (by go_size) fun c1_0 z1_0 s1_0 => ?_
  replace b1 := kept_trans (a := w) (by go_grown) b1
  have l1 := kept_cell b1
  have zz1 := b1.size
  go_wp2_with fail
  refine (HQ.out _).mono ?_
  rintro e w2 ⟨rfl, b2⟩
  refine kept_at b2 (w.heap.size) (by go_size) fun c2_0 z2_0 s2_0 => ?_
  replace b2 := kept_trans (a := w) (by go_grown) b2
  have l2 := kept_cell b2
  have zz2 := b2.size
  clear HQ
  go_simp
  go_step
  go_step
  go_simp
  go_step
  go_step
  go_simp
  go_step
  go_step
  go_simp
  repeat go_step
  (try simp only [Exit.inBlock, Exit.then])
  refine bodyPost_ret (v := .agg #[.string ⟨#[126, 115, 112, 97, 114, 101, 126]⟩, .int .i64 (-7000000000000000101), .int .i64 (-7000000000000000101), .int .i64 (-7000000000000000101), .int .i64 (-7000000000000000101), .int .i64 (-7000000000000000101), .slice (some ⟨w2.heap.size, 0, none⟩) 1 1]) ?_ rfl ⟨_, rfl, ?_, ?_⟩
  · rw [results_cell1 rfl]
    go_simp
  · suffices h : ∀ X : World, X.heap.size = w2.heap.size → RowF 124 2 (X.alloc (.cells #[.int .i64 (-7000000000000000101), .int .i64 (-7000000000000000101)] 124)) w.heap.size (X.alloc (.cells #[.int .i64 (-7000000000000000101), .int .i64 (-7000000000000000101)] 124)).heap.size (.slice (some ⟨w2.heap.size, 0, none⟩) 1 1) 1 (flatP [fillP]) from h _ (by simp)
    intro X hX
    have h := HR.out X (by omega) (by unfold maxLen; omega) (by simp)
    rw [hX] at h
    refine ⟨by simpa [flatP, encP, fillP] using h, fun g hg => ?_⟩
    simp [Value.ownBlock] at hg
    subst hg
    simp
    omega
  · go_grown

def zeroK : Cr × Value := (⟨⟨#[]⟩, 0, 0, 0, 0, 0, []⟩, .slice none 0 0)

/-- The block of a slice. -/
def blkOf : Value → Nat
  | .slice (some a) _ _ => a.block
  | _ => 0

theorem info_crane : (Tryd.prog.info? 58).map (fun i => (i.zero, i.size, i.bytes)) = some (some (.agg #[.string ⟨#[]⟩, .int .i64 0, .int .i64 0, .int .i64 0, .int .i64 0, .int .i64 0, .slice none 0 0]), 7, 80) := by kernel_rfl

theorem make_cranes (n : Nat) (h : n ≤ 4000000) (w : World) :
    (Instr.makeSlice 34 (.int .i64 (n : Int)) (.int .i64 (n : Int))).run Tryd.prog w = .ok (.slice (some ⟨w.heap.size, 0, none⟩) n n) (w.alloc (.cells (madeCells #[.string ⟨#[]⟩, .int .i64 0, .int .i64 0, .int .i64 0, .int .i64 0, .int .i64 0, .slice none 0 0] (n * 7)) 58)) := by
  obtain ⟨i, hi, hz, hs, hb⟩ := info_parts info_crane
  have hb' : (i.bytes : Int) * (n : Int) ≤ 281474976710656 := by rw [hb]; omega
  have hr := run_make (P := Tryd.prog) w 34 58 i (.agg #[.string ⟨#[]⟩, .int .i64 0, .int .i64 0, .int .i64 0, .int .i64 0, .int .i64 0, .slice none 0 0]) Tryd.underlying34 hi hz .i64 .i64 n n (by omega) (Int.le_refl _) hb' (by omega)
  simp only [Int.toNat_natCast, hs] at hr
  exact hr

theorem madeK_flat (n : Nat) : (madeCells #[.string ⟨#[]⟩, .int .i64 0, .int .i64 0, .int .i64 0, .int .i64 0, .int .i64 0, .slice none 0 0] (n * 7)).toList = flatK (List.replicate n zeroK) := by
  apply List.ext_getElem?
  intro j
  by_cases hj : j < n * 7
  · have h := flatK_at (List.replicate n zeroK) (j / 7) (j % 7) (by simp; omega) (by omega)
    rw [show j / 7 * 7 + j % 7 = j by omega, List.getElem_replicate] at h
    rw [h]
    have hm := Nat.mod_lt j (show 0 < 7 by omega)
    rcases (show j % 7 = 0 ∨ j % 7 = 1 ∨ j % 7 = 2 ∨ j % 7 = 3 ∨ j % 7 = 4 ∨ j % 7 = 5 ∨ j % 7 = 6 by omega) with hp | hp | hp | hp | hp | hp | hp <;> simp [madeCells, hj, hp, encK, zeroK]
  · rw [List.getElem?_eq_none (by rw [Array.length_toList, size_madeCells]; omega), List.getElem?_eq_none (by rw [flatK_len]; simp; omega)]

theorem flatK_set (L : List (Cr × Value)) (j : Nat) (p : Cr × Value) :
    ((((((((flatK L).set (j * 7) (.string p.1.nm)).set (j * 7 + 1) (.int .i64 p.1.x)).set (j * 7 + 2) (.int .i64 p.1.y)).set (j * 7 + 3) (.int .i64 p.1.h)).set (j * 7 + 4) (.int .i64 p.1.j)).set (j * 7 + 5) (.int .i64 p.1.b)).set (j * 7 + 6) p.2) = flatK (L.set j p) := by
  induction L generalizing j with
  | nil => simp [flatK]
  | cons z L ih =>
    cases j with
    | zero => simp [flatK, encK]
    | succ j =>
      have := ih j
      simp only [flatK, encK, List.flatMap_cons, List.cons_append, List.nil_append, Nat.succ_mul, List.set_cons_succ] at this ⊢
      rw [← this]

/-- A crane is stored in a row, cell by cell. -/
def setK7 (w : World) (g o : Nat) (p : Cr × Value) : World :=
  (((((((w.setCell ⟨g, o, none⟩ (.string p.1.nm)).setCell ⟨g, o + 1, none⟩ (.int .i64 p.1.x)).setCell ⟨g, o + 2, none⟩ (.int .i64 p.1.y)).setCell ⟨g, o + 3, none⟩ (.int .i64 p.1.h)).setCell ⟨g, o + 4, none⟩ (.int .i64 p.1.j)).setCell ⟨g, o + 5, none⟩ (.int .i64 p.1.b)).setCell ⟨g, o + 6, none⟩ p.2)

theorem row_setK7 {w : World} {base g n cap : Nat} {L : List (Cr × Value)} (h : w.ownsRow base 58 7 (.slice (some ⟨g, 0, none⟩) n cap) n (flatK L)) (j : Nat) (p : Cr × Value) :
    (setK7 w g (j * 7) p).ownsRow base 58 7 (.slice (some ⟨g, 0, none⟩) n cap) n (flatK (L.set j p)) ∧ w.grownBy (setK7 w g (j * 7) p) (some g) := by
  have h0 := h.stored (j * 7) (.string p.1.nm)
  have h1 := h0.1.stored (j * 7 + 1) (.int .i64 p.1.x)
  have h2 := h1.1.stored (j * 7 + 2) (.int .i64 p.1.y)
  have h3 := h2.1.stored (j * 7 + 3) (.int .i64 p.1.h)
  have h4 := h3.1.stored (j * 7 + 4) (.int .i64 p.1.j)
  have h5 := h4.1.stored (j * 7 + 5) (.int .i64 p.1.b)
  have h6 := h5.1.stored (j * 7 + 6) p.2
  rw [flatK_set] at h6
  exact ⟨h6.1, grown_step h0.2 (grown_step h1.2 (grown_step h2.2 (grown_step h3.2 (grown_step h4.2 (grown_step h5.2 h6.2)))))⟩

theorem row_cellsK {w : World} {base g n cap : Nat} {L : List (Cr × Value)} (h : w.ownsRow base 58 7 (.slice (some ⟨g, 0, none⟩) n cap) n (flatK L)) (j : Nat) (hj : j < n) :
    ∃ u0 u1 u2 u3 u4 u5 u6, w.cell? ⟨g, j * 7, none⟩ = some u0 ∧ w.cell? ⟨g, j * 7 + 1, none⟩ = some u1 ∧ w.cell? ⟨g, j * 7 + 2, none⟩ = some u2 ∧ w.cell? ⟨g, j * 7 + 3, none⟩ = some u3 ∧ w.cell? ⟨g, j * 7 + 4, none⟩ = some u4 ∧ w.cell? ⟨g, j * 7 + 5, none⟩ = some u5 ∧ w.cell? ⟨g, j * 7 + 6, none⟩ = some u6 := by
  have hl : (flatK L).length = n * 7 := h.1
  have at_ : ∀ o, o < n * 7 → ∃ u, w.cell? ⟨g, o, none⟩ = some u := fun o ho => ⟨_, by rw [h.cellAt o ho]; exact List.getElem?_eq_getElem (by omega)⟩
  obtain ⟨u0, h0⟩ := at_ (j * 7) (by omega)
  obtain ⟨u1, h1⟩ := at_ (j * 7 + 1) (by omega)
  obtain ⟨u2, h2⟩ := at_ (j * 7 + 2) (by omega)
  obtain ⟨u3, h3⟩ := at_ (j * 7 + 3) (by omega)
  obtain ⟨u4, h4⟩ := at_ (j * 7 + 4) (by omega)
  obtain ⟨u5, h5⟩ := at_ (j * 7 + 5) (by omega)
  obtain ⟨u6, h6⟩ := at_ (j * 7 + 6) (by omega)
  exact ⟨u0, u1, u2, u3, u4, u5, u6, h0, h1, h2, h3, h4, h5, h6⟩

/-- A copy of a list of cranes that the law made; Q: what is known of each chart, ρ: of two of them. -/
def SiteQ (Q : World → Nat → Nat → Cr → Value → Prop) (ρ : Value → Value → Prop) (w : World) (lo hi : Nat) (v : Value) (ks : List Cr) : Prop :=
  ks.length ≤ 1000000 ∧ ∃ (g : Nat) (T S : List (Cr × Value)), v = .slice (some ⟨g, 0, none⟩) ks.length (T ++ S).length ∧ lo ≤ g ∧ T.map (·.1) = ks ∧ S.map (·.1) = List.replicate (roomL ks.length) fillK ∧
    RowF 58 7 w lo hi (.slice (some ⟨g, 0, none⟩) (T ++ S).length (T ++ S).length) (T ++ S).length (flatK (T ++ S)) ∧ (∀ p ∈ T, Q w (g + 1) hi p.1 p.2) ∧ (∀ p ∈ S, RowF 124 2 w (g + 1) hi p.2 1 (flatP [fillP])) ∧ T.Pairwise (fun p q => ρ p.2 q.2)

theorem set_mid {α : Type} (T : List α) (z p : α) (m : Nat) : (T ++ List.replicate (m + 1) z).set T.length p = (T ++ [p]) ++ List.replicate m z := by
  rw [List.set_append_right _ _ (Nat.le_refl _), Nat.sub_self, List.replicate_succ, List.set_cons_zero, List.append_assoc]
  rfl

/-- What a chart's predicate must bear. -/
structure ChartQ (Q : World → Nat → Nat → Cr → Value → Prop) : Prop where
  set : ∀ {w : World} {lo hi : Nat} {k : Cr} {c : Value} (b o : Nat) (u : Value), Q w lo hi k c → b < lo → Q (w.setCell ⟨b, o, none⟩ u) lo hi k c
  kept : ∀ {W w1 : World} {lo hi : Nat} {k : Cr} {c : Value}, Q W lo hi k c → Below W.heap.size W w1 → Q w1 lo hi k c
  wide : ∀ {w : World} {lo lo' hi hi' : Nat} {k : Cr} {c : Value}, Q w lo hi k c → lo' ≤ lo → hi ≤ hi' → Q w lo' hi' k c
  form : ∀ {w : World} {lo hi : Nat} {k : Cr} {c : Value}, Q w lo hi k c → ∃ A n cp, c = .slice A n cp

theorem ChartQ_setK7 {Q : World → Nat → Nat → Cr → Value → Prop} (q : ChartQ Q) {w : World} {lo hi g o : Nat} {k : Cr} {c : Value} {p : Cr × Value} (h : Q w lo hi k c) (hb : g < lo) : Q (setK7 w g o p) lo hi k c :=
  q.set _ _ _ (q.set _ _ _ (q.set _ _ _ (q.set _ _ _ (q.set _ _ _ (q.set _ _ _ (q.set _ _ _ h hb) hb) hb) hb) hb) hb) hb

/-- The chart of a filler. -/
def fillQ (w : World) (lo hi : Nat) (_ : Cr) (c : Value) : Prop := RowF 124 2 w lo hi c 1 (flatP [fillP])

theorem fillQ_ok : ChartQ fillQ where
  set := fun b o u h hb => RowF_set h hb
  kept := fun h hb => RowF_kept h hb
  wide := fun h hl hh => RowF_lo h hl hh
  form := fun h => by
    rcases RowF_form h with ⟨h1, _, _⟩ | ⟨g, cap, e, _⟩
    · cases h1
    · exact ⟨_, _, _, e⟩

set_option maxHeartbeats 1000000 in
set_option maxRecDepth 100000 in
theorem toKs_gen (bare : Bool) (Q : World → Nat → Nat → Cr → Value → Prop) (ρ : Value → Value → Prop) (q : ChartQ Q)
    (qρ : ∀ (w w' : World) (lo hi lo' hi' : Nat) (k k' : Cr) (c c' : Value), Q w lo hi k c → Q w' lo' hi' k' c' → hi ≤ lo' → ρ c c')
    (qto : ∀ (k : Cr) (c : Value) (u : World), RdP u c k.ch → k.ch.length ≤ 1000000 → Calls Tryd.prog 19 #[.agg #[.string k.nm, .int .i64 k.x, .int .i64 k.y, .int .i64 k.h, .int .i64 k.j, .int .i64 k.b, c], .bool bare] u fun e w' => ∃ c', e = .returned (.agg #[.string k.nm, .int .i64 k.x, .int .i64 k.y, .int .i64 k.h, .int .i64 k.j, .int .i64 k.b, c']) ∧ Q w' u.heap.size w'.heap.size k c' ∧ Below u.heap.size u w')
    (v : Value) (ks : List (Cr × Value)) (w : World) (h : RdK w v ks) (hn : ks.length ≤ 1000000) (hbare : bare = false ∨ ks ≠ []) (hch : ∀ p ∈ ks, p.1.ch.length ≤ 1000000) :
    Calls Tryd.prog 29 #[v, .bool bare] w fun e w' => ∃ v', e = .returned v' ∧ SiteQ Q ρ w' w.heap.size w'.heap.size v' (ks.map (·.1)) ∧ Below w.heap.size w w' := by
  obtain ⟨A, c, rfl, hl, r1⟩ := RdK_at h
  clear h
  have R := Lib.hid r1; clear r1
  have hr := roomL_le ks.length
  obtain ⟨N, hN⟩ : ∃ N, N = ks.length + roomL ks.length := ⟨_, rfl⟩
  have hmk : ∀ w : World, (Instr.makeSlice 34 (.int .i64 ((ks.length : Int) + (roomL ks.length : Int))) (.int .i64 ((ks.length : Int) + (roomL ks.length : Int)))).run Tryd.prog w = .ok (.slice (some ⟨w.heap.size, 0, none⟩) N N) (w.alloc (.cells (madeCells #[.string ⟨#[]⟩, .int .i64 0, .int .i64 0, .int .i64 0, .int .i64 0, .int .i64 0, .slice none 0 0] (N * 7)) 58)) := by
    intro w
    have := make_cranes N (by omega) w
    rwa [show ((N : Nat) : Int) = (ks.length : Int) + (roomL ks.length : Int) by omega] at this
  have hcap : N ≤ maxLen := by unfold maxLen; omega
  have hrow0 : ∀ wa : World, w.heap.size ≤ wa.heap.size → (wa.alloc (.cells (madeCells #[.string ⟨#[]⟩, .int .i64 0, .int .i64 0, .int .i64 0, .int .i64 0, .int .i64 0, .slice none 0 0] (N * 7)) 58)).ownsRow w.heap.size 58 7 (.slice (some ⟨wa.heap.size, 0, none⟩) N N) N (flatK ([] ++ List.replicate N zeroK)) := by
    intro wa hwa
    have := World.ownsRow_lit wa (e := 58) (size := 7) (madeCells #[.string ⟨#[]⟩, .int .i64 0, .int .i64 0, .int .i64 0, .int .i64 0, .int .i64 0, .slice none 0 0] (N * 7)) N hwa hcap (size_madeCells _ _)
    rw [madeK_flat] at this
    simpa using this
  have Hrow := Lib.hid hrow0; clear hrow0
  have hb0 : bare = true → ((ks.length : Int) == 0) = false := by
    intro hb
    have : ks.length ≠ 0 := fun h => by
      rcases hbare with h1 | h1
      · rw [hb] at h1; cases h1
      · exact h1 (List.eq_nil_of_length_eq_zero h)
    simpa using this
  clear hbare
  have HN := Lib.hid hN
  have hNb : N ≤ 2000002 ∧ ks.length ≤ N ∧ 0 < N := by
    refine ⟨by omega, by omega, ?_⟩
    rcases Nat.eq_zero_or_pos ks.length with h0 | h0
    · rw [h0] at hN; simp [roomL] at hN; omega
    · omega
  clear hN
  have HQ := Lib.hid q; clear q
  have HQT := Lib.hid qto; clear qto
  have HQR := Lib.hid qρ; clear qρ
  have HCH := Lib.hid hch; clear hch
  cases bare
  all_goals
    have hbn := hb0
    simp only [forall_const, reduceCtorEq, false_implies, Bool.false_eq_true] at hbn
    clear hb0
    go_enter Tryd.func29, Tryd.ntmps29
    go_wp2_with (go_at_call 58; refine (room_any _ (by omega) _).mono ?_; rintro e w1 ⟨rfl, rfl⟩)
    go_loopw [6] (fun i wr => ∃ (j : Nat) (T : List (Cr × Value)), j ≤ ks.length ∧ i = .int .i64 j ∧ T.length = j ∧ T.map (·.1) = (ks.take j).map (·.1) ∧ wr.ownsRow w.heap.size 58 7 (.slice (some ⟨w.heap.size, 0, none⟩) N N) N (flatK (T ++ List.replicate (N - j) zeroK)) ∧ (∀ p ∈ T, Q wr (w.heap.size + 1) wr.heap.size p.1 p.2) ∧ T.Pairwise (fun p q => ρ p.2 q.2) ∧ w.heap.size < wr.heap.size ∧ Below w.heap.size w wr) (fun i _ => ks.length - (intOf i).toNat)
    case atStart => exact ⟨0, [], by omega, rfl, rfl, by simp, Hrow.out w (Nat.le_refl _), (fun p hp => by cases hp), List.Pairwise.nil, by simp, by go_grown⟩
    case round =>
      obtain ⟨j, T, hj, rfl, hTl, hTm, hown, hT, hTp, hlw, hb⟩ := hrel
      have hsz := hb.size
      by_cases hlt : j < ks.length
      · obtain ⟨b, off, rfl, hk⟩ := R.out j hlt
        have hkch := HCH.out ks[j] (List.getElem_mem hlt)
        have hk := CrAt_kept hk hb
        have htk : (ks.take (j + 1)).map (·.1) = (ks.take j).map (·.1) ++ [ks[j].1] := by rw [← List.take_append_getElem hlt, List.map_append]; rfl
        generalize ks[j].1 = k at *
        generalize ks[j].2 = cv at *
        obtain ⟨hlb, ⟨c0, c1, c2, c3, c4, c5, c6⟩, hrc⟩ := hk
        obtain ⟨A2, cp2, rfl, _, _⟩ := RdP_slice hrc
        have HRC := Lib.hid hrc; clear hrc
        have HT := Lib.hid hT; clear hT
        have HTP := Lib.hid hTp; clear hTp
        have HTM := Lib.hid hTm; clear hTm
        have HTK := Lib.hid htk; clear htk
        have HOWN := Lib.hid hown; clear hown
        go_wp2_with fail
        refine (HQT.out k _ wr HRC.out hkch).mono ?_
        rintro e w1 ⟨c', rfl, hq, hb1⟩
        obtain ⟨A3, n3, cp3, rfl⟩ := HQ.out.form hq
        have hown1 := own_kept HOWN.out hb1
        obtain ⟨x0, x1, x2, x3, x4, x5, x6, g0, g1, g2, g3, g4, g5, g6⟩ := row_cellsK hown1 j (by omega)
        have z0 := hown1.frozenAt (j * 7)
        have z1 := hown1.frozenAt (j * 7 + 1)
        have z2 := hown1.frozenAt (j * 7 + 2)
        have z3 := hown1.frozenAt (j * 7 + 3)
        have z4 := hown1.frozenAt (j * 7 + 4)
        have z5 := hown1.frozenAt (j * 7 + 5)
        have z6 := hown1.frozenAt (j * 7 + 6)
        have hst := row_setK7 hown1 j (k, Value.slice A3 n3 cp3)
        rw [show N - j = (N - (j + 1)) + 1 by omega, ← hTl, set_mid, hTl] at hst
        have hcq := fun lo hi k' c' (h : Q w1 lo hi k' c') (hb : w.heap.size < lo) => ChartQ_setK7 HQ.out (o := j * 7) (p := (k, Value.slice A3 n3 cp3)) h hb
        unfold setK7 at hst hcq
        dsimp only at hst hcq
        have HST := Lib.hid hst; clear hst hown1
        have HCQ := Lib.hid hcq; clear hcq
        have HQN := Lib.hid hq; clear hq
        have hsz1 := hb1.size
        have HB := Lib.hid (kept_trans hb hb1)
        have HB1 := Lib.hid hb1
        go_wp2
        go_roundw
        case rel =>
          refine ⟨j + 1, T ++ [(k, Value.slice A3 n3 cp3)], by omega, by go_num, by simp [hTl], by rw [HTK.out, List.map_append, HTM.out]; rfl, HST.out.1, ?_, ?_, by simp; omega, grown_below HB.out HST.out.2 (fun g hg => by simp at hg; omega)⟩
          · intro p hp
            refine HQ.out.wide (HCQ.out (w.heap.size + 1) w1.heap.size _ _ ?_ (Nat.lt_succ_self _)) (Nat.le_refl _) (by simp)
            rcases List.mem_append.1 hp with hp | hp
            · exact HQ.out.wide (HQ.out.kept (HT.out p hp) HB1.out) (Nat.le_refl _) hsz1
            · rw [List.mem_singleton.1 hp]
              exact HQ.out.wide HQN.out (by omega) (Nat.le_refl _)
          · refine List.pairwise_append.2 ⟨HTP.out, List.pairwise_singleton _ _, fun p hp p' hp' => ?_⟩
            rw [List.mem_singleton.1 hp']
            exact HQR.out _ _ _ _ _ _ _ _ _ _ (HT.out p hp) HQN.out (Nat.le_refl _)
        case measure => simp [intOf]; omega
      · have : j = ks.length := by omega
        subst this
        have hTm2 : T.map (·.1) = ks.map (·.1) := by rw [hTm, List.take_length]
        have hrep : N - ks.length = roomL ks.length := by have := HN.out; omega
        have HTM := Lib.hid hTm2; clear hTm hTm2
        have HT0 := Lib.hid hT; clear hT
        have HTP := Lib.hid hTp; clear hTp
        have HREP := Lib.hid hrep
        go_wp2_with fail
        go_loopw [7] (fun i wr => ∃ (M : Nat) (S : List (Cr × Value)), M ≤ N ∧ i = .int .i64 (M : Int) ∧ ks.length + S.length = M ∧ S.map (·.1) = List.replicate S.length fillK ∧ wr.ownsRow w.heap.size 58 7 (.slice (some ⟨w.heap.size, 0, none⟩) N N) N (flatK ((T ++ S) ++ List.replicate (N - M) zeroK)) ∧ (∀ p ∈ T, Q wr (w.heap.size + 1) wr.heap.size p.1 p.2) ∧ (∀ p ∈ S, fillQ wr (w.heap.size + 1) wr.heap.size p.1 p.2) ∧ w.heap.size < wr.heap.size ∧ Below w.heap.size w wr) (fun i _ => N - (intOf i).toNat)
        case atStart => exact ⟨ks.length, [], by omega, rfl, by simp, rfl, by simpa using hown, HT0.out, (fun p hp => by cases hp), hlw, hb⟩
        case round =>
          obtain ⟨M, S, hm, rfl, hSl, hSm, hown, hT, hS, hlw, hb⟩ := hrel
          have hsz := hb.size
          by_cases hlt : M < N
          · have HT := Lib.hid hT; clear hT
            have HSS := Lib.hid hS; clear hS
            have HSM := Lib.hid hSm; clear hSm
            have HOWN := Lib.hid hown; clear hown
            go_wp2_with fail
            refine (fillK_any wr).mono ?_
            rintro e w1 ⟨c', rfl, hq, hb1⟩
            obtain ⟨A3, n3, cp3, rfl⟩ := fillQ_ok.form (k := fillK) hq
            have hown1 := own_kept HOWN.out hb1
            obtain ⟨x0, x1, x2, x3, x4, x5, x6, g0, g1, g2, g3, g4, g5, g6⟩ := row_cellsK hown1 M (by omega)
            have z0 := hown1.frozenAt (M * 7)
            have z1 := hown1.frozenAt (M * 7 + 1)
            have z2 := hown1.frozenAt (M * 7 + 2)
            have z3 := hown1.frozenAt (M * 7 + 3)
            have z4 := hown1.frozenAt (M * 7 + 4)
            have z5 := hown1.frozenAt (M * 7 + 5)
            have z6 := hown1.frozenAt (M * 7 + 6)
            have hst := row_setK7 hown1 M (fillK, .slice A3 n3 cp3)
            have hTS : M = (T ++ S).length := by simp [hTl]; omega
            have hset := set_mid (T ++ S) zeroK (fillK, Value.slice A3 n3 cp3) (N - (M + 1))
            rw [← hTS] at hset
            rw [show N - M = (N - (M + 1)) + 1 by omega, hset] at hst
            have hcq := fun lo hi k' c' (h : Q w1 lo hi k' c') (hb : w.heap.size < lo) => ChartQ_setK7 HQ.out (o := M * 7) (p := (fillK, Value.slice A3 n3 cp3)) h hb
            have hcf := fun lo hi k' c' (h : fillQ w1 lo hi k' c') (hb : w.heap.size < lo) => ChartQ_setK7 fillQ_ok (o := M * 7) (p := (fillK, Value.slice A3 n3 cp3)) h hb
            clear hset
            unfold setK7 at hst hcq hcf
            dsimp only at hst hcq hcf
            have hwf : (Value.agg #[.string ⟨#[126, 115, 112, 97, 114, 101, 126]⟩, .int .i64 (-7000000000000000101), .int .i64 (-7000000000000000101), .int .i64 (-7000000000000000101), .int .i64 (-7000000000000000101), .int .i64 (-7000000000000000101), .slice A3 n3 cp3]) = .agg #[.string fillK.nm, .int .i64 fillK.x, .int .i64 fillK.y, .int .i64 fillK.h, .int .i64 fillK.j, .int .i64 fillK.b, .slice A3 n3 cp3] := rfl
            rw [hwf]
            clear hwf
            have hfm : fillK = (⟨fillK.nm, fillK.x, fillK.y, fillK.h, fillK.j, fillK.b, fillK.ch⟩ : Cr) := rfl
            have HFM := Lib.hid hfm; clear hfm
            have HST := Lib.hid hst; clear hst hown1
            have HCQ := Lib.hid hcq; clear hcq
            have HCF := Lib.hid hcf; clear hcf
            have HQN := Lib.hid hq; clear hq
            have hsz1 := hb1.size
            have HB := Lib.hid (kept_trans hb hb1)
            have HB1 := Lib.hid hb1
            have HSL := Lib.hid hSl
            have HOW2 := Lib.hid hTl
            clear hTS hSl hTl
            go_wp2
            go_roundw
            case rel =>
              have hSl := HSL.out
              refine ⟨M + 1, S ++ [(fillK, Value.slice A3 n3 cp3)], by omega, by go_num, by simp; omega, ?_, ?_, ?_, ?_, by simp; omega, grown_below HB.out HST.out.2 (fun g hg => by simp at hg; omega)⟩
              · rw [List.map_append, HSM.out, List.length_append, List.length_singleton, List.replicate_succ']; rfl
              · rw [← List.append_assoc]; exact HST.out.1
              · intro p hp
                exact HQ.out.wide (HCQ.out (w.heap.size + 1) w1.heap.size _ _ (HQ.out.wide (HQ.out.kept (HT.out p hp) HB1.out) (Nat.le_refl _) hsz1) (Nat.lt_succ_self _)) (Nat.le_refl _) (by simp)
              · intro p hp
                refine fillQ_ok.wide (k := p.1) (HCF.out (w.heap.size + 1) w1.heap.size p.1 _ ?_ (Nat.lt_succ_self _)) (Nat.le_refl _) (by simp)
                rcases List.mem_append.1 hp with hp | hp
                · exact fillQ_ok.wide (k := p.1) (fillQ_ok.kept (k := p.1) (HSS.out p hp) HB1.out) (Nat.le_refl _) hsz1
                · rw [List.mem_singleton.1 hp]
                  exact fillQ_ok.wide (k := fillK) HQN.out (by omega) (Nat.le_refl _)
            case measure => simp [intOf]; omega
          · have : M = N := by omega
            subst this
            have hSl2 : S.length = roomL ks.length := by have := HN.out; omega
            have hTS : (T ++ S).length = M := by simp [hTl, hSl2]; exact HN.out.symm
            have HT := Lib.hid hT; clear hT
            have HSS := Lib.hid hS; clear hS
            have HSM := Lib.hid hSm; clear hSm
            have HOWN := Lib.hid hown; clear hown
            have HTS := Lib.hid hTS; clear hTS
            have HSL := Lib.hid hSl2; clear hSl2 hSl hrep
            have HTL := Lib.hid hTl; clear hTl
            go_wp2
            go_ret
            have hTS := HTS.out
            have hSl2 := HSL.out
            refine ⟨_, rfl, ⟨by simpa using hn, w.heap.size, T, S, ?_, Nat.le_refl _, HTM.out, ?_, ?_, HT.out, fun p hp => HSS.out p hp, HTP.out⟩, hb⟩
            · rw [hTS, List.length_map]; rfl
            · rw [List.length_map, HSM.out, hSl2]
            · have h := HOWN.out
              rw [Nat.sub_self, List.replicate_zero, List.append_nil] at h
              rw [hTS]
              exact ⟨h, fun g hg => by simp [Value.ownBlock] at hg; subst hg; exact ⟨Nat.le_refl _, hlw⟩⟩

def copyQ (w : World) (lo hi : Nat) (k : Cr) (c : Value) : Prop := CopyC w lo hi c k.ch

theorem copyQ_ok : ChartQ copyQ where
  set := fun b o u h hb => CopyC_set h hb
  kept := fun h hb => CopyC_kept h hb
  wide := fun h hl hh => CopyC_lo h hl hh
  form := fun h => by obtain ⟨_, g, e, _⟩ := h; exact ⟨_, _, _, e⟩

def rowQ (w : World) (lo hi : Nat) (k : Cr) (c : Value) : Prop := RowF 124 2 w lo hi c k.ch.length (flatP k.ch)

theorem rowQ_ok : ChartQ rowQ where
  set := fun b o u h hb => RowF_set h hb
  kept := fun h hb => RowF_kept h hb
  wide := fun h hl hh => RowF_lo h hl hh
  form := fun h => by obtain ⟨A, c, e, _⟩ := RdP_slice (RowF_rd h); exact ⟨_, _, _, e⟩

def blkLt (c c' : Value) : Prop := blkOf c < blkOf c'

theorem copyQ_blk {w : World} {lo hi : Nat} {k : Cr} {c : Value} (h : copyQ w lo hi k c) : lo ≤ blkOf c ∧ blkOf c < hi := by
  obtain ⟨_, g, rfl, hr⟩ := h
  exact hr.2 g rfl

theorem SiteQ_kept {Q : World → Nat → Nat → Cr → Value → Prop} {ρ : Value → Value → Prop} (q : ChartQ Q) {W w1 : World} {lo hi : Nat} {v : Value} {ks : List Cr} (h : SiteQ Q ρ W lo hi v ks) (hb : Below W.heap.size W w1) : SiteQ Q ρ w1 lo hi v ks := by
  obtain ⟨hn, g, T, S, hv, hg, hT, hS, hr, hq, hf, hp⟩ := h
  exact ⟨hn, g, T, S, hv, hg, hT, hS, RowF_kept hr hb, fun p hp => q.kept (hq p hp) hb, fun p hp => RowF_kept (hf p hp) hb, hp⟩

theorem SiteQ_set {Q : World → Nat → Nat → Cr → Value → Prop} {ρ : Value → Value → Prop} (q : ChartQ Q) {w : World} {lo hi : Nat} {v : Value} {ks : List Cr} (b o : Nat) (u : Value) (h : SiteQ Q ρ w lo hi v ks) (hb : b < lo) : SiteQ Q ρ (w.setCell ⟨b, o, none⟩ u) lo hi v ks := by
  obtain ⟨hn, g, T, S, hv, hg, hT, hS, hr, hq, hf, hp⟩ := h
  exact ⟨hn, g, T, S, hv, hg, hT, hS, RowF_set hr hb, fun p hp => q.set b o u (hq p hp) (by omega), fun p hp => RowF_set (hf p hp) (by omega), hp⟩

theorem SiteQ_wide {Q : World → Nat → Nat → Cr → Value → Prop} {ρ : Value → Value → Prop} (q : ChartQ Q) {w : World} {lo lo' hi hi' : Nat} {v : Value} {ks : List Cr} (h : SiteQ Q ρ w lo hi v ks) (hl : lo' ≤ lo) (hh : hi ≤ hi') : SiteQ Q ρ w lo' hi' v ks := by
  obtain ⟨hn, g, T, S, hv, hg, hT, hS, hr, hq, hf, hp⟩ := h
  exact ⟨hn, g, T, S, hv, by omega, hT, hS, RowF_lo hr hl hh, fun p hp => q.wide (hq p hp) (Nat.le_refl _) hh, fun p hp => RowF_lo (hf p hp) (Nat.le_refl _) hh, hp⟩

theorem flatK_take (T S : List (Cr × Value)) : (flatK (T ++ S)).take (T.length * 7) = flatK T := by
  rw [show flatK (T ++ S) = flatK T ++ flatK S by simp [flatK], ← flatK_len, List.take_left]

theorem SiteQ_rd {Q : World → Nat → Nat → Cr → Value → Prop} {ρ : Value → Value → Prop} (qrd : ∀ (w : World) (lo hi : Nat) (k : Cr) (c : Value), Q w lo hi k c → RdP w c k.ch) {w : World} {lo hi : Nat} {v : Value} {ks : List Cr} (h : SiteQ Q ρ w lo hi v ks) : ∃ T : List (Cr × Value), RdK w v T ∧ T.map (·.1) = ks := by
  obtain ⟨hn, g, T, S, rfl, hg, hT, hS, hr, hq, hf, hp⟩ := h
  have hTl : T.length = ks.length := by rw [← hT]; simp
  refine ⟨T, ⟨?_, fun p hp => qrd _ _ _ _ _ (hq p hp)⟩, hT⟩
  have := RowF_short hr (n := T.length) (by simp)
  rw [flatK_take, hTl] at this
  rw [hTl]
  exact RowF_rd this

/-- A site's cranes, copied by the law with room behind them. -/
def SiteC (w : World) (lo hi : Nat) (v : Value) (ks : List Cr) : Prop := SiteQ copyQ blkLt w lo hi v ks

theorem SiteC_rd {w : World} {lo hi : Nat} {v : Value} {ks : List Cr} (h : SiteC w lo hi v ks) : ∃ T : List (Cr × Value), RdK w v T ∧ T.map (·.1) = ks := SiteQ_rd (fun _ _ _ _ _ h => CopyC_rd h) h

theorem SiteC_kept {W w1 : World} {lo hi : Nat} {v : Value} {ks : List Cr} (h : SiteC W lo hi v ks) (hb : Below W.heap.size W w1) : SiteC w1 lo hi v ks := SiteQ_kept copyQ_ok h hb

theorem toKs_false (v : Value) (ks : List (Cr × Value)) (w : World) (h : RdK w v ks) (hn : ks.length ≤ 1000000) (hch : ∀ p ∈ ks, p.1.ch.length ≤ 1000000) :
    Calls Tryd.prog 29 #[v, .bool false] w fun e w' => ∃ v', e = .returned v' ∧ SiteC w' w.heap.size w'.heap.size v' (ks.map (·.1)) ∧ Below w.heap.size w w' :=
  toKs_gen false copyQ blkLt copyQ_ok (fun w w' lo hi lo' hi' k k' c c' h h' hl => by have := copyQ_blk h; have := copyQ_blk h'; unfold blkLt; omega)
    (fun k c u q l => toK_false k c u q l) v ks w h hn (Or.inl rfl) hch

theorem toKs_true (v : Value) (ks : List (Cr × Value)) (w : World) (h : RdK w v ks) (hn : ks.length ≤ 1000000) (hch : ∀ p ∈ ks, p.1.ch.length ≤ 1000000) :
    Calls Tryd.prog 29 #[v, .bool true] w fun e w' => ∃ v', e = .returned v' ∧ (v' = .slice none 0 0 ∧ ks = [] ∨ SiteQ rowQ (fun _ _ => True) w' w.heap.size w'.heap.size v' (ks.map (·.1))) ∧ Below w.heap.size w w' := by
  by_cases hz : ks = []
  · subst hz
    obtain ⟨A, c, rfl, _, _⟩ := RdK_at h
    clear h
    go_enter Tryd.func29, Tryd.ntmps29
    go_wp2
    go_ret
    exact ⟨_, rfl, Or.inl (by simp), Below.refl _ _⟩
  · exact (toKs_gen true rowQ (fun _ _ => True) rowQ_ok (fun _ _ _ _ _ _ _ _ _ _ _ _ _ => trivial) (fun k c u q l => toK_true k c u q l) v ks w h hn (Or.inr hz) hch).mono fun e w' ⟨v', he, hs, hb⟩ => ⟨v', he, Or.inr hs, hb⟩

set_option maxHeartbeats 1000000 in
theorem toS_false (c : Value) (ks : List (Cr × Value)) (w : World) (h : RdK w c ks) (hn : ks.length ≤ 1000000) (hch : ∀ p ∈ ks, p.1.ch.length ≤ 1000000) :
    Calls Tryd.prog 9 #[.agg #[c], .bool false] w fun e w' => ∃ c', e = .returned (.agg #[c']) ∧ SiteC w' w.heap.size w'.heap.size c' (ks.map (·.1)) ∧ Below w.heap.size w w' := by
  obtain ⟨A0, cp0, rfl, _, _⟩ := RdK_at h
  have H := Lib.hid h; clear h
  have HQ := Lib.hid (fun u q => toKs_false (.slice A0 ks.length cp0) ks u q hn hch)
  generalize ks.map (·.1) = ms at *
  go_enter Tryd.func9, Tryd.ntmps9
  go_wp2_with fail
  refine (HQ.out _ (RdK_kept H.out (by go_grown))).mono ?_
  rintro e w1 ⟨c', rfl, hc, hb1⟩
  obtain ⟨g, T, S, hv, hrest⟩ := hc.2
  have hc := hc
  rw [hv] at hc ⊢
  clear hv hrest
  have HC := Lib.hid hc; clear hc
  refine kept_at hb1 (w.heap.size + 1) (by go_size) fun c1_1 z1_1 s1_1 => ?_
  refine kept_at hb1 (w.heap.size + 2) (by go_size) fun c1_2 z1_2 s1_2 => ?_
  have b1 := kept_trans (a := w) (by go_grown) hb1
  go_wp2
  (try simp only [Exit.inBlock, Exit.then])
  refine bodyPost_ret (v := .agg #[.slice (some ⟨g, 0, none⟩) ms.length (T ++ S).length]) ?_ rfl ⟨_, rfl, ?_, ?_⟩
  · rw [results_cell1 rfl]
    go_simp
  · have h := HC.out
    simp only [World.size_alloc] at h
    refine SiteQ_wide copyQ_ok (lo := w.heap.size + 1 + 1 + 1) (hi := w1.heap.size) (SiteQ_set copyQ_ok _ _ _ (SiteQ_set copyQ_ok _ _ _ h (by omega)) (by omega)) (by omega) (by simp)
  · go_grown

set_option maxHeartbeats 1000000 in
theorem toS_true (c : Value) (ks : List (Cr × Value)) (w : World) (h : RdK w c ks) (hn : ks.length ≤ 1000000) (hch : ∀ p ∈ ks, p.1.ch.length ≤ 1000000) :
    Calls Tryd.prog 9 #[.agg #[c], .bool true] w fun e w' => ∃ c' T, e = .returned (.agg #[c']) ∧ RdK w' c' T ∧ (∃ A cp, c' = .slice A T.length cp ∧ T.length ≤ cp) ∧ T.map (·.1) = ks.map (·.1) ∧ Below w.heap.size w w' := by
  obtain ⟨A0, cp0, rfl, _, _⟩ := RdK_at h
  have H := Lib.hid h; clear h
  have HQ := Lib.hid (fun u q => toKs_true (.slice A0 ks.length cp0) ks u q hn hch)
  go_enter Tryd.func9, Tryd.ntmps9
  go_wp2_with fail
  refine (HQ.out _ (RdK_kept H.out (by go_grown))).mono ?_
  rintro e w1 ⟨c', rfl, hc, hb1⟩
  have hf : ∃ A n cp, c' = .slice A n cp := by
    rcases hc with ⟨rfl, _⟩ | hc
    · exact ⟨_, _, _, rfl⟩
    · obtain ⟨g, T, S, hv, _⟩ := hc.2
      exact ⟨_, _, _, hv⟩
  obtain ⟨A1, n1, cp1, rfl⟩ := hf
  have HC := Lib.hid hc; clear hc
  refine kept_at hb1 (w.heap.size + 1) (by go_size) fun c1_1 z1_1 s1_1 => ?_
  refine kept_at hb1 (w.heap.size + 2) (by go_size) fun c1_2 z1_2 s1_2 => ?_
  have b1 := kept_trans (a := w) (by go_grown) hb1
  go_wp2
  (try simp only [Exit.inBlock, Exit.then])
  rcases HC.out with ⟨h1, h2⟩ | h
  · refine bodyPost_ret (v := .agg #[.slice A1 n1 cp1]) ?_ rfl ⟨_, [], rfl, ?_, ⟨none, 0, h1, Nat.le_refl _⟩, by rw [h2], ?_⟩
    · rw [results_cell1 rfl]
      go_simp
    · rw [h1]
      exact ⟨⟨by simp, rfl, none, 0, rfl, fun i hi => by simp at hi⟩, fun p hp => by cases hp⟩
    · go_grown
  · simp only [World.size_alloc] at h
    have h2 := SiteQ_set rowQ_ok (w.heap.size + 1) 0 (.slice A1 n1 cp1) (SiteQ_set rowQ_ok (w.heap.size + 1 + 1) 0 (.slice A1 n1 cp1) h (by omega)) (by omega)
    have hcap : ∃ A cp, Value.slice A1 n1 cp1 = .slice A (ks.map (·.1)).length cp ∧ (ks.map (·.1)).length ≤ cp := by
      obtain ⟨_, g, T0, S0, hv, _, hT0, _⟩ := h2
      exact ⟨_, _, hv, by rw [← hT0]; simp⟩
    obtain ⟨T, hT, hm⟩ := SiteQ_rd (fun _ _ _ _ _ h => RowF_rd h) h2
    have hTl : T.length = (ks.map (·.1)).length := by rw [← hm]; simp
    rw [← hTl] at hcap
    refine bodyPost_ret (v := .agg #[.slice A1 n1 cp1]) ?_ rfl ⟨_, T, rfl, hT, hcap, hm, ?_⟩
    · rw [results_cell1 rfl]
      go_simp
    · go_grown

theorem eqK_same (k : Cr) (c1 c2 : Value) (w : World) (h1 : RdP w c1 k.ch) (h2 : RdP w c2 k.ch) :
    Calls Tryd.prog 98 #[.agg #[.string k.nm, .int .i64 k.x, .int .i64 k.y, .int .i64 k.h, .int .i64 k.j, .int .i64 k.b, c1], .agg #[.string k.nm, .int .i64 k.x, .int .i64 k.y, .int .i64 k.h, .int .i64 k.j, .int .i64 k.b, c2]] w fun e w' => e = .returned (.bool true) ∧ Below w.heap.size w w' := by
  obtain ⟨A1, cp1, rfl, _, _⟩ := RdP_slice h1
  obtain ⟨A2, cp2, rfl, _, _⟩ := RdP_slice h2
  have H1 := Lib.hid h1; clear h1
  have H2 := Lib.hid h2; clear h2
  obtain ⟨s, x, y, hh, j, b, zs⟩ := k
  dsimp only at *
  go_enter Tryd.func98, Tryd.ntmps98
  go_wp2_with fail
  refine (eqPoint_same _ _ _).mono ?_
  rintro e w1 ⟨rfl, b1⟩
  refine kept_at b1 (w.heap.size) (by go_size) fun c1_0 z1_0 s1_0 => ?_
  refine kept_at b1 (w.heap.size + 1) (by go_size) fun c1_1 z1_1 s1_1 => ?_
  replace b1 := kept_trans (a := w) (by go_grown) b1
  have l1 := kept_cell b1
  have zz1 := b1.size
  go_wp2_with fail
  refine (eqC_same _ _ zs _ (RdP_kept H1.out (by go_grown)) (RdP_kept H2.out (by go_grown))).mono ?_
  rintro e w2 ⟨rfl, hb2⟩
  have b2 := kept_trans (a := w) (by go_grown) hb2
  go_wp2
  go_ret
  exact ⟨rfl, b2⟩

set_option maxHeartbeats 1000000 in
theorem eqKs_same (v1 v2 : Value) (k1 k2 : List (Cr × Value)) (w : World) (h1 : RdK w v1 k1) (h2 : RdK w v2 k2) (hm : k1.map (·.1) = k2.map (·.1)) :
    Calls Tryd.prog 65 #[v1, v2] w fun e w' => e = .returned (.bool true) ∧ Below w.heap.size w w' := by
  obtain ⟨A1, cp1, rfl, hl1, r1⟩ := RdK_at h1
  obtain ⟨A2, cp2, rfl, hl2, r2⟩ := RdK_at h2
  clear h1 h2
  have hlen : k1.length = k2.length := by have := congrArg List.length hm; simpa using this
  have hel : ∀ i (h1 : i < k1.length) (h2 : i < k2.length), k1[i].1 = k2[i].1 := by
    intro i h1 h2
    have := congrArg (·[i]?) hm
    simpa [h1, h2] using this
  have R1 := Lib.hid r1; clear r1
  have R2 := Lib.hid r2; clear r2
  have HEL := Lib.hid hel; clear hel hm
  rw [← hlen]
  have HLEN := Lib.hid hlen
  clear hlen hl2
  go_enter Tryd.func65, Tryd.ntmps65
  go_wp2_with fail
  go_loopw [5] (fun i wr => ∃ j : Nat, j ≤ k1.length ∧ i = .int .i64 j ∧ Below w.heap.size w wr) (fun i _ => k1.length - (intOf i).toNat)
  case atStart => exact ⟨0, by omega, rfl, Below.refl _ _⟩
  case round =>
    obtain ⟨j, hj, rfl, hb⟩ := hrel
    by_cases hlt : j < k1.length
    · obtain ⟨b, off, rfl, hk⟩ := R1.out j hlt
      obtain ⟨b2, off2, rfl, hk2⟩ := R2.out j (by have := HLEN.out; omega)
      rw [← HEL.out j hlt (by have := HLEN.out; omega)] at hk2
      have hk := CrAt_kept hk hb
      have hk2 := CrAt_kept hk2 hb
      generalize k1[j].1 = k at *
      generalize k1[j].2 = cv at *
      generalize k2[j].2 = cv2 at *
      obtain ⟨hlb, ⟨c0, c1, c2, c3, c4, c5, c6⟩, hrc⟩ := hk
      obtain ⟨hlb2, ⟨d0, d1, d2, d3, d4, d5, d6⟩, hrd⟩ := hk2
      obtain ⟨A3, cp3, rfl, _, _⟩ := RdP_slice hrc
      obtain ⟨A4, cp4, rfl, _, _⟩ := RdP_slice hrd
      have HE := Lib.hid (fun (m : Nat) => eqK_same k _ _ (wr.drewN m) (RdP_kept hrc (kept_drewN (Below.refl _ _) m)) (RdP_kept hrd (kept_drewN (Below.refl _ _) m)))
      clear hrc hrd
      go_wp2_with fail
      go_cut [26] (fun s26 w' => s26 = .bool false ∧ Below w.heap.size w w')
      case first =>
        go_region_with ((go_at_call 98; refine (HE.out 1).mono ?_; rintro e w1 ⟨rfl, hb1⟩; have b1 := kept_trans (a := w) (kept_drewN hb 1) hb1))
        all_goals
          go_wp2_with fail
          go_meet
          case rel => exact ⟨rfl, b1⟩
      case rest =>
      obtain ⟨rfl, hbc⟩ := hcut
      go_wp2
      go_roundw
      case rel => exact ⟨j + 1, by omega, by go_num, hbc⟩
      case measure => simp [intOf]; omega
    · have : j = k1.length := by omega
      subst this
      go_wp2
      go_ret
      exact ⟨rfl, hb⟩

theorem RdK_tail {w : World} {lo hi g c N : Nat} {T S : List (Cr × Value)} (h : RowF 58 7 w lo hi (.slice (some ⟨g, 0, none⟩) N N) N (flatK (T ++ S))) (hc : ∀ p ∈ S, RdP w p.2 p.1.ch) (hl : S.length ≤ 9223372036854775807) :
    RdK w (.slice (some ⟨g, T.length * 7, none⟩) S.length c) S := by
  have hN : (flatK (T ++ S)).length = N * 7 := h.1.1
  rw [flatK_len, List.length_append] at hN
  refine ⟨⟨hl, flatK_len S, some ⟨g, T.length * 7, none⟩, c, rfl, fun i hi => ⟨g, T.length * 7, rfl, (h.1.lt g rfl).2, ?_⟩⟩, hc⟩
  rw [h.1.cellAt (T.length * 7 + i) (by omega), show flatK (T ++ S) = flatK T ++ flatK S by simp [flatK], List.getElem?_append_right (by rw [flatK_len]; omega), flatK_len]
  congr 1
  omega

theorem SiteC_open {w : World} {lo hi : Nat} {v : Value} {ks : List Cr} (h : SiteC w lo hi v ks) : ∃ (g : Nat) (T S : List (Cr × Value)), v = .slice (some ⟨g, 0, none⟩) ks.length (ks.length + roomL ks.length) ∧ ks.length ≤ 1000000 ∧ T.length = ks.length ∧ S.length = roomL ks.length ∧ g < w.heap.size ∧
    (∀ i (h1 : i < T.length) (h2 : i < ks.length), T[i].1 = ks[i] ∧ CopyC w (g + 1) hi T[i].2 ks[i].ch ∧ CrAt w g (i * 7) ks[i] T[i].2) ∧ S.map (·.1) = List.replicate (roomL ks.length) fillK ∧ (∀ c, RdK w (.slice (some ⟨g, ks.length * 7, none⟩) S.length c) S) := by
  obtain ⟨T', hR, hT'⟩ := SiteC_rd h
  obtain ⟨hn, g, T, S, rfl, hg, hT, hS, hr, hq, hf, hp⟩ := h
  have hTl : T.length = ks.length := by rw [← hT]; simp
  have hSl : S.length = roomL ks.length := by have := congrArg List.length hS; simpa using this
  have hlt : g < w.heap.size := (hr.1.lt g rfl).2
  have hsl : (T ++ S).length = ks.length + roomL ks.length := by simp [hTl, hSl]
  have hrm := roomL_le ks.length
  refine ⟨g, T, S, by rw [hsl], hn, hTl, hSl, hlt, fun i h1 h2 => ?_, hS, fun c => ?_⟩
  · have e : T[i].1 = ks[i] := by
      have := congrArg (·[i]?) hT
      simpa [h1, h2] using this
    have hc := hq T[i] (List.getElem_mem h1)
    have hc' : CopyC w (g + 1) hi T[i].2 ks[i].ch := by rw [← e]; exact hc
    refine ⟨e, hc', hlt, ?_, CopyC_rd hc'⟩
    have at_ : ∀ j, j < 7 → w.cell? ⟨g, i * 7 + j, none⟩ = (encK T[i])[j]? := by
      intro j hj
      rw [hr.1.cellAt (i * 7 + j) (by rw [hsl]; omega), flatK_at (T ++ S) i j (by rw [List.length_append]; omega) hj, List.getElem_append_left h1]
    rw [← e]
    exact ⟨at_ 0 (by omega), at_ 1 (by omega), at_ 2 (by omega), at_ 3 (by omega), at_ 4 (by omega), at_ 5 (by omega), at_ 6 (by omega)⟩
  · rw [← hTl]
    refine RdK_tail hr (fun p hp => ?_) (by omega)
    have e : p.1 = fillK := by
      have : p.1 ∈ S.map (·.1) := List.mem_map.2 ⟨p, hp, rfl⟩
      rw [hS] at this
      exact (List.mem_replicate.1 this).2
    rw [e]
    exact RowF_rd (hf p hp)

set_option maxHeartbeats 2000000 in
theorem intactKs_same (v1 v2 : Value) (ks : List Cr) (lo1 hi1 lo2 hi2 : Nat) (w : World) (h1 : SiteC w lo1 hi1 v1 ks) (h2 : SiteC w lo2 hi2 v2 ks) :
    Calls Tryd.prog 37 #[v1, v2] w fun e w' => e = .returned (.bool true) ∧ Below w.heap.size w w' := by
  have H1 := Lib.hid h1
  have H2 := Lib.hid h2
  obtain ⟨g1, T1, S1, rfl, hn, _, _, _, _, _, _⟩ := SiteC_open h1
  obtain ⟨g2, T2, S2, rfl, _, _, _, _, _, _, _⟩ := SiteC_open h2
  clear h1 h2
  have hr := roomL_le ks.length
  have HE := Lib.hid (fun (u : World) (q1 : SiteC u lo1 hi1 (.slice (some ⟨g1, 0, none⟩) ks.length (ks.length + roomL ks.length)) ks) (q2 : SiteC u lo2 hi2 (.slice (some ⟨g2, 0, none⟩) ks.length (ks.length + roomL ks.length)) ks) => (by
    obtain ⟨g1', T1, S1, e1, _, _, hS1, _, _, hm1, hR1⟩ := SiteC_open q1
    obtain ⟨g2', T2, S2, e2, _, _, hS2, _, _, hm2, hR2⟩ := SiteC_open q2
    cases e1
    cases e2
    have hA : ∀ (g : Nat) (S : List (Cr × Value)), S.length = roomL ks.length → RdK u (.slice (some ⟨g, ks.length * 7, none⟩) S.length (roomL ks.length)) S → RdK u (.slice (if roomL ks.length = 0 then some ⟨g, 0, none⟩ else some ⟨g, ks.length * 7, none⟩) (roomL ks.length) (roomL ks.length)) S := by
      intro g S hS h
      by_cases h0 : roomL ks.length = 0
      · have hS0 := List.eq_nil_of_length_eq_zero (hS.trans h0)
        subst hS0
        rw [if_pos h0, h0]
        exact ⟨⟨by simp, rfl, _, _, rfl, fun i hi => by simp at hi⟩, fun p hp => by cases hp⟩
      · rw [if_neg h0]
        rw [hS] at h
        exact h
    exact eqKs_same _ _ S1 S2 u (hA g1 S1 hS1 (hR1 (roomL ks.length))) (hA g2 S2 hS2 (hR2 (roomL ks.length))) (hm1.trans hm2.symm) : Calls Tryd.prog 65 #[.slice (if roomL ks.length = 0 then some ⟨g1, 0, none⟩ else some ⟨g1, ks.length * 7, none⟩) (roomL ks.length) (roomL ks.length), .slice (if roomL ks.length = 0 then some ⟨g2, 0, none⟩ else some ⟨g2, ks.length * 7, none⟩) (roomL ks.length) (roomL ks.length)] u fun e w' => e = .returned (.bool true) ∧ Below u.heap.size u w'))
  have HX := Lib.hid (fun (u : World) (q1 : SiteC u lo1 hi1 (.slice (some ⟨g1, 0, none⟩) ks.length (ks.length + roomL ks.length)) ks) (q2 : SiteC u lo2 hi2 (.slice (some ⟨g2, 0, none⟩) ks.length (ks.length + roomL ks.length)) ks) (i : Nat) (hi : i < ks.length) => (by
    obtain ⟨g1', T1, S1, e1, _, hl1, _, _, ha1, _, _⟩ := SiteC_open q1
    obtain ⟨g2', T2, S2, e2, _, hl2, _, _, ha2, _, _⟩ := SiteC_open q2
    cases e1
    cases e2
    obtain ⟨_, hc1, hk1⟩ := ha1 i (by omega) hi
    obtain ⟨_, hc2, hk2⟩ := ha2 i (by omega) hi
    exact ⟨_, _, hc1, hk1, hc2, hk2⟩ : ∃ c1 c2, CopyC u (g1 + 1) hi1 c1 ks[i].ch ∧ CrAt u g1 (i * 7) ks[i] c1 ∧ CopyC u (g2 + 1) hi2 c2 ks[i].ch ∧ CrAt u g2 (i * 7) ks[i] c2))
  go_enter Tryd.func37, Tryd.ntmps37
  go_wp2_with (go_at_call 58; refine (room_any _ (by omega) _).mono ?_; rintro e w1 ⟨rfl, rfl⟩)
  go_loopw [6] (fun i wr => ∃ j : Nat, j ≤ ks.length ∧ i = .int .i64 j ∧ Below w.heap.size w wr) (fun i _ => ks.length - (intOf i).toNat)
  case atStart => exact ⟨0, by omega, rfl, Below.refl _ _⟩
  case round =>
    obtain ⟨j, hj, rfl, hb⟩ := hrel
    by_cases hlt : j < ks.length
    · obtain ⟨cv, cv2, hcv, ⟨hlb, ⟨c0, c1, c2, c3, c4, c5, c6⟩, hrc⟩, hcv2, ⟨hlb2, ⟨d0, d1, d2, d3, d4, d5, d6⟩, hrd⟩⟩ := HX.out wr (SiteC_kept H1.out hb) (SiteC_kept H2.out hb) j hlt
      generalize ks[j] = k at *
      obtain ⟨A3, cp3, rfl, _, _⟩ := RdP_slice hrc
      obtain ⟨A4, cp4, rfl, _, _⟩ := RdP_slice hrd
      have HI := Lib.hid (fun (m : Nat) => intactK_same k _ _ _ _ _ _ (wr.drewN m) (CopyC_kept hcv (kept_drewN (Below.refl _ _) m)) (CopyC_kept hcv2 (kept_drewN (Below.refl _ _) m)))
      clear hrc hrd hcv hcv2
      go_wp2_with fail
      go_cut [33] (fun s33 w' => s33 = .bool false ∧ Below w.heap.size w w')
      case first =>
        go_region_with ((go_at_call 22; refine (HI.out 1).mono ?_; rintro e w1 ⟨rfl, hb1⟩; have b1 := kept_trans (a := w) (kept_drewN hb 1) hb1))
        all_goals
          go_wp2_with fail
          go_meet
          case rel => exact ⟨rfl, b1⟩
      case rest =>
      obtain ⟨rfl, hbc⟩ := hcut
      go_wp2
      go_roundw
      case rel => exact ⟨j + 1, by omega, by go_num, hbc⟩
      case measure => simp [intOf]; omega
    · have : j = ks.length := by omega
      subst this
      have hee := fun (m : Nat) => HE.out (wr.drewN m) (SiteC_kept H1.out (kept_drewN hb m)) (SiteC_kept H2.out (kept_drewN hb m))
      have hx1 : ¬ (ks.length + roomL ks.length < ks.length) := by omega
      have hx3 : (ks.length : Int) ≤ (ks.length : Int) + (roomL ks.length : Int) := by omega
      have hx4 : (0 : Int) ≤ (ks.length : Int) + (roomL ks.length : Int) := by omega
      have hx5 : ((ks.length : Int) + (roomL ks.length : Int)).toNat = ks.length + roomL ks.length := by omega
      have hx6 : ks.length ≤ ks.length + roomL ks.length := by omega
      have hx7 : ks.length + roomL ks.length - ks.length = roomL ks.length := by omega
      by_cases h0 : roomL ks.length = 0
      case pos =>
        simp only [h0, if_true] at hee
        have HEE := Lib.hid hee; clear hee
        go_wp2_with fail
        go_region_with ((go_at_call 65; refine (HEE.out 1).mono ?_; rintro e w1 ⟨rfl, hb1⟩; have b1 := kept_trans (a := w) (kept_drewN hb 1) hb1))
        all_goals
          go_wp2
          go_ret
          exact ⟨rfl, b1⟩
      case neg =>
        simp only [if_neg h0] at hee
        have HEE := Lib.hid hee; clear hee
        go_wp2_with fail
        go_region_with ((go_at_call 65; refine (HEE.out 1).mono ?_; rintro e w1 ⟨rfl, hb1⟩; have b1 := kept_trans (a := w) (kept_drewN hb 1) hb1))
        all_goals
          go_wp2
          go_ret
          exact ⟨rfl, b1⟩

/-- The square of the distance of two points. -/
def sqD (x y u v : Int) : Int := (x - u) * (x - u) + (y - v) * (y - v)

theorem far_any (x y u v n : Int) (hp : okP x y = true) (hq : okP u v = true) (hn : 0 ≤ n ∧ n ≤ 2000) (w : World) :
    Calls Tryd.prog 53 #[.agg #[.int .i64 x, .int .i64 y], .agg #[.int .i64 u, .int .i64 v], .int .i64 n] w fun e w' => e = .returned (.bool (decide (n * n < sqD x y u v))) ∧ Below w.heap.size w w' := by
  have g1 := okP_true hp
  have g2 := okP_true hq
  have hQ := fun W => l02Square_any x y u v (by omega) (by omega) (by omega) (by omega) W
  rw [sq_wrap (x - u) (y - v) (by omega) (by omega)] at hQ
  have hb := sq_bd n 2000 (by omega) hn.2
  have hw : IntKind.i64.wrap (n * n) = n * n := IntWalk.i64_in _ (by omega)
  unfold sqD
  generalize (x - u) * (x - u) + (y - v) * (y - v) = D at *
  have HQ := Lib.hid hQ; clear hQ g1 g2 hp hq
  go_enter Tryd.func53, Tryd.ntmps53
  go_wp2_with (go_at_call 68; refine (HQ.out _).mono ?_; rintro e w1 ⟨rfl, hb⟩; have hs := hb.size; (try simp at hs); (try (refine kept_at hb (w.heap.size) ?_ (fun hc0 hz0 hs0 => ?_); focus go_size)); (try (refine kept_at hb (w.heap.size + 1) ?_ (fun hc1 hz1 hs1 => ?_); focus go_size)); (try (refine kept_at hb (w.heap.size + 2) ?_ (fun hc2 hz2 hs2 => ?_); focus go_size)); (try (refine kept_at hb (w.heap.size + 3) ?_ (fun hc3 hz3 hs3 => ?_); focus go_size)); (try (refine kept_at hb (w.heap.size + 4) ?_ (fun hc4 hz4 hs4 => ?_); focus go_size)); (try (refine kept_at hb (w.heap.size + 5) ?_ (fun hc5 hz5 hs5 => ?_); focus go_size)); replace hb := kept_trans (a := w) (by go_grown) hb; have hcl := kept_cell hb; have hzl := kept_frozen hb)
  go_ret
  exact ⟨by simp [hw, IntWalk.wrap64_in (n * n) (by omega)], by go_grown⟩

theorem near_any (x y u v n : Int) (hp : okP x y = true) (hq : okP u v = true) (hn : 0 ≤ n ∧ n ≤ 2000) (w : World) :
    Calls Tryd.prog 93 #[.agg #[.int .i64 x, .int .i64 y], .agg #[.int .i64 u, .int .i64 v], .int .i64 n] w fun e w' => e = .returned (.bool (decide (sqD x y u v ≤ n * n))) ∧ Below w.heap.size w w' := by
  have g1 := okP_true hp
  have g2 := okP_true hq
  have E := sq_wrap (u - x) (v - y) (by omega) (by omega)
  have hb := sq_bd n 2000 (by omega) hn.2
  have hw : IntKind.i64.wrap (n * n) = n * n := IntWalk.i64_in _ (by omega)
  have hM := fun W => minus_any u v x y (by omega) (by omega) (by omega) (by omega) W
  have hS := fun W => scalar_any (u - x) (v - y) (u - x) (v - y) W
  rw [E] at hS
  unfold sqD
  rw [sq_sym x u, sq_sym y v]
  generalize (u - x) * (u - x) + (v - y) * (v - y) = D at *
  generalize u - x = a at *
  generalize v - y = c at *
  have HM := Lib.hid hM; clear hM
  have HS := Lib.hid hS; clear hS g1 g2 hp hq E
  go_enter Tryd.func93, Tryd.ntmps93
  go_wp2_with (first | (go_at_call 111; refine (HM.out _).mono ?_; rintro e w1 ⟨rfl, hb⟩; have hs := hb.size; (try simp at hs); (try (refine kept_at hb (w.heap.size) ?_ (fun hc0 hz0 hs0 => ?_); focus go_size)); (try (refine kept_at hb (w.heap.size + 1) ?_ (fun hc1 hz1 hs1 => ?_); focus go_size)); (try (refine kept_at hb (w.heap.size + 2) ?_ (fun hc2 hz2 hs2 => ?_); focus go_size)); (try (refine kept_at hb (w.heap.size + 3) ?_ (fun hc3 hz3 hs3 => ?_); focus go_size)); (try (refine kept_at hb (w.heap.size + 4) ?_ (fun hc4 hz4 hs4 => ?_); focus go_size)); (try (refine kept_at hb (w.heap.size + 5) ?_ (fun hc5 hz5 hs5 => ?_); focus go_size)); replace hb := kept_trans (a := w) (by go_grown) hb; have hcl := kept_cell hb; have hzl := kept_frozen hb) | (go_at_call 112; refine (HS.out _).mono ?_; rintro e w1 ⟨rfl, hb⟩; have hs := hb.size; (try simp at hs); (try (refine kept_at hb (w.heap.size) ?_ (fun hc0 hz0 hs0 => ?_); focus go_size)); (try (refine kept_at hb (w.heap.size + 1) ?_ (fun hc1 hz1 hs1 => ?_); focus go_size)); (try (refine kept_at hb (w.heap.size + 2) ?_ (fun hc2 hz2 hs2 => ?_); focus go_size)); (try (refine kept_at hb (w.heap.size + 3) ?_ (fun hc3 hz3 hs3 => ?_); focus go_size)); (try (refine kept_at hb (w.heap.size + 4) ?_ (fun hc4 hz4 hs4 => ?_); focus go_size)); (try (refine kept_at hb (w.heap.size + 5) ?_ (fun hc5 hz5 hs5 => ?_); focus go_size)); replace hb := kept_trans (a := w) (by go_grown) hb; have hcl := kept_cell hb; have hzl := kept_frozen hb))
  go_ret
  exact ⟨by simp [hw, IntWalk.wrap64_in (n * n) (by omega)], by go_grown⟩

/-- The place of the first crane with a name; behind the last one if there is none. -/
def idxK (ks : List (Cr × Value)) (s : ByteArray) : Nat := ks.findIdx fun p => decide (p.1.nm = s)

theorem idxK_is {ks : List (Cr × Value)} {s : ByteArray} {k : Nat} (h : k < ks.length) (hk : ks[k].1.nm = s) (hb : ∀ j (hj : j < ks.length), j < k → ¬ ks[j].1.nm = s) : idxK ks s = k := by
  unfold idxK
  rw [List.findIdx_eq h]
  exact ⟨by simp [hk], fun j hj => by simpa using hb j (by omega) hj⟩

theorem idxK_none {ks : List (Cr × Value)} {s : ByteArray} (hb : ∀ j (hj : j < ks.length), ¬ ks[j].1.nm = s) : idxK ks s = ks.length := by
  unfold idxK
  rw [List.findIdx_eq_length]
  intro p hp
  obtain ⟨i, hi, rfl⟩ := List.mem_iff_getElem.1 hp
  simpa using hb i hi

theorem indexNamed_any (v : Value) (ks : List (Cr × Value)) (s : ByteArray) (w : World) (h : RdK w v ks) :
    Calls Tryd.prog 92 #[v, .string s] w fun e w' => e = .returned (.int .i64 (if idxK ks s < ks.length then (idxK ks s : Int) else -1)) ∧ w = w' := by
  obtain ⟨A, c, rfl, hl, r⟩ := RdK_at h
  clear h
  have R := Lib.hid r; clear r
  have HIS := Lib.hid (fun k (h : k < ks.length) => @idxK_is ks s k h)
  have HNO := Lib.hid (@idxK_none ks s)
  generalize hG : (if idxK ks s < ks.length then (idxK ks s : Int) else -1) = G
  have HG := Lib.hid hG; clear hG
  go_enter Tryd.func92, Tryd.ntmps92
  go_wp2_with fail
  go_loop [8] (fun i => ∃ k : Nat, k ≤ ks.length ∧ i = .int .i64 (k : Int) ∧ ∀ j (hj : j < ks.length), j < k → ¬ ks[j].1.nm = s) (fun i => ks.length - (intOf i).toNat)
  case atStart => exact ⟨0, by omega, rfl, fun j _ h => by omega⟩
  case round =>
    obtain ⟨k, hk, rfl, hall⟩ := hrel
    by_cases hlt : k < ks.length
    · obtain ⟨b, off, rfl, hkk⟩ := R.out k hlt
      obtain ⟨_, ⟨c0, _, _, _, _, _, _⟩, _⟩ := hkk
      by_cases he : ks[k].1.nm = s
      · have hi := HIS.out k hlt he hall
        have hE : G = (k : Int) := by rw [← HG.out, hi, if_pos hlt]
        rw [he] at c0
        have HE := Lib.hid hE; clear hE hi hall he
        go_wp2
        go_ret
        exact ⟨by rw [HE.out]; rfl, rfl⟩
      · have hne := str_ne he
        have hall2 : ∀ j (hj : j < ks.length), j < k + 1 → ¬ ks[j].1.nm = s := fun j hj hlt2 => by
          rcases Nat.lt_or_ge j k with h1 | h1
          · exact hall j hj h1
          · have : j = k := by omega
            subst this
            exact he
        have HA := Lib.hid hall2; clear hall2 hall
        generalize ks[k].1.nm = t at *
        clear he
        go_wp2
        go_round
        case rel => exact ⟨k + 1, by omega, by go_num, HA.out⟩
        case measure => simp [intOf]; omega
    · have : k = ks.length := by omega
      subst this
      have hi := HNO.out (fun j hj => hall j hj hj)
      have hE : G = -1 := by rw [← HG.out, hi, if_neg (by omega)]
      have HE := Lib.hid hE; clear hE hi hall
      go_wp2
      go_ret
      exact ⟨by rw [HE.out]; rfl, rfl⟩

/-- One of the cranes stands at most 10 from the crane k. -/
def nearK (ks : List (Cr × Value)) (k : Cr) : Bool := ks.any fun p => decide (sqD p.1.x p.1.y k.x k.y ≤ 100)

/-- Why the crane k can not be added: 0: it can, 1: its name is taken, 2: the site is full, 3: another crane stands too near. -/
def roomN (ks : List (Cr × Value)) (k : Cr) : Nat := if idxK ks k.nm < ks.length then 1 else if 6 ≤ ks.length then 2 else if nearK ks k then 3 else 0

/-- What the three variables hold. -/
def errAt (w : World) (r1 r2 r3 : Value) : Prop :=
  (0 < w.heap.size ∧ w.cell? ⟨0, 0, none⟩ = some r1) ∧ (1 < w.heap.size ∧ w.cell? ⟨1, 0, none⟩ = some r2) ∧ 2 < w.heap.size ∧ w.cell? ⟨2, 0, none⟩ = some r3

theorem errAt_kept {W w1 : World} {r1 r2 r3 : Value} (h : errAt W r1 r2 r3) (hb : Below W.heap.size W w1) : errAt w1 r1 r2 r3 := by
  obtain ⟨⟨g1, c1⟩, ⟨g2, c2⟩, g3, c3⟩ := h
  have hs := hb.size
  exact ⟨⟨by omega, by rw [kept_cell hb _ 0 g1]; exact c1⟩, ⟨by omega, by rw [kept_cell hb _ 0 g2]; exact c2⟩, by omega, by rw [kept_cell hb _ 0 g3]; exact c3⟩

def roomV (r1 r2 r3 : Value) : Nat → Value
  | 0 => .nilIface
  | 1 => r1
  | 2 => r2
  | _ => r3

theorem near_step (ks : List (Cr × Value)) (k : Cr) (i : Nat) (h : i < ks.length) : nearK (ks.take (i + 1)) k = (nearK (ks.take i) k || decide (sqD ks[i].1.x ks[i].1.y k.x k.y ≤ 100)) := by
  rw [nearK, ← List.take_append_getElem h, List.any_append]
  simp [nearK]

theorem near_hit (ks : List (Cr × Value)) (k : Cr) (i : Nat) (h : i < ks.length) (hd : sqD ks[i].1.x ks[i].1.y k.x k.y ≤ 100) : nearK ks k = true := by
  rw [nearK, List.any_eq_true]
  exact ⟨ks[i], List.getElem_mem h, by simpa using hd⟩

set_option maxHeartbeats 2000000 in
theorem roomFor_any (v : Value) (ks : List (Cr × Value)) (b o : Nat) (k : Cr) (c : Value) (r1 r2 r3 : Value) (w : World) (h : RdK w v ks) (hk : CrAt w b o k c) (hok : ∀ p ∈ ks, okP p.1.x p.1.y = true) (hkp : okP k.x k.y = true) (he : errAt w r1 r2 r3) :
    Calls Tryd.prog 60 #[v, .pointer (some ⟨b, o, none⟩)] w fun e w' => e = .returned (roomV r1 r2 r3 (roomN ks k)) ∧ Below w.heap.size w w' := by
  have HX := Lib.hid (indexNamed_any v ks k.nm w h)
  have HE := Lib.hid he
  obtain ⟨⟨g1, e1⟩, ⟨g2, e2⟩, g3, e3⟩ := he
  obtain ⟨A, cp, rfl, hl, r⟩ := RdK_at h
  obtain ⟨hlb, ⟨c0, c1, c2, c3, c4, c5, c6⟩, hrc⟩ := hk
  clear h hrc c3 c4 c5 c6
  have R := Lib.hid r; clear r
  have HOK := Lib.hid hok; clear hok
  by_cases h1 : idxK ks k.nm < ks.length
  · have hN : roomN ks k = 1 := by rw [roomN, if_pos h1]
    rw [hN, if_pos h1] at *
    generalize idxK ks k.nm = m at *
    clear hN
    go_enter Tryd.func60, Tryd.ntmps60
    go_wp2_with fail
    refine HX.out.mono ?_
    rintro e w1 ⟨rfl, rfl⟩
    go_wp2
    go_ret
    exact ⟨rfl, Below.refl _ _⟩
  by_cases h2 : 6 ≤ ks.length
  · have hN : roomN ks k = 2 := by rw [roomN, if_neg h1, if_pos h2]
    rw [hN, if_neg h1] at *
    clear hN h1
    go_enter Tryd.func60, Tryd.ntmps60
    go_wp2_with fail
    refine HX.out.mono ?_
    rintro e w1 ⟨rfl, rfl⟩
    go_wp2
    go_ret
    exact ⟨rfl, Below.refl _ _⟩
  have hN : roomN ks k = if nearK ks k then 3 else 0 := by rw [roomN, if_neg h1, if_neg h2]
  rw [hN, if_neg h1] at *
  clear hN h1
  have HS := Lib.hid (fun i (hi : i < ks.length) => near_step ks k i hi)
  have HH := Lib.hid (fun i (hi : i < ks.length) => near_hit ks k i hi)
  generalize hG : (if nearK ks k = true then 3 else 0) = G
  have HG := Lib.hid hG; clear hG
  go_enter Tryd.func60, Tryd.ntmps60
  go_wp2_with fail
  refine HX.out.mono ?_
  rintro e w1 ⟨rfl, rfl⟩
  go_wp2_with fail
  go_loopw [20] (fun i wr => ∃ j : Nat, j ≤ ks.length ∧ i = .int .i64 (j : Int) ∧ nearK (ks.take j) k = false ∧ Below w.heap.size w wr) (fun i _ => ks.length - (intOf i).toNat)
  case atStart => exact ⟨0, by omega, rfl, rfl, Below.refl _ _⟩
  case round =>
    obtain ⟨j, hj, rfl, hnf, hb⟩ := hrel
    have hsz := hb.size
    by_cases hlt : j < ks.length
    · obtain ⟨b2, off, rfl, hkk⟩ := R.out j hlt
      have hokj := HOK.out ks[j] (List.getElem_mem hlt)
      have hst := HS.out j hlt
      have hht := HH.out j hlt
      obtain ⟨hlb2, ⟨d0, d1, d2, d3, d4, d5, d6⟩, hrd⟩ := CrAt_kept hkk hb
      clear hrd hkk d0 d3 d4 d5 d6
      generalize ks[j].1 = kj at *
      have f1 : wr.cell? ⟨b, o + 1, none⟩ = some (.int .i64 k.x) := by rw [kept_cell hb b _ hlb]; exact c1
      have f2 : wr.cell? ⟨b, o + 2, none⟩ = some (.int .i64 k.y) := by rw [kept_cell hb b _ hlb]; exact c2
      have hna := fun m => near_any kj.x kj.y k.x k.y 10 hokj hkp (by omega) (wr.drewN m)
      rw [hnf, Bool.false_or] at hst
      cases hd : decide (sqD kj.x kj.y k.x k.y ≤ 10 * 10)
      · rw [hd] at hna
        have hd2 : decide (sqD kj.x kj.y k.x k.y ≤ 100) = false := hd
        rw [hd2] at hst
        have HST := Lib.hid hst; clear hst hht
        have HNA := Lib.hid hna; clear hna hd hd2
        go_wp2_with fail
        go_cut [32] (fun s32 w' => s32 = .bool false ∧ Below w.heap.size w w')
        case first =>
          go_region_with ((go_at_call 93; refine (HNA.out 1).mono ?_; rintro e w2 ⟨rfl, hb2⟩; have b2' := kept_trans (a := w) (kept_drewN hb 1) hb2))
          all_goals
            go_wp2_with fail
            go_meet
            case rel => exact ⟨rfl, b2'⟩
        case rest =>
        obtain ⟨rfl, hbc⟩ := hcut
        go_wp2
        go_roundw
        case rel => exact ⟨j + 1, by omega, by go_num, HST.out, hbc⟩
        case measure => simp [intOf]; omega
      · rw [hd] at hna
        have hd2 := of_decide_eq_true hd
        have hnk : nearK ks k = true := hht (by omega)
        have hg : G = 3 := by rw [← HG.out, if_pos hnk]
        have HNK := Lib.hid hg; clear hg hnk hht hst
        have HNA := Lib.hid hna; clear hna hd hd2
        go_wp2_with fail
        go_cut [32] (fun s32 w' => s32 = .bool true ∧ Below w.heap.size w w')
        case first =>
          go_region_with ((go_at_call 93; refine (HNA.out 1).mono ?_; rintro e w2 ⟨rfl, hb2⟩; have b2' := kept_trans (a := w) (kept_drewN hb 1) hb2))
          all_goals
            go_wp2_with fail
            go_meet
            case rel => exact ⟨rfl, b2'⟩
        case rest =>
        obtain ⟨rfl, hbc⟩ := hcut
        obtain ⟨_, _, _, e3'⟩ := errAt_kept HE.out hbc
        go_wp2
        go_ret
        exact ⟨by rw [HNK.out]; rfl, hbc⟩
    · have : j = ks.length := by omega
      subst this
      rw [List.take_length] at hnf
      have hg : G = 0 := by rw [← HG.out, hnf]; rfl
      have HNF := Lib.hid hg; clear hg hnf
      go_wp2
      go_ret
      exact ⟨by rw [HNF.out]; rfl, hb⟩

/-- The first n cranes of a site are valid, have different names and stand more than 10 apart. -/
def siteOk (ks : List (Cr × Value)) (n : Nat) : Prop := ∀ i (hi : i < ks.length), i < n → craneB ks[i].1 = true ∧ ∀ j (hj : j < ks.length), j < i → ¬ ks[j].1.nm = ks[i].1.nm ∧ 100 < sqD ks[j].1.x ks[j].1.y ks[i].1.x ks[i].1.y

def SiteP (ks : List (Cr × Value)) : Prop := siteOk ks ks.length ∧ 1 ≤ ks.length ∧ ks.length ≤ 6

open Classical in
/-- The site is valid. -/
noncomputable def siteB (ks : List (Cr × Value)) : Bool := decide (SiteP ks)

theorem siteB_true {ks : List (Cr × Value)} (h : SiteP ks) : siteB ks = true := by simp [siteB, h]

theorem siteB_false {ks : List (Cr × Value)} (h : ¬ SiteP ks) : siteB ks = false := by simp [siteB, h]

theorem siteOk_step {ks : List (Cr × Value)} {n : Nat} (h : siteOk ks n) (hn : n < ks.length) (h1 : craneB ks[n].1 = true) (h2 : ∀ j (hj : j < ks.length), j < n → ¬ ks[j].1.nm = ks[n].1.nm ∧ 100 < sqD ks[j].1.x ks[j].1.y ks[n].1.x ks[n].1.y) : siteOk ks (n + 1) := by
  intro i hi hlt
  rcases Nat.lt_or_ge i n with h3 | h3
  · exact h i hi h3
  · obtain rfl : i = n := by omega
    exact ⟨h1, h2⟩

theorem room_zero (ks : List (Cr × Value)) (i : Nat) (hi : i < ks.length) :
    roomN (ks.take i) ks[i].1 = 0 ↔ (∀ j (hj : j < ks.length), j < i → ¬ ks[j].1.nm = ks[i].1.nm ∧ 100 < sqD ks[j].1.x ks[j].1.y ks[i].1.x ks[i].1.y) ∧ i < 6 := by
  have hlen : (ks.take i).length = i := by simp; omega
  have hidx : idxK (ks.take i) ks[i].1.nm < (ks.take i).length ↔ ∃ j, ∃ (hj : j < ks.length), j < i ∧ ks[j].1.nm = ks[i].1.nm := by
    unfold idxK
    rw [List.findIdx_lt_length]
    constructor
    · rintro ⟨p, hp, he⟩
      obtain ⟨j, hj, rfl⟩ := List.mem_iff_getElem.1 hp
      rw [hlen] at hj
      refine ⟨j, by omega, hj, ?_⟩
      simpa using he
    · rintro ⟨j, hj, hji, he⟩
      exact ⟨ks[j], List.mem_iff_getElem.2 ⟨j, by rw [hlen]; exact hji, by simp⟩, by simpa using he⟩
  have hnear : nearK (ks.take i) ks[i].1 = true ↔ ∃ j, ∃ (hj : j < ks.length), j < i ∧ sqD ks[j].1.x ks[j].1.y ks[i].1.x ks[i].1.y ≤ 100 := by
    rw [nearK, List.any_eq_true]
    constructor
    · rintro ⟨p, hp, he⟩
      obtain ⟨j, hj, rfl⟩ := List.mem_iff_getElem.1 hp
      rw [hlen] at hj
      refine ⟨j, by omega, hj, ?_⟩
      simpa using he
    · rintro ⟨j, hj, hji, he⟩
      exact ⟨ks[j], List.mem_iff_getElem.2 ⟨j, by rw [hlen]; exact hji, by simp⟩, by simpa using he⟩
  unfold roomN
  rw [hlen] at hidx ⊢
  constructor
  · intro h
    split at h
    · cases h
    · next h1 =>
      split at h
      · cases h
      · next h2 =>
        split at h
        · cases h
        · next h3 =>
          refine ⟨fun j hj hji => ⟨fun he => h1 (hidx.2 ⟨j, hj, hji, he⟩), ?_⟩, by omega⟩
          by_cases h4 : sqD ks[j].1.x ks[j].1.y ks[i].1.x ks[i].1.y ≤ 100
          · exact absurd (hnear.2 ⟨j, hj, hji, h4⟩) h3
          · omega
  · rintro ⟨h, h6⟩
    rw [if_neg (fun hq => by obtain ⟨j, hj, hji, he⟩ := hidx.1 hq; exact (h j hj hji).1 he), if_neg (by omega), if_neg (fun hq => by obtain ⟨j, hj, hji, he⟩ := hnear.1 hq; have := (h j hj hji).2; omega)]

theorem RdK_take {w : World} {A : Option Addr} {c : Nat} {ks : List (Cr × Value)} (h : RdK w (.slice A ks.length c) ks) (i : Nat) (hi : i ≤ ks.length) : RdK w (.slice A i c) (ks.take i) := by
  obtain ⟨⟨hl, hx, A', c', e, hr⟩, hcs⟩ := h
  cases e
  have hlen : (ks.take i).length = i := by simp; omega
  refine ⟨⟨by omega, flatK_len _, A, c, by rw [hlen], fun k hk => ?_⟩, fun p hp => hcs p (List.mem_of_mem_take hp)⟩
  rw [hlen] at hk
  obtain ⟨b, off, e, hlt, hc⟩ := hr k (by omega)
  refine ⟨b, off, e, hlt, ?_⟩
  rw [hc, ← flatK_take (ks.take i) (ks.drop i), List.take_append_drop, hlen, List.getElem?_take, if_pos hk]

set_option maxHeartbeats 2000000 in
theorem implSite_any (A : Option Addr) (c : Nat) (ks : List (Cr × Value)) (r1 r2 r3 : Value) (w : World) (h : RdK w (.slice A ks.length c) ks) (hc : ks.length ≤ c) (hn : ∀ p ∈ ks, p.1.nm.size ≤ 1000000) (he : errAt w r1 r2 r3)
    (hi1 : ∃ t p, r1 = .iface t p) (hi2 : ∃ t p, r2 = .iface t p) (hi3 : ∃ t p, r3 = .iface t p) :
    Calls Tryd.prog 31 #[.agg #[.slice A ks.length c]] w fun e w' => e = .returned (.bool (siteB ks)) ∧ Below w.heap.size w w' := by
  have HE := Lib.hid he; clear he
  have hV : ∀ n, n ≠ 0 → ∃ t p, roomV r1 r2 r3 n = .iface t p := by
    intro n hn
    match n, hn with
    | 1, _ => exact hi1
    | 2, _ => exact hi2
    | n + 3, _ => exact hi3
  have HV := Lib.hid hV; clear hV hi1 hi2 hi3
  obtain ⟨A', c', e, hl, r⟩ := RdK_at h
  cases e
  have H := Lib.hid h; clear h
  have R := Lib.hid r; clear r
  have HN := Lib.hid hn; clear hn
  have HZ := Lib.hid (fun i (hi : i < ks.length) => room_zero ks i hi)
  have hbad : ∀ i (hi : i < ks.length), ¬ (craneB ks[i].1 = true ∧ roomN (ks.take i) ks[i].1 = 0) → siteB ks = false := by
    intro i hi hno
    refine siteB_false fun hs => hno ?_
    have := hs.1 i hi hi
    exact ⟨this.1, (room_zero ks i hi).2 ⟨this.2, by have := hs.2; omega⟩⟩
  have HBAD := Lib.hid hbad; clear hbad
  generalize hG : siteB ks = G at *
  have HG := Lib.hid hG; clear hG
  go_enter Tryd.func31, Tryd.ntmps31
  go_wp2_with fail
  go_loopw [8] (fun i wr => ∃ j : Nat, j ≤ ks.length ∧ i = .int .i64 (j : Int) ∧ siteOk ks j ∧ j ≤ 6 ∧ wr.cell? ⟨w.heap.size, 0, none⟩ = some (.slice A ks.length c) ∧ w.heap.size < wr.heap.size ∧ Below w.heap.size w wr) (fun i _ => ks.length - (intOf i).toNat)
  case atStart => exact ⟨0, by omega, rfl, fun i _ h => by omega, by omega, by simp, by simp, by go_grown⟩
  case round =>
    obtain ⟨j, hj, rfl, hok, hj6, hbox, hlw, hb⟩ := hrel
    have hsz := hb.size
    by_cases hlt : j < ks.length
    · obtain ⟨b, off, rfl, hkk⟩ := R.out j hlt
      have hkk := CrAt_kept hkk hb
      have HKK := Lib.hid hkk
      have hz := HZ.out j hlt
      have hbd := HBAD.out j hlt
      have hnm := HN.out ks[j] (List.getElem_mem hlt)
      have hstep := @siteOk_step ks j hok hlt
      have hokp : ∀ p ∈ ks.take j, okP p.1.x p.1.y = true := by
        intro p hp
        obtain ⟨i, hi, rfl⟩ := List.mem_iff_getElem.1 hp
        have hi2 : i < j := by simpa using (by simp at hi; omega : i < j)
        rw [List.getElem_take]
        exact (craneB_true (hok i (by omega) hi2).1).1
      obtain ⟨hlb, ⟨c0, c1, c2, c3, c4, c5, c6⟩, hrc⟩ := hkk
      generalize ks[j].1 = k at *
      generalize ks[j].2 = cv at *
      obtain ⟨A2, cp2, rfl, _, _⟩ := RdP_slice hrc
      have HC := Lib.hid (implCrane_any k _ wr hrc hnm)
      clear hrc
      cases hcr : craneB k
      · have hg := hbd (by rw [hcr]; simp)
        rw [hcr] at HC
        have HGG := Lib.hid hg; clear hg hbd hz hstep hokp
        go_wp2_with fail
        refine HC.out.mono ?_
        rintro e w1 ⟨rfl, hb1⟩
        go_wp2
        go_ret
        exact ⟨by rw [HGG.out]; rfl, kept_trans hb hb1⟩
      · rw [hcr] at HC
        have hkp := (craneB_true hcr).1
        have HRF := Lib.hid (fun u (q : RdK u (.slice (some ⟨b, off, none⟩) j c) (ks.take j)) (q2 : CrAt u b (off + j * 7) k (.slice A2 k.ch.length cp2)) (q3 : errAt u r1 r2 r3) => roomFor_any _ (ks.take j) _ _ k _ r1 r2 r3 u q q2 hokp hkp q3)
        generalize hm : roomN (ks.take j) k = m at *
        have hjc : j ≤ c := by omega
        by_cases h0 : m = 0
        · subst h0
          have hz1 := hz.1 rfl
          have hst := hstep hcr hz1.1
          have HST := Lib.hid hst; clear hst hstep hz hbd hokp
          go_wp2_with fail
          refine HC.out.mono ?_
          rintro e w1 ⟨rfl, hb1⟩
          have b1 := kept_trans hb hb1
          have hbox1 : w1.cell? ⟨w.heap.size, 0, none⟩ = some (.slice (some ⟨b, off, none⟩) ks.length c) := by rw [kept_cell hb1 _ 0 hlw]; exact hbox
          go_wp2_with fail
          refine (HRF.out w1 (RdK_take (RdK_kept H.out b1) j hj) (CrAt_kept HKK.out hb1) (errAt_kept HE.out b1)).mono ?_
          rintro e w2 ⟨rfl, hb2⟩
          have b2 := kept_trans b1 hb2
          have hlw1 := Nat.lt_of_lt_of_le hlw hb1.size
          have hbox2 : w2.cell? ⟨w.heap.size, 0, none⟩ = some (.slice (some ⟨b, off, none⟩) ks.length c) := by rw [kept_cell hb2 _ 0 hlw1]; exact hbox1
          have hlw2 := Nat.lt_of_lt_of_le hlw1 hb2.size
          simp only [roomV]
          go_wp2
          go_roundw
          case rel => exact ⟨j + 1, by omega, by go_num, HST.out, by omega, hbox2, hlw2, b2⟩
          case measure => simp [intOf]; omega
        · have hg := hbd (fun hq => h0 hq.2)
          obtain ⟨te, pe, hre⟩ := HV.out m h0
          rw [hre] at HRF
          have HGG := Lib.hid hg; clear hg hbd hz hstep hokp hre
          go_wp2_with fail
          refine HC.out.mono ?_
          rintro e w1 ⟨rfl, hb1⟩
          have b1 := kept_trans hb hb1
          have hbox1 : w1.cell? ⟨w.heap.size, 0, none⟩ = some (.slice (some ⟨b, off, none⟩) ks.length c) := by rw [kept_cell hb1 _ 0 hlw]; exact hbox
          go_wp2_with fail
          refine (HRF.out w1 (RdK_take (RdK_kept H.out b1) j hj) (CrAt_kept HKK.out hb1) (errAt_kept HE.out b1)).mono ?_
          rintro e w2 ⟨rfl, hb2⟩
          have b2 := kept_trans b1 hb2
          go_wp2
          go_ret
          exact ⟨by rw [HGG.out]; rfl, b2⟩
    · have : j = ks.length := by omega
      subst this
      have hE : G = decide (0 < ks.length) := by
        rw [← HG.out]
        by_cases h0 : 0 < ks.length
        · rw [siteB_true ⟨hok, by omega, hj6⟩]; simp [h0]
        · rw [siteB_false (fun h => by have := h.2; omega)]; simp [h0]
      have HEE := Lib.hid hE; clear hE hok
      go_wp2
      go_ret
      exact ⟨by rw [HEE.out]; simp, hb⟩

set_option maxHeartbeats 4000000 in
theorem specSite_any (b0 o0 : Nat) (A : Option Addr) (c : Nat) (ks : List (Cr × Value)) (w : World) (h : RdK w (.slice A ks.length c) ks) (hlt0 : b0 < w.heap.size) (hv : w.cell? ⟨b0, o0, none⟩ = some (.slice A ks.length c)) (hn : ∀ p ∈ ks, p.1.nm.size ≤ 1000000) :
    Calls Tryd.prog 25 #[.pointer (some ⟨b0, o0, none⟩)] w fun e w' => e = .returned (.bool (siteB ks)) ∧ Below w.heap.size w w' := by
  obtain ⟨A', c', e, hl, r⟩ := RdK_at h
  cases e
  clear h
  have R := Lib.hid r; clear r
  have HN := Lib.hid hn; clear hn
  have hbad1 : ∀ i (hi : i < ks.length), ¬ craneB ks[i].1 = true → siteB ks = false := fun i hi hno => siteB_false fun hs => hno (hs.1 i hi hi).1
  have hbad2 : ∀ i (hi : i < ks.length) j (hj : j < ks.length), j < i → ¬ (¬ ks[j].1.nm = ks[i].1.nm ∧ 100 < sqD ks[j].1.x ks[j].1.y ks[i].1.x ks[i].1.y) → siteB ks = false := fun i hi j hj hji hno => siteB_false fun hs => hno ((hs.1 i hi hi).2 j hj hji)
  have hend : siteOk ks ks.length → siteB ks = inB (ks.length : Int) 1 6 := by
    intro hok
    by_cases h6 : 1 ≤ ks.length ∧ ks.length ≤ 6
    · rw [siteB_true ⟨hok, h6⟩]; simp [inB]; omega
    · rw [siteB_false (fun hs => h6 hs.2)]; simp [inB]; omega
  have HB1 := Lib.hid hbad1; clear hbad1
  have HB2 := Lib.hid hbad2; clear hbad2
  have HEND := Lib.hid hend; clear hend
  generalize hG : siteB ks = G at *
  clear hG
  go_enter Tryd.func25, Tryd.ntmps25
  go_wp2_with fail
  go_loopw [3] (fun i wr => ∃ n : Nat, n ≤ ks.length ∧ i = .int .i64 (n : Int) ∧ siteOk ks n ∧ Below w.heap.size w wr) (fun i _ => ks.length - (intOf i).toNat)
  case atStart => exact ⟨0, by omega, rfl, fun i _ h => by omega, Below.refl _ _⟩
  case round =>
    obtain ⟨n, hnl, rfl, hok, hb⟩ := hrel
    have hbox : _ := hv
    rw [← kept_cell hb b0 _ hlt0] at hbox
    by_cases hlt : n < ks.length
    · obtain ⟨b, off, rfl, hkk⟩ := R.out n hlt
      have hHC := specCrane_any b (off + n * 7) ks[n].1 ks[n].2 wr (CrAt_kept hkk hb) (HN.out ks[n] (List.getElem_mem hlt))
      cases hcr : craneB ks[n].1
      · have hg := HB1.out n hlt (by rw [hcr]; simp)
        rw [hcr] at hHC
        have HC := Lib.hid hHC; clear hHC hok
        go_wp2_with fail
        refine HC.out.mono ?_
        rintro e w1 ⟨rfl, hb1⟩
        go_wp2
        go_ret
        exact ⟨by rw [hg]; rfl, kept_trans hb hb1⟩
      · rw [hcr] at hHC
        have HC := Lib.hid hHC; clear hHC
        have HOK := Lib.hid hok; clear hok
        have hkp := (craneB_true hcr).1
        go_wp2_with fail
        refine HC.out.mono ?_
        rintro e w1 ⟨rfl, hb1⟩
        have b1 := kept_trans hb hb1
        go_wp2_with fail
        go_loopw [4] (fun i wr => ∃ m : Nat, m ≤ n ∧ i = .int .i64 (m : Int) ∧ (∀ j (hj : j < ks.length), j < m → ¬ ks[j].1.nm = ks[n].1.nm ∧ 100 < sqD ks[j].1.x ks[j].1.y ks[n].1.x ks[n].1.y) ∧ Below w.heap.size w wr) (fun i _ => n - (intOf i).toNat)
        case atStart => exact ⟨0, by omega, rfl, fun j _ h => by omega, b1⟩
        case round =>
          obtain ⟨m, hm, rfl, hall, hb⟩ := hrel
          have hbox2 : _ := hv
          rw [← kept_cell hb b0 _ hlt0] at hbox2
          by_cases hm2 : m < n
          · have hml : m < ks.length := by omega
            obtain ⟨b', off', e', hkm⟩ := R.out m hml
            cases e'
            have hg2 := HB2.out n hlt m hml hm2
            have hokm := (craneB_true (HOK.out m hml hm2).1).1
            have hstep : (¬ ks[m].1.nm = ks[n].1.nm ∧ 100 < sqD ks[m].1.x ks[m].1.y ks[n].1.x ks[n].1.y) → ∀ j (hj : j < ks.length), j < m + 1 → ¬ ks[j].1.nm = ks[n].1.nm ∧ 100 < sqD ks[j].1.x ks[j].1.y ks[n].1.x ks[n].1.y := by
              intro hx j hj hjm
              rcases Nat.lt_or_ge j m with h3 | h3
              · exact hall j hj h3
              · obtain rfl : j = m := by omega
                exact hx
            have HALL := Lib.hid hall; clear hall
            obtain ⟨hlbw, ⟨c0, c1, c2, c3, c4, c5, c6⟩, _⟩ := CrAt_kept hkm hb
            have hb0w : b0 < wr.heap.size := Nat.lt_of_lt_of_le hlt0 hb.size
            obtain ⟨_, ⟨d0, d1, d2, d3, d4, d5, d6⟩, _⟩ := CrAt_kept hkk hb
            clear c3 c4 c5 c6 d3 d4 d5 d6
            have hfar := fun u => far_any ks[m].1.x ks[m].1.y ks[n].1.x ks[n].1.y 10 hokm hkp (by omega) u
            have HSTEP := Lib.hid hstep; clear hstep
            have HKM := Lib.hid hkm; clear hkm
            have HKP := Lib.hid hkp
            have HC0 := Lib.hid hkk
            by_cases hnm : ks[m].1.nm = ks[n].1.nm
            · have hg := hg2 (fun hx => hx.1 hnm)
              rw [hnm] at c0
              clear hfar hg2 hnm hokm hkp hcr
              generalize ks[m].1 = km at *
              generalize ks[n].1 = kn at *
              go_wp2_with fail
              go_quiet (fail)
              go_wp2
              go_ret
              exact ⟨by rw [hg]; rfl, kept_drewN hb _⟩
            · have hne := str_ne hnm
              by_cases hd : 100 < sqD ks[m].1.x ks[m].1.y ks[n].1.x ks[n].1.y
              · have hdd : decide (10 * 10 < sqD ks[m].1.x ks[m].1.y ks[n].1.x ks[n].1.y) = true := by simp; omega
                rw [hdd] at hfar
                have HNX := Lib.hid (HSTEP.out ⟨hnm, hd⟩)
                have HF := Lib.hid hfar; clear hfar hdd hd hnm hg2 hokm hkp hcr
                generalize ks[m].1 = km at *
                generalize ks[n].1 = kn at *
                go_wp2_with fail
                go_region_held3 (fun w' => w'.cell? ⟨b0, o0, none⟩ = some (.slice (some ⟨b, off, none⟩) ks.length c) ∧ w'.cell? ⟨b, off + m * 7, none⟩ = some (.string km.nm) ∧ w'.cell? ⟨b, off + m * 7 + 1, none⟩ = some (.int .i64 km.x) ∧ w'.cell? ⟨b, off + m * 7 + 2, none⟩ = some (.int .i64 km.y) ∧ w'.cell? ⟨b, off + n * 7, none⟩ = some (.string kn.nm) ∧ w'.cell? ⟨b, off + n * 7 + 1, none⟩ = some (.int .i64 kn.x) ∧ w'.cell? ⟨b, off + n * 7 + 2, none⟩ = some (.int .i64 kn.y) ∧ Below w.heap.size w w') (first | (refine ⟨?_, ?_, ?_, ?_, ?_, ?_, ?_, ?_⟩ <;> first | (go_grown; done) | (go_keep; done)) | (exact ⟨(kept_cell hb1 b0 _ hb0w).trans hbox2, (kept_cell hb1 b _ hlbw).trans c0, (kept_cell hb1 b _ hlbw).trans c1, (kept_cell hb1 b _ hlbw).trans c2, (kept_cell hb1 b _ hlbw).trans d0, (kept_cell hb1 b _ hlbw).trans d1, (kept_cell hb1 b _ hlbw).trans d2, hbw⟩))
                  ((go_at_call 53; refine (HF.out _).mono ?_; rintro e w1 ⟨rfl, hb1⟩; have hcl := kept_cell hb1; have hbw := kept_trans (a := w) (kept_drewN hb 1) hb1))
                go_wp2
                go_roundw
                case rel => exact ⟨m + 1, by omega, by go_num, HNX.out, by assumption⟩
                case measure => simp [intOf]; omega
              · have hdd : decide (10 * 10 < sqD ks[m].1.x ks[m].1.y ks[n].1.x ks[n].1.y) = false := by simp; omega
                rw [hdd] at hfar
                have hg := hg2 (fun hx => hd hx.2)
                have HF := Lib.hid hfar; clear hfar hdd hd hnm hg2 hokm hkp hcr
                generalize ks[m].1 = km at *
                generalize ks[n].1 = kn at *
                go_wp2_with fail
                go_region_held3 (fun w' => w'.cell? ⟨b0, o0, none⟩ = some (.slice (some ⟨b, off, none⟩) ks.length c) ∧ w'.cell? ⟨b, off + m * 7, none⟩ = some (.string km.nm) ∧ w'.cell? ⟨b, off + m * 7 + 1, none⟩ = some (.int .i64 km.x) ∧ w'.cell? ⟨b, off + m * 7 + 2, none⟩ = some (.int .i64 km.y) ∧ w'.cell? ⟨b, off + n * 7, none⟩ = some (.string kn.nm) ∧ w'.cell? ⟨b, off + n * 7 + 1, none⟩ = some (.int .i64 kn.x) ∧ w'.cell? ⟨b, off + n * 7 + 2, none⟩ = some (.int .i64 kn.y) ∧ Below w.heap.size w w') (first | (refine ⟨?_, ?_, ?_, ?_, ?_, ?_, ?_, ?_⟩ <;> first | (go_grown; done) | (go_keep; done)) | (exact ⟨(kept_cell hb1 b0 _ hb0w).trans hbox2, (kept_cell hb1 b _ hlbw).trans c0, (kept_cell hb1 b _ hlbw).trans c1, (kept_cell hb1 b _ hlbw).trans c2, (kept_cell hb1 b _ hlbw).trans d0, (kept_cell hb1 b _ hlbw).trans d1, (kept_cell hb1 b _ hlbw).trans d2, hbw⟩))
                  ((go_at_call 53; refine (HF.out _).mono ?_; rintro e w1 ⟨rfl, hb1⟩; have hcl := kept_cell hb1; have hbw := kept_trans (a := w) (kept_drewN hb 1) hb1))
                go_wp2
                go_ret
                exact ⟨by rw [hg]; rfl, by assumption⟩
          · have : m = n := by omega
            subst this
            have hst := siteOk_step HOK.out hlt hcr hall
            have HST := Lib.hid hst; clear hst hall
            go_wp2
            go_roundw
            case rel => exact ⟨m + 1, by omega, by go_num, HST.out, hb⟩
            case measure => simp [intOf]; omega
    · have : n = ks.length := by omega
      subst this
      have hE := HEND.out hok
      clear hok
      go_wp2_with (go_at_call 54; refine (in_any _ _ _ _).mono ?_; rintro e w1 ⟨rfl, rfl⟩)
      go_ret
      exact ⟨by rw [hE]; rfl, hb⟩

theorem totK_mem {ks : List (Cr × Value)} {p : Cr × Value} (h : p ∈ ks) : p.1.nm.size + p.1.ch.length ≤ totK ks := by
  induction ks with
  | nil => cases h
  | cons q ks ih =>
    simp only [totK]
    rcases List.mem_cons.1 h with rfl | h
    · omega
    · have := ih h
      omega

theorem szS_any (c : Value) (ks : List (Cr × Value)) (left : Int) (w : World) (h : RdK w c ks) (hl : 0 ≤ left ∧ left ≤ 1000000) (hw : ∀ p ∈ ks, wfK p.1) :
    Calls Tryd.prog 6 #[.agg #[c], .int .i64 left] w fun e w' => e = .returned (.int .i64 (if (ks.length : Int) + totK ks ≤ left then left - ks.length - totK ks else -1)) ∧ Below w.heap.size w w' := by
  obtain ⟨A, cp, rfl, _, _⟩ := RdK_at h
  have H := Lib.hid h; clear h
  have HQ := Lib.hid (fun u q => szKs_any (.slice A ks.length cp) ks left u q hl hw)
  by_cases h1 : (ks.length : Int) + totK ks ≤ left
  all_goals
    simp only [h1, if_true, if_false] at HQ ⊢
    have hle : 0 ≤ left - (ks.length : Int) - (totK ks : Nat) ∨ True := Or.inr trivial
    generalize (totK ks : Int) = tk at *
    go_enter Tryd.func6, Tryd.ntmps6
    go_wp2_with fail
    refine (HQ.out _ (RdK_kept H.out (by go_grown))).mono ?_
    rintro e w1 ⟨rfl, hb1⟩
    have b1 := kept_trans (a := w) (by go_grown) hb1
    go_wp2
    go_ret
    exact ⟨rfl, b1⟩

theorem intactS_same (ks : List Cr) (c1 c2 : Value) (lo1 hi1 lo2 hi2 : Nat) (w : World) (h1 : SiteC w lo1 hi1 c1 ks) (h2 : SiteC w lo2 hi2 c2 ks) :
    Calls Tryd.prog 12 #[.agg #[c1], .agg #[c2]] w fun e w' => e = .returned (.bool true) ∧ Below w.heap.size w w' := by
  obtain ⟨T1, r1, _⟩ := SiteC_rd h1
  obtain ⟨T2, r2, _⟩ := SiteC_rd h2
  obtain ⟨A1, cp1, rfl, _, _⟩ := RdK_at r1
  obtain ⟨A2, cp2, rfl, _, _⟩ := RdK_at r2
  clear r1 r2
  have H1 := Lib.hid h1; clear h1
  have H2 := Lib.hid h2; clear h2
  go_enter Tryd.func12, Tryd.ntmps12
  go_wp2_with fail
  refine (intactKs_same _ _ ks _ _ _ _ _ (SiteC_kept H1.out (by go_grown)) (SiteC_kept H2.out (by go_grown))).mono ?_
  rintro e w1 ⟨rfl, hb1⟩
  have b1 := kept_trans (a := w) (by go_grown) hb1
  go_wp2
  go_ret
  exact ⟨rfl, b1⟩

theorem map_at {T ks : List (Cr × Value)} (h : T.map (·.1) = ks.map (·.1)) : T.length = ks.length ∧ ∀ i (h1 : i < T.length) (h2 : i < ks.length), T[i].1 = ks[i].1 := by
  refine ⟨by have := congrArg List.length h; simpa using this, fun i h1 h2 => ?_⟩
  have := congrArg (·[i]?) h
  simpa [h1, h2] using this

theorem siteP_map {T ks : List (Cr × Value)} (h : T.map (·.1) = ks.map (·.1)) (hp : SiteP T) : SiteP ks := by
  obtain ⟨hl, he⟩ := map_at h
  obtain ⟨h1, h2, h3⟩ := hp
  refine ⟨fun i hi hn => ?_, by omega, by omega⟩
  have g := h1 i (by omega) (by omega)
  rw [he i (by omega) hi] at g
  refine ⟨g.1, fun j hj hji => ?_⟩
  have := g.2 j (by omega) hji
  rw [he j (by omega) hj] at this
  exact this

theorem siteB_map {T ks : List (Cr × Value)} (h : T.map (·.1) = ks.map (·.1)) : siteB T = siteB ks := by
  unfold siteB
  congr 1
  exact propext ⟨siteP_map h, siteP_map h.symm⟩

theorem names_map {T ks : List (Cr × Value)} (h : T.map (·.1) = ks.map (·.1)) (hn : ∀ p ∈ ks, p.1.nm.size ≤ 1000000) : ∀ p ∈ T, p.1.nm.size ≤ 1000000 := by
  intro p hp
  have : p.1 ∈ T.map (·.1) := List.mem_map.2 ⟨p, hp, rfl⟩
  rw [h] at this
  obtain ⟨q, hq, e⟩ := List.mem_map.1 this
  rw [← e]
  exact hn q hq

/-- The three variables hold errors. -/
def Ers (w : World) : Prop := ErrVar w 0 ∧ ErrVar w 1 ∧ ErrVar w 2

theorem Ers_kept {W w1 : World} (h : Ers W) (hb : Below W.heap.size W w1) : Ers w1 := ⟨ErrVar_kept h.1 hb, ErrVar_kept h.2.1 hb, ErrVar_kept h.2.2 hb⟩

theorem implVS_any (c : Value) (T ks : List (Cr × Value)) (w : World) (h : RdK w c T) (hcap : ∃ A cp, c = .slice A T.length cp ∧ T.length ≤ cp) (hm : T.map (·.1) = ks.map (·.1)) (hn : ∀ p ∈ ks, p.1.nm.size ≤ 1000000) (he : Ers w) :
    Calls Tryd.prog 31 #[.agg #[c]] w fun e w' => e = .returned (.bool (siteB ks)) ∧ Below w.heap.size w w' := by
  rw [← siteB_map hm]
  obtain ⟨A, cp, rfl, hc⟩ := hcap
  obtain ⟨⟨g1, t1, p1, c1⟩, ⟨g2, t2, p2, c2⟩, g3, t3, p3, c3⟩ := he
  exact implSite_any A cp T _ _ _ w h hc (names_map hm hn) ⟨⟨g1, c1⟩, ⟨g2, c2⟩, g3, c3⟩ ⟨_, _, rfl⟩ ⟨_, _, rfl⟩ ⟨_, _, rfl⟩

theorem SiteC_use {w : World} {lo hi : Nat} {v : Value} {ks : List Cr} (h : SiteC w lo hi v ks) : ∃ T : List (Cr × Value), RdK w v T ∧ (∃ A cp, v = .slice A T.length cp ∧ T.length ≤ cp) ∧ T.map (·.1) = ks := by
  obtain ⟨T, hR, hT⟩ := SiteC_rd h
  obtain ⟨g, _, _, e, _, _, _, _⟩ := SiteC_open h
  have hl : T.length = ks.length := by rw [← hT]; simp
  exact ⟨T, hR, ⟨_, _, by rw [e, hl], by omega⟩, hT⟩

theorem siteP_crane {T : List (Cr × Value)} (h : siteB T = true) : T.length ≤ 6 ∧ ∀ j (hj : j < T.length), craneB T[j].1 = true := by
  simp only [siteB, decide_eq_true_eq] at h
  exact ⟨h.2.2, fun j hj => (h.1 j hj hj).1⟩

theorem loadL_reach {k : Cr} {u v : Int} (hc : craneB k = true) (h : reachB k u v = true) : 0 ≤ loadL k.ch (distL k u v) := by
  have hk := (craneB_true hc).2.2.2.2.1
  simp only [reachB, decide_eq_true_eq] at h
  exact (loadL_bd hk ((find_last hk _).2 h)).1

theorem three (p0 p1 p2 : Bool) : p0 = false ∨ (p0 = true ∧ p1 = false) ∨ (p0 = true ∧ p1 = true ∧ p2 = false) ∨ (p0 = true ∧ p1 = true ∧ p2 = true) := by
  cases p0 <;> cases p1 <;> cases p2 <;> simp

/-- A world in which all that was there in W stands as it was. -/
structure BelowBy (W : World) where
  w : World
  h : Below W.heap.size W w
instance belowBy_some (W : World) : Inhabited (BelowBy W) := ⟨⟨W, Below.refl _ _⟩⟩

/-- A region that draws its order, whose operations only read and whose callees only make memory: walked once. -/
theorem wp_region_below {P : Program} {id : Nat} {Q : Exit → Act → World → Prop} {a : Act} {w : World} {l : List Oper} (hm : P.follows .mixedOrders = true) (hB : Region.lexB .any l.toArray = true)
    (h : wpQuiet P l.toArray (fun w' => ∃ p : BelowBy w, w' = p.w) (fun a' => ∀ w', (∃ p : BelowBy w, w' = p.w) → Q .normal a' w') l a) : (Code.region id l.toArray true).wp P Q a w :=
  wp_region_quiet (C := fun w' => ∃ p : BelowBy w, w' = p.w) hm hB ⟨⟨{ w with drawn := w.drawn + 1 }, ⟨rfl, rfl, rfl, Nat.le_refl _, fun _ _ => rfl⟩⟩, rfl⟩ (by simpa using h)

theorem below_call {P : Program} {f : FuncId} {args : Array Value} {W : World} {x : BelowBy W} {v : Value}
    (h : Below W.heap.size W x.w → Calls P f args x.w fun e w' => e = .returned v ∧ Below x.w.heap.size x.w w') : Calls P f args x.w fun e w'' => e = .returned v ∧ ∃ p : BelowBy W, w'' = p.w :=
  (h x.h).mono fun _ w' ⟨he, hb⟩ => ⟨he, ⟨w', kept_trans x.h hb⟩, rfl⟩

/-- A block begins with these values. -/
def BoxR (u : World) (b : Nat) (row : List Value) : Prop := b < u.heap.size ∧ ∀ i v, row[i]? = some v → u.cell? ⟨b, i, none⟩ = some v

theorem BoxR_kept {u u1 : World} {b : Nat} {row : List Value} (h : BoxR u b row) (hb : Below u.heap.size u u1) : BoxR u1 b row :=
  ⟨Nat.lt_of_lt_of_le h.1 hb.size, fun i v hv => (kept_cell hb b i h.1).trans (h.2 i v hv)⟩

theorem BoxR_new' {u : World} {b : Nat} {arr : Array Value} {t : TypeId} (h : b = u.heap.size) : BoxR (u.alloc (.cells arr t)) b arr.toList := by
  subst h
  refine ⟨by simp, fun i v hv => ?_⟩
  rw [cell_of_row _ _ i _ _ _ (heap_alloc_new u _)]
  simpa using hv

theorem BoxR_up {u : World} {b : Nat} {row : List Value} {x : Obj} (h : BoxR u b row) : BoxR (u.alloc x) b row := BoxR_kept h (by go_grown)

attribute [local go_sem] Oper.semAt_some

/-- The indices and numbers of the cranes that are let through among the first k; f: whether, and the number. -/
def numsU (f : Nat → Bool × Int) (k : Nat) : List (Int × Int) := (List.range k).filterMap fun j => if (f j).1 then some ((j : Int), (f j).2) else none

theorem numsU_succ (f : Nat → Bool × Int) (k : Nat) : numsU f (k + 1) = numsU f k ++ (if (f k).1 then [((k : Int), (f k).2)] else []) := by
  unfold numsU
  rw [List.range_succ, List.filterMap_append]
  congr 1
  cases h : (f k).1 <;> simp [h]

theorem numsU_len (f : Nat → Bool × Int) (k : Nat) : (numsU f k).length ≤ k := by
  unfold numsU
  exact Nat.le_trans (List.length_filterMap_le _ _) (by simp)

abbrev enc2 (p : Int × Int) : Array Value := #[.int .i64 p.1, .int .i64 p.2]

theorem grown_of_below {w w' : World} (h : Below w.heap.size w w') : w.grownBy w' none := ⟨h.os, h.tape, h.output, h.size, fun k hk _ => h.block k hk⟩

/- sem_round -/
set_option maxRecDepth 100000 in
set_option maxHeartbeats 2000000 in
open Go.Shelf in
theorem placeSeq_any (Inv : World → Prop) (pS pF pb : Nat) (c : Value) (ks : List (Cr × Value)) (f : Nat → Bool × Int) (n : Nat) (hn : 2 ≤ n) (w : World)
    (h0 : ∀ W, Below w.heap.size w W → Inv W)
    (hS : ∀ u, Inv u → u.cell? ⟨pS, 0, none⟩ = some c)
    (hF : ∀ u, Inv u → u.cell? ⟨pF, 0, none⟩ = some (.func (.func 70) #[] #[.pointer (some ⟨pb, 0, none⟩)]))
    (hR : ∀ u, Inv u → RdK u c ks)
    (hK : ∀ u u', Inv u → Below u.heap.size u u' → Inv u')
    (hN : ∀ u j b o (hj : j < ks.length), Inv u → CrAt u b o ks[j].1 ks[j].2 → Calls Tryd.prog 70 #[.pointer (some ⟨b, o, none⟩), .pointer (some ⟨pb, 0, none⟩)] u fun e u' => e = .returned (.tuple #[.int .i64 (f j).2, .bool (f j).1]) ∧ Below u.heap.size u u') :
    SeqStopsK Fence.wide n Tryd.prog 62 #[.pointer (some ⟨pS, 0, none⟩), .pointer (some ⟨pF, 0, none⟩)] enc2 (fun W W' => Inv W → Inv W') (fun xs => xs = numsU f ks.length) (fun _ => True) ks.length w := by
  intro l J Jx W hW hJ hJx hY hj0
  have hi0 := h0 W hW
  obtain ⟨A, cp, rfl, hl, _⟩ := RdK_at (hR W hi0)
  have cS0 := hS W hi0
  refine callsIn_of_wp Tryd.func62 rfl trivial ?_ rfl
  simp only [Tryd.ntmps62, List.size_toArray, List.length_cons, List.length_nil, Nat.reduceAdd, Nat.reduceSub, Array.replicate_succ, Array.replicate_zero, List.push_toArray, List.append_toArray, List.nil_append, List.cons_append]
  gi_wp2
  gi_loopw [10] (fun i wr => ∃ k : Nat, k ≤ ks.length ∧ i = .int .i64 k ∧ J (numsU f k) wr ∧ Inv wr) (fun i _ => ks.length - (intOf i).toNat)
  case atStart => exact ⟨0, Nat.zero_le _, rfl, hj0, hi0⟩
  case round =>
    obtain ⟨k, hk, rfl, hJs, hiv⟩ := hrel
    have cS := hS _ hiv
    have cF := hF _ hiv
    by_cases hlt : k < ks.length
    · obtain ⟨A', cp', eA, _, r⟩ := RdK_at (hR _ hiv)
      obtain ⟨b, off, hA, hcr⟩ := r k hlt
      injection eA with e1 e2 e3
      subst e1 e3
      subst hA
      have hc := fun u (q : Below wr.heap.size wr u) => hN u k b (off + k * 7) hlt (hK _ _ hiv q) (CrAt_kept hcr q)
      have HKW := Lib.hid (fun u (q : Below wr.heap.size wr u) => hK _ _ hiv q)
      have HJW := Lib.hid (fun u (q : Below wr.heap.size wr u) => hJ _ wr u none hJs (grown_of_below q) (fun r e => by cases e))
      have hmx : Tryd.prog.follows .mixedOrders = true := by kernel_rfl
      have hd : 1 ≤ n - 1 := by omega
      have hlen := numsU_len f k
      have hsu := numsU_succ f k
      clear r hcr hS hF hR hN
      generalize (f k).2 = v at *
      cases hp : (f k).1
      · rw [hp] at hc hsu
        simp only [Bool.false_eq_true, if_false, List.append_nil] at hsu
        have HC := Lib.hid hc; clear hc hp
        gi_wp2
        gi_region_with_o (refine ⟨trivial, fun _ => by omega, ?_⟩; gi_at_call 70; refine (callsIn_wide.2 (HC.out _ (by go_grown))).mono ?_; rintro e w1 ⟨rfl, hb1⟩; have k1 := kept_trans (a := wr) (by go_grown) hb1)
        all_goals
          gi_wp2
          refine ⟨fun _ h => (by cases h), ?_⟩
          gi_wp2
          go_roundw
          case rel => exact ⟨k + 1, by omega, by go_num, by rw [hsu]; exact HJW.out _ k1, HKW.out _ k1⟩
          case measure => simp [intOf]; omega
      · rw [hp] at hc hsu
        simp only [if_true] at hsu
        have HC := Lib.hid hc; clear hc hp
        gi_wp2
        gi_region_with_o (refine ⟨trivial, fun _ => by omega, ?_⟩; gi_at_call 70; refine (callsIn_wide.2 (HC.out _ (by go_grown))).mono ?_; rintro e w1 ⟨rfl, hb1⟩; have k1 := kept_trans (a := wr) (by go_grown) hb1)
        all_goals
          obtain ⟨fn, tmps, assign, body, hy, hR'⟩ := hY _ ((k : Int), v) w1 (HJW.out _ k1) (by omega)
          dsimp only [enc2] at hy
          gi_wp2
          refine ⟨fun _ => by omega, ?_⟩
          refine hR'.mono ?_
          rintro e W3 (⟨rfl, hJ3, hk3⟩ | ⟨rfl, hJx3⟩)
          · gi_wp2
            go_roundw
            case rel => exact ⟨k + 1, by omega, by go_num, by rw [hsu]; exact hJ3, hk3 (HKW.out _ k1)⟩
            case measure => simp [intOf]; omega
          · gi_wp2
            refine bodyPost_ret (results_none rfl _ _ _) rfl ?_
            exact ⟨⟨_, rfl⟩, .inr ⟨_, trivial, hJx3⟩⟩
    · obtain rfl : k = ks.length := by omega
      gi_wp2
      go_end0
      exact ⟨⟨_, rfl⟩, .inl ⟨_, rfl, hJs⟩⟩

/-- The best pair, the first one of several; bt: what is better. -/
def bestP (bt : Int → Int → Bool) (xs : List (Int × Int)) : Option (Int × Int) := xs.foldl (fun s x => match s with | none => some x | some y => if bt x.2 y.2 then some x else some y) none

theorem bestP_snoc (bt : Int → Int → Bool) (xs : List (Int × Int)) (x : Int × Int) : bestP bt (xs ++ [x]) = match bestP bt xs with | none => some x | some y => if bt x.2 y.2 then some x else some y := by
  simp [bestP]

/-- An index, a number, and whether there is one. -/
def bstP (s : Option (Int × Int)) : Int × Int × Bool := match s with | none => (0, 0, false) | some y => (y.1, y.2, true)

def gtB (a b : Int) : Bool := decide (b < a)

theorem greater_any (a b : Int) (w : World) :
    Calls Tryd.prog 36 #[.int .i64 a, .int .i64 b] w fun e w' => e = .returned (.bool (gtB a b)) ∧ w = w' := by
  unfold gtB
  by_cases h : b < a
  all_goals
    go_enter Tryd.func36, Tryd.ntmps36
    go_wp2
    go_ret
    exact ⟨by simp [*], rfl⟩

/-- Three boxes behind the heap's old end are written. -/
theorem store3 {w W : World} {f a1 a2 a3 : Value} (v1 v2 v3 : Value) (c0 : W.cell? ⟨w.heap.size, 0, none⟩ = some f) (c1 : W.cell? ⟨w.heap.size + 1, 0, none⟩ = some a1) (z1 : W.frozen? ⟨w.heap.size + 1, 0, none⟩ = false) (c2 : W.cell? ⟨w.heap.size + 1 + 1, 0, none⟩ = some a2) (z2 : W.frozen? ⟨w.heap.size + 1 + 1, 0, none⟩ = false) (c3 : W.cell? ⟨w.heap.size + 1 + 1 + 1, 0, none⟩ = some a3) (z3 : W.frozen? ⟨w.heap.size + 1 + 1 + 1, 0, none⟩ = false) (hB : Below w.heap.size w W) :
    KeepsOthers W (((W.setCell ⟨w.heap.size + 1, 0, none⟩ v1).setCell ⟨w.heap.size + 1 + 1, 0, none⟩ v2).setCell ⟨w.heap.size + 1 + 1 + 1, 0, none⟩ v3) ∧ Below w.heap.size w (((W.setCell ⟨w.heap.size + 1, 0, none⟩ v1).setCell ⟨w.heap.size + 1 + 1, 0, none⟩ v2).setCell ⟨w.heap.size + 1 + 1 + 1, 0, none⟩ v3) ∧ (((W.setCell ⟨w.heap.size + 1, 0, none⟩ v1).setCell ⟨w.heap.size + 1 + 1, 0, none⟩ v2).setCell ⟨w.heap.size + 1 + 1 + 1, 0, none⟩ v3).cell? ⟨w.heap.size, 0, none⟩ = some f ∧ ((((W.setCell ⟨w.heap.size + 1, 0, none⟩ v1).setCell ⟨w.heap.size + 1 + 1, 0, none⟩ v2).setCell ⟨w.heap.size + 1 + 1 + 1, 0, none⟩ v3).cell? ⟨w.heap.size + 1, 0, none⟩ = some v1 ∧ (((W.setCell ⟨w.heap.size + 1, 0, none⟩ v1).setCell ⟨w.heap.size + 1 + 1, 0, none⟩ v2).setCell ⟨w.heap.size + 1 + 1 + 1, 0, none⟩ v3).frozen? ⟨w.heap.size + 1, 0, none⟩ = false) ∧ ((((W.setCell ⟨w.heap.size + 1, 0, none⟩ v1).setCell ⟨w.heap.size + 1 + 1, 0, none⟩ v2).setCell ⟨w.heap.size + 1 + 1 + 1, 0, none⟩ v3).cell? ⟨w.heap.size + 1 + 1, 0, none⟩ = some v2 ∧ (((W.setCell ⟨w.heap.size + 1, 0, none⟩ v1).setCell ⟨w.heap.size + 1 + 1, 0, none⟩ v2).setCell ⟨w.heap.size + 1 + 1 + 1, 0, none⟩ v3).frozen? ⟨w.heap.size + 1 + 1, 0, none⟩ = false) ∧ (((W.setCell ⟨w.heap.size + 1, 0, none⟩ v1).setCell ⟨w.heap.size + 1 + 1, 0, none⟩ v2).setCell ⟨w.heap.size + 1 + 1 + 1, 0, none⟩ v3).cell? ⟨w.heap.size + 1 + 1 + 1, 0, none⟩ = some v3 ∧ (((W.setCell ⟨w.heap.size + 1, 0, none⟩ v1).setCell ⟨w.heap.size + 1 + 1, 0, none⟩ v2).setCell ⟨w.heap.size + 1 + 1 + 1, 0, none⟩ v3).frozen? ⟨w.heap.size + 1 + 1 + 1, 0, none⟩ = false := by
  have l1 := World.block_lt_of_cell? _ _ c1
  have l2 := World.block_lt_of_cell? _ _ c2
  have l3 := World.block_lt_of_cell? _ _ c3
  refine ⟨((KeepsOthers.setCell _ _ _).trans (KeepsOthers.setCell _ _ _)).trans (KeepsOthers.setCell _ _ _), ((hB.setCell (p := ⟨w.heap.size + 1, 0, none⟩) (by simp) _).setCell (p := ⟨w.heap.size + 1 + 1, 0, none⟩) (by simp; omega) _).setCell (p := ⟨w.heap.size + 1 + 1 + 1, 0, none⟩) (by simp; omega) _, ?_, ⟨?_, ?_⟩, ⟨?_, ?_⟩, ?_, ?_⟩
  all_goals first | (go_simp; done) | (simp [World.cell?_setCell_same', *]; done)

/- sem_round -/
set_option maxRecDepth 100000 in
set_option maxHeartbeats 4000000 in
open Go.Shelf in
theorem bestOfG_any (pS pF : Nat) (L : List (Int × Int)) (N : Nat) (w : World)
    (hseq : ∀ n, 2 ≤ n → SeqStopsK Fence.wide n Tryd.prog 62 #[.pointer (some ⟨pS, 0, none⟩), .pointer (some ⟨pF, 0, none⟩)] enc2 (fun W W' => Below w.heap.size w W → Below w.heap.size w W') (fun xs => xs = L) (fun _ => True) N w) :
    Calls Tryd.prog 33 #[.func (.func 62) #[] #[.pointer (some ⟨pS, 0, none⟩), .pointer (some ⟨pF, 0, none⟩)], .func (.func 36) #[] #[]] w fun e w' =>
      e = .returned (.tuple #[.int .i64 (bstP (bestP gtB L)).1, .int .i64 (bstP (bestP gtB L)).2.1, .bool (bstP (bestP gtB L)).2.2]) ∧ Below w.heap.size w w' := by
  have hGR := fun a b u => greater_any a b u
  have HGR := Lib.hid hGR; clear hGR
  refine (callsIn_wide (n := 9)).1 ?_
  refine callsIn_of_wp_marks Tryd.func33 rfl trivial ?_ rfl
  simp only [Tryd.ntmps33, List.size_toArray, List.length_cons, List.length_nil, Nat.reduceAdd, Nat.reduceSub, Array.replicate_succ, Array.replicate_zero, List.push_toArray, List.append_toArray, List.nil_append, List.cons_append]
  gi_wp2
  have hB0 : Below w.heap.size w ((((w.alloc (.cells #[.func (.func 36) #[] #[]] 85)).alloc (.cells #[.int .i64 0] 2)).alloc (.cells #[.int .i64 0] 2)).alloc (.cells #[.bool false] 4)) := by go_grown
  have i0 : ((((w.alloc (.cells #[.func (.func 36) #[] #[]] 85)).alloc (.cells #[.int .i64 0] 2)).alloc (.cells #[.int .i64 0] 2)).alloc (.cells #[.bool false] 4)).cell? ⟨w.heap.size, 0, none⟩ = some (.func (.func 36) #[] #[]) := (BoxR_up (BoxR_up (BoxR_up (BoxR_new' rfl)))).2 0 _ rfl
  have i1 : ((((w.alloc (.cells #[.func (.func 36) #[] #[]] 85)).alloc (.cells #[.int .i64 0] 2)).alloc (.cells #[.int .i64 0] 2)).alloc (.cells #[.bool false] 4)).cell? ⟨w.heap.size + 1, 0, none⟩ = some (.int .i64 0) := (BoxR_up (BoxR_up (BoxR_new' (by simp)))).2 0 _ rfl
  have i2 : ((((w.alloc (.cells #[.func (.func 36) #[] #[]] 85)).alloc (.cells #[.int .i64 0] 2)).alloc (.cells #[.int .i64 0] 2)).alloc (.cells #[.bool false] 4)).cell? ⟨w.heap.size + 1 + 1, 0, none⟩ = some (.int .i64 0) := (BoxR_up (BoxR_new' (by simp))).2 0 _ rfl
  have i3 : ((((w.alloc (.cells #[.func (.func 36) #[] #[]] 85)).alloc (.cells #[.int .i64 0] 2)).alloc (.cells #[.int .i64 0] 2)).alloc (.cells #[.bool false] 4)).cell? ⟨w.heap.size + 1 + 1 + 1, 0, none⟩ = some (.bool false) := (BoxR_new' (by simp)).2 0 _ rfl
  refine wpIn_rangeFunc_ownF rfl (by omega) (gf := 62) (lb := #[.pointer (some ⟨pS, 0, none⟩), .pointer (some ⟨pF, 0, none⟩)]) rfl trivial (enters_of Tryd.func62 (by kernel_rfl) rfl)
    (hseq _ (by omega)) (fun h k x => k (h x)) (fun W l o o' hl h a b hB => hB.trans (belowK_b (w := ((((w.alloc (.cells #[.func (.func 36) #[] #[]] 85)).alloc (.cells #[.int .i64 0] 2)).alloc (.cells #[.int .i64 0] 2)).alloc (.cells #[.bool false] 4))) (by simp; omega) W l o o' hl h a b)) hB0 (fun _ => rfl)
    (fun pre W => (W.cell? ⟨w.heap.size, 0, none⟩ = some (.func (.func 36) #[] #[]) ∧ (W.cell? ⟨w.heap.size + 1, 0, none⟩ = some (.int .i64 (bstP (bestP gtB pre)).1) ∧ W.frozen? ⟨w.heap.size + 1, 0, none⟩ = false) ∧ (W.cell? ⟨w.heap.size + 1 + 1, 0, none⟩ = some (.int .i64 (bstP (bestP gtB pre)).2.1) ∧ W.frozen? ⟨w.heap.size + 1 + 1, 0, none⟩ = false) ∧ W.cell? ⟨w.heap.size + 1 + 1 + 1, 0, none⟩ = some (.bool (bstP (bestP gtB pre)).2.2) ∧ W.frozen? ⟨w.heap.size + 1 + 1 + 1, 0, none⟩ = false) ∧ Below w.heap.size w W)
    (fun _ _ _ => False)
    (OwnFrom.and (Own.from (fun s A B row hs hg hr => ⟨cell_kept hs.1 hg hr, ⟨cell_kept hs.2.1.1 hg hr, (frozen_kept hs.2.1.1 hg hr).trans hs.2.1.2⟩, ⟨cell_kept hs.2.2.1.1 hg hr, (frozen_kept hs.2.2.1.1 hg hr).trans hs.2.2.1.2⟩, cell_kept hs.2.2.2.1 hg hr, (frozen_kept hs.2.2.2.1 hg hr).trans hs.2.2.2.2⟩) _) (ownFrom_below (Nat.le_refl _) (by simp; omega)))
    (fun _ _ _ _ _ hs _ _ => hs)
    ⟨by refine ⟨?_, ⟨?_, ?_⟩, ⟨?_, ?_⟩, ?_, ?_⟩ <;> first | exact i0 | exact i1 | exact i2 | exact i3 | (simp; done) | (go_simp; done), hB0⟩
    (fun x => { tmps := #[.func (.func 62) #[] #[.pointer (some ⟨pS, 0, none⟩), .pointer (some ⟨pF, 0, none⟩)], .func (.func 36) #[] #[], undef, .pointer (some ⟨w.heap.size, 0, none⟩), .pointer (some ⟨w.heap.size + 1, 0, none⟩), .pointer (some ⟨w.heap.size + 1 + 1, 0, none⟩), .pointer (some ⟨w.heap.size + 1 + 1 + 1, 0, none⟩), .int .i64 x.1, .int .i64 x.2, .func (.func 62) #[] #[.pointer (some ⟨pS, 0, none⟩), .pointer (some ⟨pF, 0, none⟩)], .int .i64 x.1, .int .i64 x.2, undef, undef, undef, undef, undef, undef, undef, undef, undef, undef, undef, undef, undef], defers := [] }) ?assign ?body ?done ?stop
  case assign =>
    intro l x W K hK
    gi_wp2
    exact hK
  case body =>
    rintro l pre x W ⟨⟨c0, ⟨c1, z1⟩, ⟨c2, z2⟩, c3, z3⟩, hB⟩ _
    have hsn := bestP_snoc gtB pre x
    cases hs : bestP gtB pre with
    | none =>
      rw [hs] at c1 c2 c3 hsn
      simp only [bstP] at c1 c2 c3
      gi_wp2
      refine ⟨fun _ h => (by cases h), ?_⟩
      gi_wp2
      obtain ⟨g1, g2, g3⟩ := store3 (.int .i64 x.1) (.int .i64 x.2) (.bool true) c0 c1 z1 c2 z2 c3 z3 hB
      exact ⟨g1, fun _ => g2, by rw [hsn]; exact g3, g2⟩
    | some y =>
      rw [hs] at c1 c2 c3 hsn
      simp only [bstP] at c1 c2 c3
      have hd : 1 ≤ 9 - 1 - 1 := by omega
      cases hg : gtB x.2 y.2
      · simp only [hg] at hsn
        gi_wp2_with (refine ⟨trivial, ?_⟩; gi_at_call 36; refine (CallsIn.inRound l (callsIn_wide.2 (HGR.out _ _ _))).mono ?_; rintro e w' ⟨rfl, rfl⟩; rw [hg])
        exact ⟨KeepsOthers.refl _, fun h => h, by rw [hsn]; exact ⟨c0, ⟨c1, z1⟩, ⟨c2, z2⟩, c3, z3⟩, hB⟩
      · simp only [hg] at hsn
        gi_wp2_with (refine ⟨trivial, ?_⟩; gi_at_call 36; refine (CallsIn.inRound l (callsIn_wide.2 (HGR.out _ _ _))).mono ?_; rintro e w' ⟨rfl, rfl⟩; rw [hg])
        obtain ⟨g1, g2, g3⟩ := store3 (.int .i64 x.1) (.int .i64 x.2) (.bool true) c0 c1 z1 c2 z2 c3 z3 hB
        exact ⟨g1, fun _ => g2, by rw [hsn]; exact g3, g2⟩
  case done =>
    rintro D ys W hD rfl ⟨⟨c0, ⟨c1, z1⟩, ⟨c2, z2⟩, c3, z3⟩, hB⟩ hK
    gi_wp2
    gi_region
    all_goals
      gi_wp2
      obtain ⟨g1, g2, g3, ⟨g4, _⟩, ⟨g5, _⟩, g6, _⟩ := store3 (.int .i64 (bstP (bestP gtB ys)).1) (.int .i64 (bstP (bestP gtB ys)).2.1) (.bool (bstP (bestP gtB ys)).2.2) c0 c1 z1 c2 z2 c3 z3 hB
      have hK' := (g1.trans (KeepsOthers.drew _)).same D _ hK rfl
      have d4 : (((((W.setCell ⟨w.heap.size + 1, 0, none⟩ (.int .i64 (bstP (bestP gtB ys)).1)).setCell ⟨w.heap.size + 1 + 1, 0, none⟩ (.int .i64 (bstP (bestP gtB ys)).2.1)).setCell ⟨w.heap.size + 1 + 1 + 1, 0, none⟩ (.bool (bstP (bestP gtB ys)).2.2)).drew).putObj D (.deferred none)).cell? ⟨w.heap.size + 1, 0, none⟩ = some (.int .i64 (bstP (bestP gtB ys)).1) := cell_kept (W := ((((W.setCell ⟨w.heap.size + 1, 0, none⟩ (.int .i64 (bstP (bestP gtB ys)).1)).setCell ⟨w.heap.size + 1 + 1, 0, none⟩ (.int .i64 (bstP (bestP gtB ys)).2.1)).setCell ⟨w.heap.size + 1 + 1 + 1, 0, none⟩ (.bool (bstP (bestP gtB ys)).2.2)).drew)) (by simpa using g4) (grownBy_putObj' _ D (.deferred none)) (fun r e => by cases e; exact ⟨_, hK', rfl⟩)
      have d5 : (((((W.setCell ⟨w.heap.size + 1, 0, none⟩ (.int .i64 (bstP (bestP gtB ys)).1)).setCell ⟨w.heap.size + 1 + 1, 0, none⟩ (.int .i64 (bstP (bestP gtB ys)).2.1)).setCell ⟨w.heap.size + 1 + 1 + 1, 0, none⟩ (.bool (bstP (bestP gtB ys)).2.2)).drew).putObj D (.deferred none)).cell? ⟨w.heap.size + 1 + 1, 0, none⟩ = some (.int .i64 (bstP (bestP gtB ys)).2.1) := cell_kept (W := ((((W.setCell ⟨w.heap.size + 1, 0, none⟩ (.int .i64 (bstP (bestP gtB ys)).1)).setCell ⟨w.heap.size + 1 + 1, 0, none⟩ (.int .i64 (bstP (bestP gtB ys)).2.1)).setCell ⟨w.heap.size + 1 + 1 + 1, 0, none⟩ (.bool (bstP (bestP gtB ys)).2.2)).drew)) (by simpa using g5) (grownBy_putObj' _ D (.deferred none)) (fun r e => by cases e; exact ⟨_, hK', rfl⟩)
      have d6 : (((((W.setCell ⟨w.heap.size + 1, 0, none⟩ (.int .i64 (bstP (bestP gtB ys)).1)).setCell ⟨w.heap.size + 1 + 1, 0, none⟩ (.int .i64 (bstP (bestP gtB ys)).2.1)).setCell ⟨w.heap.size + 1 + 1 + 1, 0, none⟩ (.bool (bstP (bestP gtB ys)).2.2)).drew).putObj D (.deferred none)).cell? ⟨w.heap.size + 1 + 1 + 1, 0, none⟩ = some (.bool (bstP (bestP gtB ys)).2.2) := cell_kept (W := ((((W.setCell ⟨w.heap.size + 1, 0, none⟩ (.int .i64 (bstP (bestP gtB ys)).1)).setCell ⟨w.heap.size + 1 + 1, 0, none⟩ (.int .i64 (bstP (bestP gtB ys)).2.1)).setCell ⟨w.heap.size + 1 + 1 + 1, 0, none⟩ (.bool (bstP (bestP gtB ys)).2.2)).drew)) (by simpa using g6) (grownBy_putObj' _ D (.deferred none)) (fun r e => by cases e; exact ⟨_, hK', rfl⟩)
      refine ⟨by simp, .inl ⟨_, _, rfl, run_takeDeferred hK', ?_⟩⟩
      refine ⟨.tuple #[.int .i64 (bstP (bestP gtB ys)).1, .int .i64 (bstP (bestP gtB ys)).2.1, .bool (bstP (bestP gtB ys)).2.2], ?_, rfl, (g2.trans (by go_grown)).trans (belowK_b (w := w) (Nat.le_refl _) _ D _ _ (by simp at hD; omega) hK' rfl rfl)⟩
      simp [results, Tryd.f33, go_sem, d4, d5, d6]
  case stop =>
    rintro D c pre W hD hpre h hK
    exact h.elim

set_option maxHeartbeats 2000000 in
theorem placeFn_any (b o pb : Nat) (k : Cr) (c : Value) (u v : Int) (w : World) (h1 : CrAt w b o k c) (h2 : BoxR w pb [.int .i64 u, .int .i64 v]) (hc : craneB k = true) (hp : okP u v = true) (hk : k.nm.size ≤ 1000000) :
    Calls Tryd.prog 70 #[.pointer (some ⟨b, o, none⟩), .pointer (some ⟨pb, 0, none⟩)] w fun e w' => e = .returned (.tuple #[.int .i64 (if reachB k u v then loadL k.ch (distL k u v) else 0), .bool (reachB k u v)]) ∧ Below w.heap.size w w' := by
  have e1 : loadPlaceL k u v = if reachB k u v then (loadL k.ch (distL k u v), 0) else (0, 3) := by simp [loadPlaceL, hc, hp]
  have hA := fun z (q : Below w.heap.size w z) => implLoadPlace_any k c u v z (RdP_kept h1.2.2 q) hk
  rw [e1] at hA
  clear e1 hc hp
  obtain ⟨hb1, ⟨g0, g1, g2, g3, g4, g5, g6⟩, hr⟩ := h1
  obtain ⟨A, cp, rfl, _, _⟩ := RdP_slice hr
  generalize loadL k.ch (distL k u v) = L1 at *
  generalize reachB k u v = r1 at *
  obtain ⟨s, x, y, hh, j, bb, zs⟩ := k
  dsimp only at *
  have q0 := fun x : BelowBy w => (kept_cell x.h _ _ hb1).trans g0
  have q1 := fun x : BelowBy w => (kept_cell x.h _ _ hb1).trans g1
  have q2 := fun x : BelowBy w => (kept_cell x.h _ _ hb1).trans g2
  have q3 := fun x : BelowBy w => (kept_cell x.h _ _ hb1).trans g3
  have q4 := fun x : BelowBy w => (kept_cell x.h _ _ hb1).trans g4
  have q5 := fun x : BelowBy w => (kept_cell x.h _ _ hb1).trans g5
  have q6 := fun x : BelowBy w => (kept_cell x.h _ _ hb1).trans g6
  have p2 := fun x : BelowBy w => (BoxR_kept h2 x.h).2 0 _ rfl
  have p3 := fun x : BelowBy w => (BoxR_kept h2 x.h).2 1 _ rfl
  clear g0 g1 g2 g3 g4 g5 g6 h2 hr
  cases r1
  all_goals
    simp only [if_true, if_false, Bool.false_eq_true] at hA ⊢
    have HA := Lib.hid hA; clear hA
    go_enter Tryd.func70, Tryd.ntmps70
    go_wp2_with fail
    refine wp_region_below (by kernel_rfl) (by kernel_rfl) ?_
    repeat (go_big_quiet_step ((go_at_call 71; exact below_call (fun hbx => HA.out _ hbx))))
    refine wpQuiet_nil ?_
    intro wq hw'
    obtain ⟨⟨_, hbq⟩, hwq⟩ := hw'
    subst hwq
    (try dsimp only)
    go_wp2
    go_ret2
    exact ⟨by simp, hbq⟩

theorem implPlaceLoad_any (u v : Int) (w : World) :
    Calls Tryd.prog 43 #[.agg #[.int .i64 u, .int .i64 v]] w fun e w' => ∃ pb, e = .returned (.func (.func 70) #[] #[.pointer (some ⟨pb, 0, none⟩)]) ∧ BoxR w' pb [.int .i64 u, .int .i64 v] ∧ Below w.heap.size w w' := by
  have hmf : ∀ (fn : Fn) (first cap : Array Value) (w : World), (Instr.makeFunc fn first cap).run Tryd.prog w = .ok (.func fn first cap) w := fun _ _ _ _ => rfl
  go_enter Tryd.func43, Tryd.ntmps43
  go_wp2
  go_ret
  exact ⟨_, rfl, BoxR_new' rfl, by go_grown⟩

theorem implNumbersOf_any (c : Value) (fn : Fn) (first cap : Array Value) (hc : ∃ A n cp, c = .slice A n cp) (w : World) :
    Calls Tryd.prog 34 #[.agg #[c], .func fn first cap] w fun e w' => ∃ pS pF, e = .returned (.func (.func 62) #[] #[.pointer (some ⟨pS, 0, none⟩), .pointer (some ⟨pF, 0, none⟩)]) ∧ BoxR w' pS [c] ∧ BoxR w' pF [.func fn first cap] ∧ Below w.heap.size w w' := by
  obtain ⟨A, n, cp, rfl⟩ := hc
  have hmf : ∀ (fn : Fn) (first cap : Array Value) (w : World), (Instr.makeFunc fn first cap).run Tryd.prog w = .ok (.func fn first cap) w := fun _ _ _ _ => rfl
  go_enter Tryd.func34, Tryd.ntmps34
  go_wp2
  go_ret
  exact ⟨w.heap.size, w.heap.size + 1, rfl, BoxR_up (BoxR_new' rfl), BoxR_new' (by simp), by go_grown⟩

/-- Whether a crane reaches a place, and its load there. -/
noncomputable def plF (ms : List Cr) (u v : Int) (j : Nat) : Bool × Int := match ms[j]? with | some k => (reachB k u v, if reachB k u v then loadL k.ch (distL k u v) else 0) | none => (false, 0)

theorem plF_at (T : List (Cr × Value)) (u v : Int) (j : Nat) (hj : j < T.length) : plF (T.map (·.1)) u v j = (reachB T[j].1 u v, if reachB T[j].1 u v then loadL T[j].1.ch (distL T[j].1 u v) else 0) := by
  simp [plF, hj]

def hvR (s : Option (Int × Int)) : Int × Int × Int := match s with | none => (0, 0, 3) | some b => (b.1, b.2, 0)

/-- What HeaviestAt returns. -/
noncomputable def heavL (ks : List (Cr × Value)) (u v : Int) : Int × Int × Int := if siteB ks && okP u v then hvR (bestP gtB (numsU (plF (ks.map (·.1)) u v) ks.length)) else (0, 0, 1)

theorem heavL_map {T ks : List (Cr × Value)} (h : T.map (·.1) = ks.map (·.1)) (u v : Int) : heavL T u v = heavL ks u v := by
  unfold heavL
  rw [siteB_map h, h, (map_at h).1]

/-- The best index and number so far; -1 where there is none. -/
def hvS (s : Option (Int × Int)) : Int × Int := match s with | none => (-1, -1) | some b => b

def OkS (s : Option (Int × Int)) : Prop := ∀ b, s = some b → 0 ≤ b.1 ∧ 0 ≤ b.2

theorem bst_step (xs : List (Int × Int)) (r : Bool) (j ld : Int) (hj : 0 ≤ j) (hl : r = true → 0 ≤ ld) (hs : OkS (bestP gtB xs)) :
    OkS (bestP gtB (xs ++ if r then [(j, ld)] else [])) ∧ hvS (bestP gtB (xs ++ if r then [(j, ld)] else [])) = if (hvS (bestP gtB xs)).2 < (if r then ld else -1) then (j, if r then ld else -1) else hvS (bestP gtB xs) := by
  cases r
  · simp only [Bool.false_eq_true, if_false, List.append_nil]
    refine ⟨hs, ?_⟩
    rw [if_neg]
    cases h : bestP gtB xs with
    | none => simp [hvS]
    | some b =>
      have := hs b h
      show ¬ b.2 < -1
      omega
  · have h0 := hl rfl
    simp only [if_true]
    rw [bestP_snoc]
    cases h : bestP gtB xs with
    | none => exact ⟨fun b hb => by simp at hb; subst hb; exact ⟨hj, h0⟩, by show (j, ld) = if (-1 : Int) < ld then (j, ld) else (-1, -1); rw [if_pos (by omega)]⟩
    | some b =>
      have hb0 := hs b h
      simp only [gtB, hvS]
      by_cases hc : b.2 < ld
      · simp only [hc, decide_true, if_true]
        exact ⟨fun b hb => by simp at hb; subst hb; exact ⟨hj, h0⟩, trivial⟩
      · simp only [hc, decide_false, Bool.false_eq_true, if_false]
        exact ⟨fun b' hb => by simp at hb; subst hb; exact hb0, trivial⟩

set_option maxHeartbeats 2000000 in
theorem specHV_any (c : Value) (T ks : List (Cr × Value)) (u v : Int) (w : World) (h : RdK w c T) (hm : T.map (·.1) = ks.map (·.1)) (hn : ∀ p ∈ ks, p.1.nm.size ≤ 1000000) :
    Calls Tryd.prog 14 #[.agg #[c], .agg #[.int .i64 u, .int .i64 v]] w fun e w' => e = .returned (.tuple #[.int .i64 (heavL ks u v).1, .int .i64 (heavL ks u v).2.1, .int .i64 (heavL ks u v).2.2]) ∧ Below w.heap.size w w' := by
  have hn2 := names_map hm hn
  rw [← heavL_map hm]
  obtain ⟨A, cp, rfl, _, r⟩ := RdK_at h
  have hlenT := r
  have hS := fun b o w1 (q : RdK w1 (.slice A T.length cp) T) (hl : b < w1.heap.size) (hv : w1.cell? ⟨b, o, none⟩ = some (.slice A T.length cp)) => specSite_any b o A cp T w1 q hl hv hn2
  have hP := fun w1 => specOk_any u v w1
  have H := Lib.hid h
  have R := Lib.hid r; clear r h hlenT
  unfold heavL
  cases hb : siteB T <;> simp only [hb] at hS
  · have HS := Lib.hid hS; clear hS hP hn2 hm hn
    simp only [Bool.false_and, Bool.false_eq_true, if_false]
    go_enter Tryd.func14, Tryd.ntmps14
    go_wp2_with fail
    refine (HS.out _ _ _ (RdK_kept H.out (by go_grown)) (by go_size) (by simp)).mono ?_
    rintro e w1 ⟨rfl, hb1⟩
    have b1 := kept_trans (a := w) (by go_grown) hb1
    go_wp2
    go_ret3
    exact ⟨rfl, b1⟩
  cases hp : okP u v <;> simp only [hp] at hP
  · have HS := Lib.hid hS; have HP := Lib.hid hP; clear hS hP hn2 hm hn
    simp only [Bool.true_and, Bool.false_eq_true, if_false]
    go_enter Tryd.func14, Tryd.ntmps14
    go_wp2_with fail
    refine (HS.out _ _ _ (RdK_kept H.out (by go_grown)) (by go_size) (by simp)).mono ?_
    rintro e w1 ⟨rfl, hb1⟩
    refine kept_at hb1 (w.heap.size + 1) (by go_size) fun c1_1 z1_1 s1_1 => ?_
    have b1 := kept_trans (a := w) (by go_grown) hb1
    go_wp2_with fail
    refine (HP.out _).mono ?_
    rintro e w2 ⟨rfl, hb2⟩
    have b2 := kept_trans b1 hb2
    go_wp2
    go_ret3
    exact ⟨rfl, b2⟩
  have HS := Lib.hid hS; have HP := Lib.hid hP; clear hS hP hn2 hm hn
  obtain ⟨hn6, hcr⟩ := siteP_crane hb
  have HC := Lib.hid hcr; clear hcr
  have HOK := Lib.hid hp; clear hp hb
  simp only [Bool.true_and, if_true]
  obtain ⟨S, hS⟩ : ∃ S : Nat → Option (Int × Int), S = fun j => bestP gtB (numsU (plF (T.map (·.1)) u v) j) := ⟨_, rfl⟩
  rw [show bestP gtB (numsU (plF (T.map (·.1)) u v) T.length) = S T.length by rw [hS]]
  have hst : ∀ j (hj : j < T.length), OkS (S j) → OkS (S (j + 1)) ∧ hvS (S (j + 1)) = if (hvS (S j)).2 < (if reachB T[j].1 u v then loadL T[j].1.ch (distL T[j].1 u v) else -1) then ((j : Int), if reachB T[j].1 u v then loadL T[j].1.ch (distL T[j].1 u v) else -1) else hvS (S j) := by
    intro j hj ho
    have h0 : S (j + 1) = bestP gtB (numsU (plF (T.map (·.1)) u v) j ++ if reachB T[j].1 u v then [((j : Int), loadL T[j].1.ch (distL T[j].1 u v))] else []) := by
      rw [hS]
      simp only [numsU_succ, plF_at T u v j hj]
      cases reachB T[j].1 u v <;> simp
    have h1 := bst_step (numsU (plF (T.map (·.1)) u v) j) (reachB T[j].1 u v) j (loadL T[j].1.ch (distL T[j].1 u v)) (by omega) (fun hr => loadL_reach (HC.out j hj) hr) (by rw [hS] at ho; exact ho)
    rw [h0]
    rw [show S j = bestP gtB (numsU (plF (T.map (·.1)) u v) j) by rw [hS]]
    exact h1
  have hS0 : S 0 = none := by rw [hS]; rfl
  have HST := Lib.hid hst; clear hst hS
  go_enter Tryd.func14, Tryd.ntmps14
  go_wp2_with fail
  refine (HS.out _ _ _ (RdK_kept H.out (by go_grown)) (by go_size) (by simp)).mono ?_
  rintro e w1 ⟨rfl, hb1⟩
  refine kept_at hb1 w.heap.size (by go_size) fun c1_0 z1_0 s1_0 => ?_
  refine kept_at hb1 (w.heap.size + 1) (by go_size) fun c1_1 z1_1 s1_1 => ?_
  have b1 := kept_trans (a := w) (by go_grown) hb1
  go_wp2_with fail
  refine (HP.out _).mono ?_
  rintro e w2 ⟨rfl, hb2⟩
  refine kept_at hb2 w.heap.size (by go_size) fun c2_0 z2_0 s2_0 => ?_
  refine kept_at hb2 (w.heap.size + 1) (by go_size) fun c2_1 z2_1 s2_1 => ?_
  have b2 := kept_trans b1 hb2
  have d0 : w2.cell? ⟨w.heap.size, 0, none⟩ = some (.slice A T.length cp) := by rw [c2_0, c1_0]; simp
  have d1 : w2.cell? ⟨w.heap.size + 1, 0, none⟩ = some (.int .i64 u) := by rw [c2_1, c1_1]; simp
  have d2 : w2.cell? ⟨w.heap.size + 1, 1, none⟩ = some (.int .i64 v) := by rw [c2_1, c1_1]; simp
  clear c1_0 c1_1 c2_0 c2_1 z1_0 z1_1 z2_0 z2_1
  go_wp2_with fail
  go_loopw [7, 8, 9] (fun bst mst i wr => ∃ j : Nat, j ≤ T.length ∧ i = .int .i64 (j : Int) ∧ bst = .int .i64 (hvS (S j)).1 ∧ mst = .int .i64 (hvS (S j)).2 ∧ OkS (S j) ∧ Below w2.heap.size w2 wr) (fun _ _ i _ => T.length - (intOf i).toNat)
  case atStart => exact ⟨0, by omega, rfl, by rw [hS0]; rfl, by rw [hS0]; rfl, by rw [hS0]; exact (fun b hb => by cases hb), by go_grown⟩
  case round =>
    obtain ⟨j, hj, rfl, rfl, rfl, hok, hb⟩ := hrel
    have hsz := hb.size
    have e0 : wr.cell? ⟨w.heap.size, 0, none⟩ = some (.slice A T.length cp) := by rw [kept_cell hb _ _ s2_0]; exact d0
    have e1 : wr.cell? ⟨w.heap.size + 1, 0, none⟩ = some (.int .i64 u) := by rw [kept_cell hb _ _ s2_1]; exact d1
    have e2 : wr.cell? ⟨w.heap.size + 1, 1, none⟩ = some (.int .i64 v) := by rw [kept_cell hb _ _ s2_1]; exact d2
    have hlw := Nat.lt_of_lt_of_le s2_1 hsz
    by_cases hlt : j < T.length
    · obtain ⟨b, off, rfl, q⟩ := R.out j hlt
      have hl := fun w4 (hw4 : Below wr.heap.size wr w4) => specKLoad_any b (off + j * 7) T[j].1 T[j].2 u v w4 (CrAt_kept q (kept_trans b2 (kept_trans hb hw4))) (HC.out j hlt) HOK.out
      obtain ⟨hok1, hst1⟩ := HST.out j hlt hok
      generalize (if reachB T[j].1 u v then loadL T[j].1.ch (distL T[j].1 u v) else -1) = ld at *
      generalize hvS (S j) = sj at *
      have HL := Lib.hid hl; clear hl q
      by_cases hcmp : sj.2 < ld
      · rw [if_pos hcmp] at hst1
        go_wp2_with fail
        go_region_held3 (fun w' => w'.cell? ⟨w.heap.size, 0, none⟩ = some (.slice (some ⟨b, off, none⟩) T.length cp) ∧ w'.cell? ⟨w.heap.size + 1, 0, none⟩ = some (.int .i64 u) ∧ w'.cell? ⟨w.heap.size + 1, 1, none⟩ = some (.int .i64 v)) (go_keep)
          ((go_at_call 41; refine (HL.out _ (by go_grown)).mono ?_; rintro e w4 ⟨rfl, hb4⟩; refine kept_at hb4 w.heap.size (by go_size) fun ca4 za4 sa4 => ?_; refine kept_at hb4 (w.heap.size + 1) (by go_size) fun cb4 zb4 sb4 => ?_; have b4 := kept_trans (a := wr) (by go_grown) hb4))
        all_goals
          (try go_wp2)
          go_roundw
          case rel => exact ⟨j + 1, by omega, by go_num, by rw [hst1], by rw [hst1], hok1, kept_trans hb (by assumption)⟩
          case measure => simp [intOf]; omega
      · rw [if_neg hcmp] at hst1
        go_wp2_with fail
        go_region_held3 (fun w' => w'.cell? ⟨w.heap.size, 0, none⟩ = some (.slice (some ⟨b, off, none⟩) T.length cp) ∧ w'.cell? ⟨w.heap.size + 1, 0, none⟩ = some (.int .i64 u) ∧ w'.cell? ⟨w.heap.size + 1, 1, none⟩ = some (.int .i64 v)) (go_keep)
          ((go_at_call 41; refine (HL.out _ (by go_grown)).mono ?_; rintro e w4 ⟨rfl, hb4⟩; refine kept_at hb4 w.heap.size (by go_size) fun ca4 za4 sa4 => ?_; refine kept_at hb4 (w.heap.size + 1) (by go_size) fun cb4 zb4 sb4 => ?_; have b4 := kept_trans (a := wr) (by go_grown) hb4))
        all_goals
          (try go_wp2)
          go_roundw
          case rel => exact ⟨j + 1, by omega, by go_num, by rw [hst1], by rw [hst1], hok1, kept_trans hb (by assumption)⟩
          case measure => simp [intOf]; omega
    · have : j = T.length := by omega
      subst this
      rcases hs : S T.length with _ | bb
      · have h1 : hvS (none : Option (Int × Int)) = (-1, -1) := rfl
        rw [h1]
        go_wp2
        go_ret3
        exact ⟨by rw [hs]; rfl, kept_trans b2 hb⟩
      · have hbb := hok bb hs
        have h1 : hvS (some bb) = bb := rfl
        rw [h1]
        go_wp2
        go_ret3
        exact ⟨by rw [hs]; rfl, kept_trans b2 hb⟩

theorem bestPlace_any (c : Value) (T : List (Cr × Value)) (u v : Int) (w : World) (h : RdK w c T) (hb : siteB T = true) (hp : okP u v = true) (hn : ∀ p ∈ T, p.1.nm.size ≤ 1000000) (pS pF pb : Nat) (z : World) (q : Below w.heap.size w z)
    (h1 : BoxR z pS [c]) (h2 : BoxR z pF [.func (.func 70) #[] #[.pointer (some ⟨pb, 0, none⟩)]]) (h3 : BoxR z pb [.int .i64 u, .int .i64 v]) :
    Calls Tryd.prog 33 #[.func (.func 62) #[] #[.pointer (some ⟨pS, 0, none⟩), .pointer (some ⟨pF, 0, none⟩)], .func (.func 36) #[] #[]] z fun e w' =>
      e = .returned (.tuple #[.int .i64 (bstP (bestP gtB (numsU (plF (T.map (·.1)) u v) T.length))).1, .int .i64 (bstP (bestP gtB (numsU (plF (T.map (·.1)) u v) T.length))).2.1, .bool (bstP (bestP gtB (numsU (plF (T.map (·.1)) u v) T.length))).2.2]) ∧ Below z.heap.size z w' := by
  obtain ⟨hn6, hcr⟩ := siteP_crane hb
  refine bestOfG_any pS pF _ T.length z (fun n hn2 => placeSeq_any (fun W => Below z.heap.size z W) pS pF pb c T (plF (T.map (·.1)) u v) n hn2 z (fun W h => h)
    (fun x hx => (BoxR_kept h1 hx).2 0 _ rfl) (fun x hx => (BoxR_kept h2 hx).2 0 _ rfl) (fun x hx => RdK_kept h (kept_trans q hx)) (fun x x' hx hx' => kept_trans hx hx')
    (fun x j b o hj hx hcx => ?_))
  rw [plF_at T u v j hj]
  exact placeFn_any b o pb T[j].1 T[j].2 u v x hcx (BoxR_kept h3 hx) (hcr j hj) hp (hn _ (List.getElem_mem hj))

theorem hv_bst (s : Option (Int × Int)) : hvR s = if (bstP s).2.2 then ((bstP s).1, (bstP s).2.1, 0) else (0, 0, 3) := by
  cases s <;> rfl

set_option maxHeartbeats 4000000 in
theorem implHV_any (c : Value) (T ks : List (Cr × Value)) (u v : Int) (w : World) (h : RdK w c T) (hcap : ∃ A cp, c = .slice A T.length cp ∧ T.length ≤ cp) (hm : T.map (·.1) = ks.map (·.1)) (hn : ∀ p ∈ ks, p.1.nm.size ≤ 1000000) (he : Ers w) :
    Calls Tryd.prog 16 #[.agg #[c], .agg #[.int .i64 u, .int .i64 v]] w fun e w' => e = .returned (.tuple #[.int .i64 (heavL ks u v).1, .int .i64 (heavL ks u v).2.1, .int .i64 (heavL ks u v).2.2]) ∧ Below w.heap.size w w' := by
  rw [← heavL_map hm]
  have KS : BoxR ((w.alloc (.cells #[c] 36)).alloc (.cells #[.int .i64 u, .int .i64 v] 38)) w.heap.size [c] := BoxR_up (BoxR_new' rfl)
  have KP : BoxR ((w.alloc (.cells #[c] 36)).alloc (.cells #[.int .i64 u, .int .i64 v] 38)) (w.heap.size + 1) [.int .i64 u, .int .i64 v] := BoxR_new' (by simp)
  have hKW : Below w.heap.size w ((w.alloc (.cells #[c] 36)).alloc (.cells #[.int .i64 u, .int .i64 v] 38)) := by go_grown
  have H0 := fun z (q : Below ((w.alloc (.cells #[c] 36)).alloc (.cells #[.int .i64 u, .int .i64 v] 38)).heap.size ((w.alloc (.cells #[c] 36)).alloc (.cells #[.int .i64 u, .int .i64 v] 38)) z) => implVS_any c T ks z (RdK_kept h (kept_trans hKW q)) hcap hm hn (Ers_kept he (kept_trans hKW q))
  have H1 := fun z (_ : Below ((w.alloc (.cells #[c] 36)).alloc (.cells #[.int .i64 u, .int .i64 v] 38)).heap.size ((w.alloc (.cells #[c] 36)).alloc (.cells #[.int .i64 u, .int .i64 v] 38)) z) => validPlace_any u v z
  rw [← siteB_map hm] at H0
  have HBO := fun hb hp pS pF pb z (q : Below w.heap.size w z) h1 h2 h3 => bestPlace_any c T u v w h hb hp (names_map hm hn) pS pF pb z q h1 h2 h3
  have HPL := Lib.hid (fun z => implPlaceLoad_any u v z)
  have RF := Lib.hid (fun z (q : Below ((w.alloc (.cells #[c] 36)).alloc (.cells #[.int .i64 u, .int .i64 v] 38)).heap.size ((w.alloc (.cells #[c] 36)).alloc (.cells #[.int .i64 u, .int .i64 v] 38)) z) => And.intro (BoxR_kept KS q) (BoxR_kept KP q))
  have HW0 := Lib.hid hKW
  unfold heavL
  obtain ⟨A, cp, rfl, _⟩ := hcap
  have HNO := Lib.hid (fun fn first cap z => implNumbersOf_any (.slice A T.length cp) fn first cap ⟨_, _, _, rfl⟩ z)
  clear h hm hn he KS KP hKW
  cases p0 : siteB T <;> rw [p0] at H0
  · simp only [Bool.false_and, Bool.false_eq_true, if_false]
    have H0 := Lib.hid H0
    clear H1 HBO
    go_enter Tryd.func16, Tryd.ntmps16
    go_wp2_with fail
    refine (H0.out _ (Below.refl _ _)).mono ?_
    rintro e w1 ⟨rfl, k1⟩
    go_wp2
    go_ret3
    exact ⟨rfl, kept_trans HW0.out k1⟩
  cases p1 : okP u v <;> rw [p1] at H1
  · simp only [Bool.true_and, Bool.false_eq_true, if_false]
    have H0 := Lib.hid H0
    have H1 := Lib.hid H1
    clear HBO
    go_enter Tryd.func16, Tryd.ntmps16
    go_wp2_with fail
    refine (H0.out _ (Below.refl _ _)).mono ?_
    rintro e w1 ⟨rfl, k1⟩
    have l0 := (RF.out _ k1).2.2 0 _ rfl
    have l1 := (RF.out _ k1).2.2 1 _ rfl
    go_wp2_with fail
    refine (H1.out _ k1).mono ?_
    rintro e w2 ⟨rfl, hb2⟩
    have k2 := kept_trans (a := ((w.alloc (.cells #[.slice A T.length cp] 36)).alloc (.cells #[.int .i64 u, .int .i64 v] 38))) k1 hb2
    go_wp2
    go_ret3
    exact ⟨rfl, kept_trans HW0.out k2⟩
  simp only [Bool.true_and, if_true]
  have hBO := HBO p0 p1
  rw [hv_bst]
  generalize bstP (bestP gtB (numsU (plF (T.map (·.1)) u v) T.length)) = bp at *
  obtain ⟨bi, bv, bo⟩ := bp
  dsimp only at *
  have HBX := Lib.hid hBO
  have H0 := Lib.hid H0
  have H1 := Lib.hid H1
  clear HBO hBO p0 p1
  cases bo
  all_goals
    go_enter Tryd.func16, Tryd.ntmps16
    go_wp2_with fail
    refine (H0.out _ (Below.refl _ _)).mono ?_
    rintro e w1 ⟨rfl, k1⟩
    have l0 := (RF.out _ k1).2.2 0 _ rfl
    have l1 := (RF.out _ k1).2.2 1 _ rfl
    go_wp2_with fail
    refine (H1.out _ k1).mono ?_
    rintro e w2 ⟨rfl, hb2⟩
    have k2 := kept_trans (a := ((w.alloc (.cells #[.slice A T.length cp] 36)).alloc (.cells #[.int .i64 u, .int .i64 v] 38))) k1 hb2
    clear l0 l1
    have SOF := Lib.hid (show ∀ z, Below w2.heap.size w2 z → (fun w' => w'.cell? ⟨w.heap.size, 0, none⟩ = some (.slice A T.length cp) ∧ w'.cell? ⟨w.heap.size + 1, 0, none⟩ = some (.int .i64 u) ∧ w'.cell? ⟨w.heap.size + 1, 1, none⟩ = some (.int .i64 v)) z from fun z q => by have h := RF.out _ (kept_trans k2 q); exact ⟨h.1.2 0 _ rfl, h.2.2 0 _ rfl, h.2.2 1 _ rfl⟩)
    have hrefl := Below.refl w2.heap.size w2
    go_wp2_with fail
    go_region_held3 (fun w' => w'.cell? ⟨w.heap.size, 0, none⟩ = some (.slice A T.length cp) ∧ w'.cell? ⟨w.heap.size + 1, 0, none⟩ = some (.int .i64 u) ∧ w'.cell? ⟨w.heap.size + 1, 1, none⟩ = some (.int .i64 v)) (first | (refine SOF.out _ ?_; assumption) | (refine SOF.out _ ?_; go_grown)) (first
      | (go_at_call 33; have pq := q2; refine (HBX.out pS pF pb _ (kept_trans HW0.out (kept_trans k2 q2)) hS hF hP).mono ?_; rintro e v3 ⟨rfl, h3⟩; have q3 := kept_trans (a := w2) q2 h3)
      | (go_at_call 34; have pq := q1; refine (HNO.out _ _ _ _).mono ?_; rintro e v2 ⟨pS, pF, rfl, hS, hF, h2⟩; have q2 := kept_trans (a := w2) q1 h2; have hP := BoxR_kept hP h2)
      | (go_at_call 43; refine (HPL.out _).mono ?_; rintro e v1 ⟨pb, rfl, hP, h1⟩; have q1 := kept_trans (a := w2) (by go_grown) h1))
    go_wp2
    go_ret3
    exact ⟨by simp, kept_trans HW0.out (kept_trans k2 q3)⟩

end Go.Proofs.YtnflaeimiegepabDoor
