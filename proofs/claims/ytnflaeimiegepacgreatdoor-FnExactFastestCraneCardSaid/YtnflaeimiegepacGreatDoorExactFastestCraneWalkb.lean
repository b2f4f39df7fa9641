import Derived.Test.YtnflaeimiegepacGreatDoorRows
import Derived.WalkKit
import Derived.ProofKit
import Derived.OpenShut
import Derived.Lib.Hide
import Derived.Handy
import Derived.BigFrame
import Derived.BigQuiet
import Derived.Carry
import Derived.Deep.DeepCutAuto
import Derived.Deep.QuietTactic
import Derived.Deep.RegionHeld3
import Derived.Deep.SlicePairs
import Derived.Laws.RangeAny
import Derived.Lib.LaidTab
import Derived.Lib.LaidU8
import Derived.Lib.SmallJoins
import Derived.LoopIn
import Derived.LoopNIn
import Derived.OwnWalk
import Derived.OwnWalkIn
import Derived.RangeFuncBound
import Derived.RangeFuncCalls
import Derived.RangeFuncFrom
import Derived.RangeFuncLeaves
import Derived.RangeFuncNested
import Derived.Shelf.Abstract
import Derived.Shelf.RegionOpen
import Derived.TacticsInMore
import Derived.Test.YtnflaeimiegepacGreatDoorCards
import Derived.Test.YtnflaeimiegepacGreatDoorTie
import Derived.Lib.SmallJoins
import Derived.ChangeMaps5
import Derived.Deep.DeepHandedRow
import Derived.Deep.DeepWitnessRowRef
import Derived.Lib.LaidTab
import Derived.SevenTiedAt
import Derived.Test.YtnflaeimiegepacGreatDoorExactFastestCraneWalka
namespace Go.Proofs.YtnflaeimiegepacGreatDoor
open Go.ChangeShapes Go.WideShapes Go.ChangeAt Go.RowKit
set_option linter.unusedVariables false
set_option linter.unusedSimpArgs false


def SiteP (ks : List (Cr × Value)) : Prop := siteOk ks ks.length ∧ 1 ≤ ks.length ∧ ks.length ≤ 6

open Classical in
/-- The site is valid. -/
noncomputable def siteB (ks : List (Cr × Value)) : Bool := decide (SiteP ks)

theorem siteB_true {ks : List (Cr × Value)} (h : SiteP ks) : siteB ks = true := by simp [siteB, h]

theorem siteB_false {ks : List (Cr × Value)} (h : ¬ SiteP ks) : siteB ks = false := by simp [siteB, h]

theorem siteOk_step {ks : List (Cr × Value)} {n : Nat} (h : siteOk ks n) (hn : n < ks.length) (h1 : craneB ks[n].1 = true) (h2 : ∀ j (hj : j < ks.length), j < n → ¬ ks[j].1.nm = ks[n].1.nm ∧ 100 < sqD ks[j].1.x ks[j].1.y ks[n].1.x ks[n].1.y) : siteOk ks (n + 1) := by
  intro i hi hlt
  rcases Nat.lt_or_ge i n with h3 | h3
  · exact h i hi h3
  · obtain rfl : i = n := by omega
    exact ⟨h1, h2⟩

theorem room_zero (ks : List (Cr × Value)) (i : Nat) (hi : i < ks.length) :
    roomN (ks.take i) ks[i].1 = 0 ↔ (∀ j (hj : j < ks.length), j < i → ¬ ks[j].1.nm = ks[i].1.nm ∧ 100 < sqD ks[j].1.x ks[j].1.y ks[i].1.x ks[i].1.y) ∧ i < 6 := by
  have hlen : (ks.take i).length = i := by simp; omega
  have hidx : idxK (ks.take i) ks[i].1.nm < (ks.take i).length ↔ ∃ j, ∃ (hj : j < ks.length), j < i ∧ ks[j].1.nm = ks[i].1.nm := by
    unfold idxK
    rw [List.findIdx_lt_length]
    constructor
    · rintro ⟨p, hp, he⟩
      obtain ⟨j, hj, rfl⟩ := List.mem_iff_getElem.1 hp
      rw [hlen] at hj
      refine ⟨j, by omega, hj, ?_⟩
      simpa using he
    · rintro ⟨j, hj, hji, he⟩
      exact ⟨ks[j], List.mem_iff_getElem.2 ⟨j, by rw [hlen]; exact hji, by simp⟩, by simpa using he⟩
  have hnear : nearK (ks.take i) ks[i].1 = true ↔ ∃ j, ∃ (hj : j < ks.length), j < i ∧ sqD ks[j].1.x ks[j].1.y ks[i].1.x ks[i].1.y ≤ 100 := by
    rw [nearK, List.any_eq_true]
    constructor
    · rintro ⟨p, hp, he⟩
      obtain ⟨j, hj, rfl⟩ := List.mem_iff_getElem.1 hp
      rw [hlen] at hj
      refine ⟨j, by omega, hj, ?_⟩
      simpa using he
    · rintro ⟨j, hj, hji, he⟩
      exact ⟨ks[j], List.mem_iff_getElem.2 ⟨j, by rw [hlen]; exact hji, by simp⟩, by simpa using he⟩
  unfold roomN
  rw [hlen] at hidx ⊢
  constructor
  · intro h
    split at h
    · cases h
    · next h1 =>
      split at h
      · cases h
      · next h2 =>
        split at h
        · cases h
        · next h3 =>
          refine ⟨fun j hj hji => ⟨fun he => h1 (hidx.2 ⟨j, hj, hji, he⟩), ?_⟩, by omega⟩
          by_cases h4 : sqD ks[j].1.x ks[j].1.y ks[i].1.x ks[i].1.y ≤ 100
          · exact absurd (hnear.2 ⟨j, hj, hji, h4⟩) h3
          · omega
  · rintro ⟨h, h6⟩
    rw [if_neg (fun hq => by obtain ⟨j, hj, hji, he⟩ := hidx.1 hq; exact (h j hj hji).1 he), if_neg (by omega), if_neg (fun hq => by obtain ⟨j, hj, hji, he⟩ := hnear.1 hq; have := (h j hj hji).2; omega)]

theorem RdK_take {w : World} {A : Option Addr} {c : Nat} {ks : List (Cr × Value)} (h : RdK w (.slice A ks.length c) ks) (i : Nat) (hi : i ≤ ks.length) : RdK w (.slice A i c) (ks.take i) := by
  obtain ⟨⟨hl, hx, A', c', e, hr⟩, hcs⟩ := h
  cases e
  have hlen : (ks.take i).length = i := by simp; omega
  refine ⟨⟨by omega, flatK_len _, A, c, by rw [hlen], fun k hk => ?_⟩, fun p hp => hcs p (List.mem_of_mem_take hp)⟩
  rw [hlen] at hk
  obtain ⟨b, off, e, hlt, hc⟩ := hr k (by omega)
  refine ⟨b, off, e, hlt, ?_⟩
  rw [hc, ← flatK_take (ks.take i) (ks.drop i), List.take_append_drop, hlen, List.getElem?_take, if_pos hk]

set_option maxHeartbeats 2000000 in
theorem implSite_any (A : Option Addr) (c : Nat) (ks : List (Cr × Value)) (r1 r2 r3 : Value) (w : World) (h : RdK w (.slice A ks.length c) ks) (hc : ks.length ≤ c) (hn : ∀ p ∈ ks, p.1.nm.size ≤ 1000000) (he : errAt w r1 r2 r3)
    (hi1 : ∃ t p, r1 = .iface t p) (hi2 : ∃ t p, r2 = .iface t p) (hi3 : ∃ t p, r3 = .iface t p) :
    Calls Tryz.prog 59 #[.agg #[.slice A ks.length c]] w fun e w' => e = .returned (.bool (siteB ks)) ∧ Below w.heap.size w w' := by
  have HE := Lib.hid he; clear he
  have hV : ∀ n, n ≠ 0 → ∃ t p, roomV r1 r2 r3 n = .iface t p := by
    intro n hn
    match n, hn with
    | 1, _ => exact hi1
    | 2, _ => exact hi2
    | n + 3, _ => exact hi3
  have HV := Lib.hid hV; clear hV hi1 hi2 hi3
  obtain ⟨A', c', e, hl, r⟩ := RdK_at h
  cases e
  have H := Lib.hid h; clear h
  have R := Lib.hid r; clear r
  have HN := Lib.hid hn; clear hn
  have HZ := Lib.hid (fun i (hi : i < ks.length) => room_zero ks i hi)
  have hbad : ∀ i (hi : i < ks.length), ¬ (craneB ks[i].1 = true ∧ roomN (ks.take i) ks[i].1 = 0) → siteB ks = false := by
    intro i hi hno
    refine siteB_false fun hs => hno ?_
    have := hs.1 i hi hi
    exact ⟨this.1, (room_zero ks i hi).2 ⟨this.2, by have := hs.2; omega⟩⟩
  have HBAD := Lib.hid hbad; clear hbad
  generalize hG : siteB ks = G at *
  have HG := Lib.hid hG; clear hG
  go_enter Tryz.func59, Tryz.ntmps59
  go_wp2_with fail
  go_loopw [8] (fun i wr => ∃ j : Nat, j ≤ ks.length ∧ i = .int .i64 (j : Int) ∧ siteOk ks j ∧ j ≤ 6 ∧ wr.cell? ⟨w.heap.size, 0, none⟩ = some (.slice A ks.length c) ∧ w.heap.size < wr.heap.size ∧ Below w.heap.size w wr) (fun i _ => ks.length - (intOf i).toNat)
  case atStart => exact ⟨0, by omega, rfl, fun i _ h => by omega, by omega, by simp, by simp, by go_grown⟩
  case round =>
    obtain ⟨j, hj, rfl, hok, hj6, hbox, hlw, hb⟩ := hrel
    have hsz := hb.size
    by_cases hlt : j < ks.length
    · obtain ⟨b, off, rfl, hkk⟩ := R.out j hlt
      have hkk := CrAt_kept hkk hb
      have HKK := Lib.hid hkk
      have hz := HZ.out j hlt
      have hbd := HBAD.out j hlt
      have hnm := HN.out ks[j] (List.getElem_mem hlt)
      have hstep := @siteOk_step ks j hok hlt
      have hokp : ∀ p ∈ ks.take j, okP p.1.x p.1.y = true := by
        intro p hp
        obtain ⟨i, hi, rfl⟩ := List.mem_iff_getElem.1 hp
        have hi2 : i < j := by simpa using (by simp at hi; omega : i < j)
        rw [List.getElem_take]
        exact (craneB_true (hok i (by omega) hi2).1).1
      obtain ⟨hlb, ⟨c0, c1, c2, c3, c4, c5, c6⟩, hrc⟩ := hkk
      generalize ks[j].1 = k at *
      generalize ks[j].2 = cv at *
      obtain ⟨A2, cp2, rfl, _, _⟩ := RdP_slice hrc
      have HC := Lib.hid (implCrane_any k _ wr hrc hnm)
      clear hrc
      cases hcr : craneB k
      · have hg := hbd (by rw [hcr]; simp)
        rw [hcr] at HC
        have HGG := Lib.hid hg; clear hg hbd hz hstep hokp
        go_wp2_with fail
        refine HC.out.mono ?_
        rintro e w1 ⟨rfl, hb1⟩
        go_wp2
        go_ret
        exact ⟨by rw [HGG.out]; rfl, kept_trans hb hb1⟩
      · rw [hcr] at HC
        have hkp := (craneB_true hcr).1
        have HRF := Lib.hid (fun u (q : RdK u (.slice (some ⟨b, off, none⟩) j c) (ks.take j)) (q2 : CrAt u b (off + j * 7) k (.slice A2 k.ch.length cp2)) (q3 : errAt u r1 r2 r3) => roomFor_any _ (ks.take j) _ _ k _ r1 r2 r3 u q q2 hokp hkp q3)
        generalize hm : roomN (ks.take j) k = m at *
        have hjc : j ≤ c := by omega
        by_cases h0 : m = 0
        · subst h0
          have hz1 := hz.1 rfl
          have hst := hstep hcr hz1.1
          have HST := Lib.hid hst; clear hst hstep hz hbd hokp
          go_wp2_with fail
          refine HC.out.mono ?_
          rintro e w1 ⟨rfl, hb1⟩
          have b1 := kept_trans hb hb1
          have hbox1 : w1.cell? ⟨w.heap.size, 0, none⟩ = some (.slice (some ⟨b, off, none⟩) ks.length c) := by rw [kept_cell hb1 _ 0 hlw]; exact hbox
          go_wp2_with fail
          refine (HRF.out w1 (RdK_take (RdK_kept H.out b1) j hj) (CrAt_kept HKK.out hb1) (errAt_kept HE.out b1)).mono ?_
          rintro e w2 ⟨rfl, hb2⟩
          have b2 := kept_trans b1 hb2
          have hlw1 := Nat.lt_of_lt_of_le hlw hb1.size
          have hbox2 : w2.cell? ⟨w.heap.size, 0, none⟩ = some (.slice (some ⟨b, off, none⟩) ks.length c) := by rw [kept_cell hb2 _ 0 hlw1]; exact hbox1
          have hlw2 := Nat.lt_of_lt_of_le hlw1 hb2.size
          simp only [roomV]
          go_wp2
          go_roundw
          case rel => exact ⟨j + 1, by omega, by go_num, HST.out, by omega, hbox2, hlw2, b2⟩
          case measure => simp [intOf]; omega
        · have hg := hbd (fun hq => h0 hq.2)
          obtain ⟨te, pe, hre⟩ := HV.out m h0
          rw [hre] at HRF
          have HGG := Lib.hid hg; clear hg hbd hz hstep hokp hre
          go_wp2_with fail
          refine HC.out.mono ?_
          rintro e w1 ⟨rfl, hb1⟩
          have b1 := kept_trans hb hb1
          have hbox1 : w1.cell? ⟨w.heap.size, 0, none⟩ = some (.slice (some ⟨b, off, none⟩) ks.length c) := by rw [kept_cell hb1 _ 0 hlw]; exact hbox
          go_wp2_with fail
          refine (HRF.out w1 (RdK_take (RdK_kept H.out b1) j hj) (CrAt_kept HKK.out hb1) (errAt_kept HE.out b1)).mono ?_
          rintro e w2 ⟨rfl, hb2⟩
          have b2 := kept_trans b1 hb2
          go_wp2
          go_ret
          exact ⟨by rw [HGG.out]; rfl, b2⟩
    · have : j = ks.length := by omega
      subst this
      have hE : G = decide (0 < ks.length) := by
        rw [← HG.out]
        by_cases h0 : 0 < ks.length
        · rw [siteB_true ⟨hok, by omega, hj6⟩]; simp [h0]
        · rw [siteB_false (fun h => by have := h.2; omega)]; simp [h0]
      have HEE := Lib.hid hE; clear hE hok
      go_wp2
      go_ret
      exact ⟨by rw [HEE.out]; simp, hb⟩

set_option maxHeartbeats 4000000 in
theorem specSite_any (b0 o0 : Nat) (A : Option Addr) (c : Nat) (ks : List (Cr × Value)) (w : World) (h : RdK w (.slice A ks.length c) ks) (hlt0 : b0 < w.heap.size) (hv : w.cell? ⟨b0, o0, none⟩ = some (.slice A ks.length c)) (hn : ∀ p ∈ ks, p.1.nm.size ≤ 1000000) :
    Calls Tryz.prog 53 #[.pointer (some ⟨b0, o0, none⟩)] w fun e w' => e = .returned (.bool (siteB ks)) ∧ Below w.heap.size w w' := by
  obtain ⟨A', c', e, hl, r⟩ := RdK_at h
  cases e
  clear h
  have R := Lib.hid r; clear r
  have HN := Lib.hid hn; clear hn
  have hbad1 : ∀ i (hi : i < ks.length), ¬ craneB ks[i].1 = true → siteB ks = false := fun i hi hno => siteB_false fun hs => hno (hs.1 i hi hi).1
  have hbad2 : ∀ i (hi : i < ks.length) j (hj : j < ks.length), j < i → ¬ (¬ ks[j].1.nm = ks[i].1.nm ∧ 100 < sqD ks[j].1.x ks[j].1.y ks[i].1.x ks[i].1.y) → siteB ks = false := fun i hi j hj hji hno => siteB_false fun hs => hno ((hs.1 i hi hi).2 j hj hji)
  have hend : siteOk ks ks.length → siteB ks = inB (ks.length : Int) 1 6 := by
    intro hok
    by_cases h6 : 1 ≤ ks.length ∧ ks.length ≤ 6
    · rw [siteB_true ⟨hok, h6⟩]; simp [inB]; omega
    · rw [siteB_false (fun hs => h6 hs.2)]; simp [inB]; omega
  have HB1 := Lib.hid hbad1; clear hbad1
  have HB2 := Lib.hid hbad2; clear hbad2
  have HEND := Lib.hid hend; clear hend
  generalize hG : siteB ks = G at *
  clear hG
  go_enter Tryz.func53, Tryz.ntmps53
  go_wp2_with fail
  go_loopw [3] (fun i wr => ∃ n : Nat, n ≤ ks.length ∧ i = .int .i64 (n : Int) ∧ siteOk ks n ∧ Below w.heap.size w wr) (fun i _ => ks.length - (intOf i).toNat)
  case atStart => exact ⟨0, by omega, rfl, fun i _ h => by omega, Below.refl _ _⟩
  case round =>
    obtain ⟨n, hnl, rfl, hok, hb⟩ := hrel
    have hbox : _ := hv
    rw [← kept_cell hb b0 _ hlt0] at hbox
    by_cases hlt : n < ks.length
    · obtain ⟨b, off, rfl, hkk⟩ := R.out n hlt
      have hHC := specCrane_any b (off + n * 7) ks[n].1 ks[n].2 wr (CrAt_kept hkk hb) (HN.out ks[n] (List.getElem_mem hlt))
      cases hcr : craneB ks[n].1
      · have hg := HB1.out n hlt (by rw [hcr]; simp)
        rw [hcr] at hHC
        have HC := Lib.hid hHC; clear hHC hok
        go_wp2_with fail
        refine HC.out.mono ?_
        rintro e w1 ⟨rfl, hb1⟩
        go_wp2
        go_ret
        exact ⟨by rw [hg]; rfl, kept_trans hb hb1⟩
      · rw [hcr] at hHC
        have HC := Lib.hid hHC; clear hHC
        have HOK := Lib.hid hok; clear hok
        have hkp := (craneB_true hcr).1
        go_wp2_with fail
        refine HC.out.mono ?_
        rintro e w1 ⟨rfl, hb1⟩
        have b1 := kept_trans hb hb1
        go_wp2_with fail
        go_loopw [4] (fun i wr => ∃ m : Nat, m ≤ n ∧ i = .int .i64 (m : Int) ∧ (∀ j (hj : j < ks.length), j < m → ¬ ks[j].1.nm = ks[n].1.nm ∧ 100 < sqD ks[j].1.x ks[j].1.y ks[n].1.x ks[n].1.y) ∧ Below w.heap.size w wr) (fun i _ => n - (intOf i).toNat)
        case atStart => exact ⟨0, by omega, rfl, fun j _ h => by omega, b1⟩
        case round =>
          obtain ⟨m, hm, rfl, hall, hb⟩ := hrel
          have hbox2 : _ := hv
          rw [← kept_cell hb b0 _ hlt0] at hbox2
          by_cases hm2 : m < n
          · have hml : m < ks.length := by omega
            obtain ⟨b', off', e', hkm⟩ := R.out m hml
            cases e'
            have hg2 := HB2.out n hlt m hml hm2
            have hokm := (craneB_true (HOK.out m hml hm2).1).1
            have hstep : (¬ ks[m].1.nm = ks[n].1.nm ∧ 100 < sqD ks[m].1.x ks[m].1.y ks[n].1.x ks[n].1.y) → ∀ j (hj : j < ks.length), j < m + 1 → ¬ ks[j].1.nm = ks[n].1.nm ∧ 100 < sqD ks[j].1.x ks[j].1.y ks[n].1.x ks[n].1.y := by
              intro hx j hj hjm
              rcases Nat.lt_or_ge j m with h3 | h3
              · exact hall j hj h3
              · obtain rfl : j = m := by omega
                exact hx
            have HALL := Lib.hid hall; clear hall
            obtain ⟨hlbw, ⟨c0, c1, c2, c3, c4, c5, c6⟩, _⟩ := CrAt_kept hkm hb
            have hb0w : b0 < wr.heap.size := Nat.lt_of_lt_of_le hlt0 hb.size
            obtain ⟨_, ⟨d0, d1, d2, d3, d4, d5, d6⟩, _⟩ := CrAt_kept hkk hb
            clear c3 c4 c5 c6 d3 d4 d5 d6
            have hfar := fun u => far_any ks[m].1.x ks[m].1.y ks[n].1.x ks[n].1.y 10 hokm hkp (by omega) u
            have HSTEP := Lib.hid hstep; clear hstep
            have HKM := Lib.hid hkm; clear hkm
            have HKP := Lib.hid hkp
            have HC0 := Lib.hid hkk
            by_cases hnm : ks[m].1.nm = ks[n].1.nm
            · have hg := hg2 (fun hx => hx.1 hnm)
              rw [hnm] at c0
              clear hfar hg2 hnm hokm hkp hcr
              generalize ks[m].1 = km at *
              generalize ks[n].1 = kn at *
              go_wp2_with fail
              go_quiet (fail)
              go_wp2
              go_ret
              exact ⟨by rw [hg]; rfl, kept_drewN hb _⟩
            · have hne := str_ne hnm
              by_cases hd : 100 < sqD ks[m].1.x ks[m].1.y ks[n].1.x ks[n].1.y
              · have hdd : decide (10 * 10 < sqD ks[m].1.x ks[m].1.y ks[n].1.x ks[n].1.y) = true := by simp; omega
                rw [hdd] at hfar
                have HNX := Lib.hid (HSTEP.out ⟨hnm, hd⟩)
                have HF := Lib.hid hfar; clear hfar hdd hd hnm hg2 hokm hkp hcr
                generalize ks[m].1 = km at *
                generalize ks[n].1 = kn at *
                go_wp2_with fail
                go_region_held3 (fun w' => w'.cell? ⟨b0, o0, none⟩ = some (.slice (some ⟨b, off, none⟩) ks.length c) ∧ w'.cell? ⟨b, off + m * 7, none⟩ = some (.string km.nm) ∧ w'.cell? ⟨b, off + m * 7 + 1, none⟩ = some (.int .i64 km.x) ∧ w'.cell? ⟨b, off + m * 7 + 2, none⟩ = some (.int .i64 km.y) ∧ w'.cell? ⟨b, off + n * 7, none⟩ = some (.string kn.nm) ∧ w'.cell? ⟨b, off + n * 7 + 1, none⟩ = some (.int .i64 kn.x) ∧ w'.cell? ⟨b, off + n * 7 + 2, none⟩ = some (.int .i64 kn.y) ∧ Below w.heap.size w w') (first | (refine ⟨?_, ?_, ?_, ?_, ?_, ?_, ?_, ?_⟩ <;> first | (go_grown; done) | (go_keep; done)) | (exact ⟨(kept_cell hb1 b0 _ hb0w).trans hbox2, (kept_cell hb1 b _ hlbw).trans c0, (kept_cell hb1 b _ hlbw).trans c1, (kept_cell hb1 b _ hlbw).trans c2, (kept_cell hb1 b _ hlbw).trans d0, (kept_cell hb1 b _ hlbw).trans d1, (kept_cell hb1 b _ hlbw).trans d2, hbw⟩))
                  ((go_at_call 96; refine (HF.out _).mono ?_; rintro e w1 ⟨rfl, hb1⟩; have hcl := kept_cell hb1; have hbw := kept_trans (a := w) (kept_drewN hb 1) hb1))
                go_wp2
                go_roundw
                case rel => exact ⟨m + 1, by omega, by go_num, HNX.out, by assumption⟩
                case measure => simp [intOf]; omega
              · have hdd : decide (10 * 10 < sqD ks[m].1.x ks[m].1.y ks[n].1.x ks[n].1.y) = false := by simp; omega
                rw [hdd] at hfar
                have hg := hg2 (fun hx => hd hx.2)
                have HF := Lib.hid hfar; clear hfar hdd hd hnm hg2 hokm hkp hcr
                generalize ks[m].1 = km at *
                generalize ks[n].1 = kn at *
                go_wp2_with fail
                go_region_held3 (fun w' => w'.cell? ⟨b0, o0, none⟩ = some (.slice (some ⟨b, off, none⟩) ks.length c) ∧ w'.cell? ⟨b, off + m * 7, none⟩ = some (.string km.nm) ∧ w'.cell? ⟨b, off + m * 7 + 1, none⟩ = some (.int .i64 km.x) ∧ w'.cell? ⟨b, off + m * 7 + 2, none⟩ = some (.int .i64 km.y) ∧ w'.cell? ⟨b, off + n * 7, none⟩ = some (.string kn.nm) ∧ w'.cell? ⟨b, off + n * 7 + 1, none⟩ = some (.int .i64 kn.x) ∧ w'.cell? ⟨b, off + n * 7 + 2, none⟩ = some (.int .i64 kn.y) ∧ Below w.heap.size w w') (first | (refine ⟨?_, ?_, ?_, ?_, ?_, ?_, ?_, ?_⟩ <;> first | (go_grown; done) | (go_keep; done)) | (exact ⟨(kept_cell hb1 b0 _ hb0w).trans hbox2, (kept_cell hb1 b _ hlbw).trans c0, (kept_cell hb1 b _ hlbw).trans c1, (kept_cell hb1 b _ hlbw).trans c2, (kept_cell hb1 b _ hlbw).trans d0, (kept_cell hb1 b _ hlbw).trans d1, (kept_cell hb1 b _ hlbw).trans d2, hbw⟩))
                  ((go_at_call 96; refine (HF.out _).mono ?_; rintro e w1 ⟨rfl, hb1⟩; have hcl := kept_cell hb1; have hbw := kept_trans (a := w) (kept_drewN hb 1) hb1))
                go_wp2
                go_ret
                exact ⟨by rw [hg]; rfl, by assumption⟩
          · have : m = n := by omega
            subst this
            have hst := siteOk_step HOK.out hlt hcr hall
            have HST := Lib.hid hst; clear hst hall
            go_wp2
            go_roundw
            case rel => exact ⟨m + 1, by omega, by go_num, HST.out, hb⟩
            case measure => simp [intOf]; omega
    · have : n = ks.length := by omega
      subst this
      have hE := HEND.out hok
      clear hok
      go_wp2_with (go_at_call 78; refine (in_any _ _ _ _).mono ?_; rintro e w1 ⟨rfl, rfl⟩)
      go_ret
      exact ⟨by rw [hE]; rfl, hb⟩

/-- The first place at which p holds; -1 if there is none. -/
def idxL {α : Type} (p : α → Bool) (zs : List α) : Int := if zs.findIdx p < zs.length then (zs.findIdx p : Int) else -1

theorem idxL_is {α : Type} {p : α → Bool} {zs : List α} {k : Nat} (h : k < zs.length) (hk : p zs[k] = true) (hb : ∀ j (hj : j < zs.length), j < k → p zs[j] = false) : idxL p zs = (k : Int) := by
  unfold idxL
  have e : zs.findIdx p = k := by
    rw [List.findIdx_eq h]
    exact ⟨hk, fun j hj => hb j (by omega) hj⟩
  rw [e, if_pos h]

theorem idxL_none {α : Type} {p : α → Bool} {zs : List α} (hb : ∀ j (hj : j < zs.length), p zs[j] = false) : idxL p zs = -1 := by
  unfold idxL
  have e : zs.findIdx p = zs.length := by
    rw [List.findIdx_eq_length]
    intro x hx
    obtain ⟨i, hi, rfl⟩ := List.mem_iff_getElem.1 hx
    exact hb i hi
  rw [e, if_neg (by omega)]

theorem idxL_any {α : Type} (p : α → Bool) (zs : List α) : decide (0 ≤ idxL p zs) = zs.any p := by
  unfold idxL
  by_cases h : zs.findIdx p < zs.length
  · rw [if_pos h]
    have := List.findIdx_lt_length.1 h
    simp
    obtain ⟨x, hx, hp⟩ := this
    exact ⟨x, hx, hp⟩
  · rw [if_neg h]
    have : ¬ ∃ x ∈ zs, p x = true := fun hx => h (List.findIdx_lt_length.2 hx)
    simp at this ⊢
    exact this

theorem idxL_bd {α : Type} (p : α → Bool) (zs : List α) : -1 ≤ idxL p zs ∧ idxL p zs ≤ zs.length := by
  unfold idxL
  split <;> omega

theorem validHeight_any (h : Int) (w : World) :
    Calls Tryz.prog 115 #[.int .i64 h] w fun e w' => e = .returned (.bool (inB h 0 2000)) ∧ w = w' := by
  unfold inB
  by_cases h1 : 0 ≤ h <;> by_cases h2 : h ≤ 2000 <;>
  · go_enter Tryz.func115, Tryz.ntmps115
    go_wp2
    go_ret
    exact ⟨by simp [*], rfl⟩

theorem totK_mem {ks : List (Cr × Value)} {p : Cr × Value} (h : p ∈ ks) : p.1.nm.size + p.1.ch.length ≤ totK ks := by
  induction ks with
  | nil => cases h
  | cons q ks ih =>
    simp only [totK]
    rcases List.mem_cons.1 h with rfl | h
    · omega
    · have := ih h
      omega

theorem szS_any (c : Value) (ks : List (Cr × Value)) (left : Int) (w : World) (h : RdK w c ks) (hl : 0 ≤ left ∧ left ≤ 1000000) (hw : ∀ p ∈ ks, wfK p.1) :
    Calls Tryz.prog 19 #[.agg #[c], .int .i64 left] w fun e w' => e = .returned (.int .i64 (if (ks.length : Int) + totK ks ≤ left then left - ks.length - totK ks else -1)) ∧ Below w.heap.size w w' := by
  obtain ⟨A, cp, rfl, _, _⟩ := RdK_at h
  have H := Lib.hid h; clear h
  have HQ := Lib.hid (fun u q => szKs_any (.slice A ks.length cp) ks left u q hl hw)
  by_cases h1 : (ks.length : Int) + totK ks ≤ left
  all_goals
    simp only [h1, if_true, if_false] at HQ ⊢
    have hle : 0 ≤ left - (ks.length : Int) - (totK ks : Nat) ∨ True := Or.inr trivial
    generalize (totK ks : Int) = tk at *
    go_enter Tryz.func19, Tryz.ntmps19
    go_wp2_with fail
    refine (HQ.out _ (RdK_kept H.out (by go_grown))).mono ?_
    rintro e w1 ⟨rfl, hb1⟩
    have b1 := kept_trans (a := w) (by go_grown) hb1
    go_wp2
    go_ret
    exact ⟨rfl, b1⟩

theorem intactS_same (ks : List Cr) (c1 c2 : Value) (lo1 hi1 lo2 hi2 : Nat) (w : World) (h1 : SiteC w lo1 hi1 c1 ks) (h2 : SiteC w lo2 hi2 c2 ks) :
    Calls Tryz.prog 26 #[.agg #[c1], .agg #[c2]] w fun e w' => e = .returned (.bool true) ∧ Below w.heap.size w w' := by
  obtain ⟨T1, r1, _⟩ := SiteC_rd h1
  obtain ⟨T2, r2, _⟩ := SiteC_rd h2
  obtain ⟨A1, cp1, rfl, _, _⟩ := RdK_at r1
  obtain ⟨A2, cp2, rfl, _, _⟩ := RdK_at r2
  clear r1 r2
  have H1 := Lib.hid h1; clear h1
  have H2 := Lib.hid h2; clear h2
  go_enter Tryz.func26, Tryz.ntmps26
  go_wp2_with fail
  refine (intactKs_same _ _ ks _ _ _ _ _ (SiteC_kept H1.out (by go_grown)) (SiteC_kept H2.out (by go_grown))).mono ?_
  rintro e w1 ⟨rfl, hb1⟩
  have b1 := kept_trans (a := w) (by go_grown) hb1
  go_wp2
  go_ret
  exact ⟨rfl, b1⟩

theorem map_at {T ks : List (Cr × Value)} (h : T.map (·.1) = ks.map (·.1)) : T.length = ks.length ∧ ∀ i (h1 : i < T.length) (h2 : i < ks.length), T[i].1 = ks[i].1 := by
  refine ⟨by have := congrArg List.length h; simpa using this, fun i h1 h2 => ?_⟩
  have := congrArg (·[i]?) h
  simpa [h1, h2] using this

theorem siteP_map {T ks : List (Cr × Value)} (h : T.map (·.1) = ks.map (·.1)) (hp : SiteP T) : SiteP ks := by
  obtain ⟨hl, he⟩ := map_at h
  obtain ⟨h1, h2, h3⟩ := hp
  refine ⟨fun i hi hn => ?_, by omega, by omega⟩
  have g := h1 i (by omega) (by omega)
  rw [he i (by omega) hi] at g
  refine ⟨g.1, fun j hj hji => ?_⟩
  have := g.2 j (by omega) hji
  rw [he j (by omega) hj] at this
  exact this

theorem siteB_map {T ks : List (Cr × Value)} (h : T.map (·.1) = ks.map (·.1)) : siteB T = siteB ks := by
  unfold siteB
  congr 1
  exact propext ⟨siteP_map h, siteP_map h.symm⟩

theorem names_map {T ks : List (Cr × Value)} (h : T.map (·.1) = ks.map (·.1)) (hn : ∀ p ∈ ks, p.1.nm.size ≤ 1000000) : ∀ p ∈ T, p.1.nm.size ≤ 1000000 := by
  intro p hp
  have : p.1 ∈ T.map (·.1) := List.mem_map.2 ⟨p, hp, rfl⟩
  rw [h] at this
  obtain ⟨q, hq, e⟩ := List.mem_map.1 this
  rw [← e]
  exact hn q hq

/-- The three variables hold errors. -/
def Ers (w : World) : Prop := ErrVar w 0 ∧ ErrVar w 1 ∧ ErrVar w 2

theorem Ers_kept {W w1 : World} (h : Ers W) (hb : Below W.heap.size W w1) : Ers w1 := ⟨ErrVar_kept h.1 hb, ErrVar_kept h.2.1 hb, ErrVar_kept h.2.2 hb⟩

theorem implVS_any (c : Value) (T ks : List (Cr × Value)) (w : World) (h : RdK w c T) (hcap : ∃ A cp, c = .slice A T.length cp ∧ T.length ≤ cp) (hm : T.map (·.1) = ks.map (·.1)) (hn : ∀ p ∈ ks, p.1.nm.size ≤ 1000000) (he : Ers w) :
    Calls Tryz.prog 59 #[.agg #[c]] w fun e w' => e = .returned (.bool (siteB ks)) ∧ Below w.heap.size w w' := by
  rw [← siteB_map hm]
  obtain ⟨A, cp, rfl, hc⟩ := hcap
  obtain ⟨⟨g1, t1, p1, c1⟩, ⟨g2, t2, p2, c2⟩, g3, t3, p3, c3⟩ := he
  exact implSite_any A cp T _ _ _ w h hc (names_map hm hn) ⟨⟨g1, c1⟩, ⟨g2, c2⟩, g3, c3⟩ ⟨_, _, rfl⟩ ⟨_, _, rfl⟩ ⟨_, _, rfl⟩

theorem SiteC_use {w : World} {lo hi : Nat} {v : Value} {ks : List Cr} (h : SiteC w lo hi v ks) : ∃ T : List (Cr × Value), RdK w v T ∧ (∃ A cp, v = .slice A T.length cp ∧ T.length ≤ cp) ∧ T.map (·.1) = ks := by
  obtain ⟨T, hR, hT⟩ := SiteC_rd h
  obtain ⟨g, _, _, e, _, _, _, _⟩ := SiteC_open h
  have hl : T.length = ks.length := by rw [← hT]; simp
  exact ⟨T, hR, ⟨_, _, by rw [e, hl], by omega⟩, hT⟩

theorem RowI_lo {w : World} {lo lo' hi hi' : Nat} {v : Value} {zs : List Int} (h : RowI w lo hi v zs) (hl : lo' ≤ lo) (hh : hi ≤ hi') : RowI w lo' hi' v zs :=
  ⟨Joins.ownsRow_le h.1 hl, fun g hg => ⟨by have := (h.2 g hg).1; omega, by have := (h.2 g hg).2; omega⟩⟩

theorem RowI_new (w : World) : RowI (w.alloc (.cells #[] 2)) w.heap.size (w.alloc (.cells #[] 2)).heap.size (.slice (some ⟨w.heap.size, 0, none⟩) 0 0) [] :=
  ⟨World.ownsRow_lit w #[] 0 (Nat.le_refl _) (by decide) (by rfl), fun g hg => by simp [Value.ownBlock] at hg; subst hg; simp⟩

theorem siteP_crane {T : List (Cr × Value)} (h : siteB T = true) : T.length ≤ 6 ∧ ∀ j (hj : j < T.length), craneB T[j].1 = true := by
  simp only [siteB, decide_eq_true_eq] at h
  exact ⟨h.2.2, fun j hj => (h.1 j hj hj).1⟩

theorem loadL_reach {k : Cr} {u v : Int} (hc : craneB k = true) (h : reachB k u v = true) : 0 ≤ loadL k.ch (distL k u v) := by
  have hk := (craneB_true hc).2.2.2.2.1
  simp only [reachB, decide_eq_true_eq] at h
  exact (loadL_bd hk ((find_last hk _).2 h)).1

/-- A moment without its sign. -/
def tiltL (n : Int) : Int := max n (-n)

theorem three (p0 p1 p2 : Bool) : p0 = false ∨ (p0 = true ∧ p1 = false) ∨ (p0 = true ∧ p1 = true ∧ p2 = false) ∨ (p0 = true ∧ p1 = true ∧ p2 = true) := by
  cases p0 <;> cases p1 <;> cases p2 <;> simp

theorem RdI_of (w : World) (g c : Nat) (zs : List Int) (hl : zs.length ≤ 9223372036854775807) (hg : g < w.heap.size) (hc : ∀ k, (hk : k < zs.length) → w.cell? ⟨g, k, none⟩ = some (.int .i64 zs[k])) : RdI w (.slice (some ⟨g, 0, none⟩) zs.length c) zs :=
  ⟨hl, _, _, rfl, fun k hk => ⟨g, 0, rfl, hg, by rw [Nat.zero_add]; exact hc k hk⟩⟩

theorem rdI1 {w : World} {g c : Nat} {x : Int} (hg : g < w.heap.size) (h0 : w.cell? ⟨g, 0, none⟩ = some (.int .i64 x)) : RdI w (.slice (some ⟨g, 0, none⟩) 1 c) [x] :=
  RdI_of w g c [x] (by simp) hg (fun k hk => by simp at hk; subst hk; exact h0)

set_option maxRecDepth 100000 in
theorem indexFuncI_any (v : Value) (zs : List Int) (g : FuncId) (he : Enters Tryz.prog g) (cap : Array Value) (p : Int → Bool) (w : World) (h : RdI w v zs)
    (hf : ∀ k (hk : k < zs.length) w1, Below w.heap.size w w1 → Calls Tryz.prog g (#[.int .i64 zs[k]] ++ cap) w1 fun e w2 => e = .returned (.bool (p zs[k])) ∧ Below w1.heap.size w1 w2) :
    Calls Tryz.prog 132 #[v, .func (.func g) #[] cap] w fun e w' => e = .returned (.int .i64 (idxL p zs)) ∧ Below w.heap.size w w' := by
  obtain ⟨hl, A, c, rfl, r1⟩ := h
  have R := Lib.hid r1; clear r1
  have Hf := Lib.hid hf; clear hf
  have HIS := Lib.hid (fun k (h : k < zs.length) => @idxL_is _ p zs k h)
  have HNO := Lib.hid (@idxL_none _ p zs)
  generalize idxL p zs = G at *
  go_enter Tryz.func132, Tryz.ntmps132
  go_wp2_with fail
  go_loopw [8] (fun i wr => ∃ k : Nat, k ≤ zs.length ∧ i = .int .i64 k ∧ (∀ j (hj : j < zs.length), j < k → p zs[j] = false) ∧ Below w.heap.size w wr) (fun i _ => zs.length - (intOf i).toNat)
  case atStart => exact ⟨0, by omega, rfl, fun j _ h => by omega, Below.refl _ _⟩
  case round =>
    obtain ⟨k, hk, rfl, hall, hb⟩ := hrel
    by_cases hlt : k < zs.length
    · obtain ⟨b, off, rfl, hbl, hc0⟩ := R.out k hlt
      rw [← kept_cell hb b _ hbl] at hc0
      have hc := Hf.out k hlt wr hb
      cases hp : p zs[k]
      · have hnx : ∀ j (hj : j < zs.length), j < k + 1 → p zs[j] = false := fun j hj hjk => by
          rcases Nat.lt_or_ge j k with h1 | h1
          · exact hall j hj h1
          · obtain rfl : j = k := by omega
            exact hp
        rw [hp] at hc
        have HNX := Lib.hid hnx; clear hnx hall hp
        have Hc := Lib.hid hc; clear hc
        generalize zs[k] = x at *
        go_wp2_with fail
        rw [he, Oper.upon_enter]
        refine Hc.out.mono ?_
        rintro e w1 ⟨rfl, hb1⟩
        go_wp2
        go_roundw
        case rel => exact ⟨k + 1, by omega, by go_num, HNX.out, kept_trans hb hb1⟩
        case measure => simp [intOf]; omega
      · have hE := HIS.out k hlt hp hall
        subst hE
        rw [hp] at hc
        have Hc := Lib.hid hc; clear hc hall hp
        generalize zs[k] = x at *
        go_wp2_with fail
        rw [he, Oper.upon_enter]
        refine Hc.out.mono ?_
        rintro e w1 ⟨rfl, hb1⟩
        go_wp2
        go_ret
        exact ⟨rfl, kept_trans hb hb1⟩
    · have : k = zs.length := by omega
      subst this
      have hE := HNO.out (fun j hj => hall j hj hj)
      clear hall
      subst hE
      go_wp2
      go_ret
      exact ⟨rfl, hb⟩

theorem containsFuncI_any (v : Value) (zs : List Int) (g : FuncId) (he : Enters Tryz.prog g) (cap : Array Value) (p : Int → Bool) (w : World) (h : RdI w v zs)
    (hf : ∀ k (hk : k < zs.length) w1, Below w.heap.size w w1 → Calls Tryz.prog g (#[.int .i64 zs[k]] ++ cap) w1 fun e w2 => e = .returned (.bool (p zs[k])) ∧ Below w1.heap.size w1 w2) :
    Calls Tryz.prog 113 #[v, .func (.func g) #[] cap] w fun e w' => e = .returned (.bool (zs.any p)) ∧ Below w.heap.size w w' := by
  have H := Lib.hid (indexFuncI_any v zs g he cap p w h hf)
  obtain ⟨hl, A, c, rfl, r1⟩ := h
  clear hf r1
  have hbd := idxL_bd p zs
  rw [← idxL_any]
  generalize idxL p zs = G at *
  go_enter Tryz.func113, Tryz.ntmps113
  go_wp2_with fail
  refine H.out.mono ?_
  rintro e w1 ⟨rfl, hb1⟩
  go_wp2
  go_ret
  exact ⟨rfl, hb1⟩

theorem outside_any (n lo hi : Int) (b1 b2 : Nat) (w : World) (h1 : w.cell? ⟨b1, 0, none⟩ = some (.int .i64 lo)) (h2 : w.cell? ⟨b2, 0, none⟩ = some (.int .i64 hi)) :
    Calls Tryz.prog 114 #[.int .i64 n, .pointer (some ⟨b1, 0, none⟩), .pointer (some ⟨b2, 0, none⟩)] w fun e w' => e = .returned (.bool (!inB n lo hi)) ∧ Below w.heap.size w w' := by
  unfold inB
  by_cases g1 : lo ≤ n <;> by_cases g2 : n ≤ hi
  all_goals
    go_enter Tryz.func114, Tryz.ntmps114
    go_wp2
    go_ret
    exact ⟨by simp [*], Below.refl _ _⟩

theorem within_any (lo hi : Int) (v : Value) (zs : List Int) (w : World) (h : RdI w v zs) :
    Calls Tryz.prog 88 #[.int .i64 lo, .int .i64 hi, v] w fun e w' => e = .returned (.bool (zs.all fun n => inB n lo hi)) ∧ Below w.heap.size w w' := by
  have hall : (zs.all fun n => inB n lo hi) = !(zs.any fun n => !inB n lo hi) := by simp [List.any_eq_not_all_not]
  rw [hall]
  clear hall
  have HC := Lib.hid (fun u (q : RdI u v zs) b1 b2 (l1 : b1 < u.heap.size) (l2 : b2 < u.heap.size) (c1 : u.cell? ⟨b1, 0, none⟩ = some (.int .i64 lo)) (c2 : u.cell? ⟨b2, 0, none⟩ = some (.int .i64 hi)) =>
    containsFuncI_any v zs 114 (enters_of Tryz.func114 (by kernel_rfl) rfl) #[.pointer (some ⟨b1, 0, none⟩), .pointer (some ⟨b2, 0, none⟩)] (fun n => !inB n lo hi) u q
      (fun k hk w1 hb => outside_any zs[k] lo hi b1 b2 w1 (by rw [kept_cell hb b1 0 l1]; exact c1) (by rw [kept_cell hb b2 0 l2]; exact c2)))
  obtain ⟨hl, A, c, rfl, r1⟩ := h
  have H := Lib.hid (show RdI w (.slice A zs.length c) zs from ⟨hl, A, c, rfl, r1⟩); clear r1
  generalize (zs.any fun n => !inB n lo hi) = X at *
  have hmf : ∀ (fn : Fn) (first cap : Array Value) (w : World), (Instr.makeFunc fn first cap).run Tryz.prog w = .ok (.func fn first cap) w := fun _ _ _ _ => rfl
  go_enter Tryz.func88, Tryz.ntmps88
  go_wp2_with fail
  refine (HC.out _ (RdI_kept H.out (by go_grown)) w.heap.size (w.heap.size + 1) (by simp; try omega) (by simp) (by simp) (by simp)).mono ?_
  rintro e w1 ⟨rfl, hb1⟩
  have b1 := kept_trans (a := w) (by go_grown) hb1
  go_wp2
  go_ret
  exact ⟨rfl, b1⟩

theorem four (p0 p1 p2 p3 : Bool) : p0 = false ∨ (p0 = true ∧ p1 = false) ∨ (p0 = true ∧ p1 = true ∧ p2 = false) ∨ (p0 = true ∧ p1 = true ∧ p2 = true ∧ p3 = false) ∨ (p0 = true ∧ p1 = true ∧ p2 = true ∧ p3 = true) := by
  cases p0 <;> cases p1 <;> cases p2 <;> cases p3 <;> simp

/-- A world in which all that was there in W stands as it was. -/
structure BelowBy (W : World) where
  w : World
  h : Below W.heap.size W w
instance belowBy_some (W : World) : Inhabited (BelowBy W) := ⟨⟨W, Below.refl _ _⟩⟩

/-- A region that draws its order, whose operations only read and whose callees only make memory: walked once. -/
theorem wp_region_below {P : Program} {id : Nat} {Q : Exit → Act → World → Prop} {a : Act} {w : World} {l : List Oper} (hm : P.follows .mixedOrders = true) (hB : Region.lexB .any l.toArray = true)
    (h : wpQuiet P l.toArray (fun w' => ∃ p : BelowBy w, w' = p.w) (fun a' => ∀ w', (∃ p : BelowBy w, w' = p.w) → Q .normal a' w') l a) : (Code.region id l.toArray true).wp P Q a w :=
  wp_region_quiet (C := fun w' => ∃ p : BelowBy w, w' = p.w) hm hB ⟨⟨{ w with drawn := w.drawn + 1 }, ⟨rfl, rfl, rfl, Nat.le_refl _, fun _ _ => rfl⟩⟩, rfl⟩ (by simpa using h)

theorem below_call {P : Program} {f : FuncId} {args : Array Value} {W : World} {x : BelowBy W} {v : Value}
    (h : Below W.heap.size W x.w → Calls P f args x.w fun e w' => e = .returned v ∧ Below x.w.heap.size x.w w') : Calls P f args x.w fun e w'' => e = .returned v ∧ ∃ p : BelowBy W, w'' = p.w :=
  (h x.h).mono fun _ w' ⟨he, hb⟩ => ⟨he, ⟨w', kept_trans x.h hb⟩, rfl⟩

theorem rdI0' (w : World) : RdI w (.slice none 0 0) [] := ⟨by simp, none, 0, rfl, fun k hk => by simp at hk⟩

/-- A slice of numbers that came in, opened. -/
theorem open_i64s {H : Type} {enc : TypeId × Value → H} {P : Program} {W : World} {r : Reach} {b0 base : Nat} {t e : TypeId} {v : Value} {d : DataW H} {p : List MemPlace}
    (ht : P.underlying t = some (.slice e)) (he : P.underlying e = some (.int .i64)) (hc : P.cellsOf e = 1) (hv : Value.okWide P W r b0 t v) (hd : DataW.Trod enc P W base (fun _ => true) true t v d p) :
    ∃ zs : List Int, RdI W v zs ∧ zs.length ≤ maxLen ∧ DataLen d zs.length := by
  obtain ⟨A, n, c, rfl⟩ := okWide_slice ht hv
  obtain ⟨fuel, hf⟩ := hd
  rcases Deep.open_slice1 ht hc (show DataW.trod enc P W base (fun _ => true) true fuel t [.slice A n c] = some (d, p) from by simpa [Value.cells] using hf) with ⟨hcs, hx⟩ | ⟨a, len, cap, m, n', V, D, Pl, hcs, _, hl, hm, hmm, hx, hi⟩
  · simp only [List.cons.injEq, and_true, Value.slice.injEq] at hcs
    obtain ⟨rfl, rfl, rfl⟩ := hcs
    exact ⟨[], rdI0' W, by simp, Or.inl ⟨congrArg Prod.fst hx, rfl⟩⟩
  · simp only [List.cons.injEq, and_true, Value.slice.injEq] at hcs
    obtain ⟨rfl, rfl, rfl⟩ := hcs
    simp only [if_true] at hmm
    have each : ∀ i, i < n → ∃ q : Int, V i = .int .i64 q := by
      intro i hlt
      obtain ⟨_, g0⟩ := hi i (by omega)
      obtain ⟨x, e0, _, _⟩ := DataW.trod_int he g0
      simp at e0
      exact ⟨x, e0⟩
    obtain ⟨q, hq⟩ := Deep.choose_lt each
    obtain ⟨b, off, spot⟩ := a
    refine ⟨(List.range n).map q, ⟨by simp; unfold maxLen at hm; omega, some ⟨b, off, spot⟩, c, by simp, fun j hj => ?_⟩, by simp; omega, Or.inr ⟨_, _, congrArg Prod.fst hx, by simp⟩⟩
    simp only [List.length_map, List.length_range] at hj
    obtain ⟨h0, _⟩ := hi j (by omega)
    have hspot : spot = none := by simpa [Addr.add] using World.cell?_spot (hi 0 (by omega)).1
    subst hspot
    rw [add_plain, hq j hj] at h0
    exact ⟨b, off, rfl, World.block_lt_of_cell? _ _ h0, by rw [h0]; simp⟩

def fillI : Int := -7000000000000000101

def copyI (zs : List Int) : List Int := zs ++ List.replicate (roomL zs.length) fillI

theorem copyI_len (zs : List Int) : (copyI zs).length = zs.length + roomL zs.length := by simp [copyI]

theorem copyI_at (zs : List Int) (j : Nat) : (h : j < zs.length) → (copyI zs)[j]'(by rw [copyI_len]; omega) = zs[j] := by
  intro h
  simp [copyI, h]

theorem copyI_fill (zs : List Int) (j : Nat) (h : zs.length ≤ j) : (h2 : j < (copyI zs).length) → (copyI zs)[j] = fillI := by
  intro h2
  simp [copyI, h]

/-- A copy of a list of numbers that the law made. -/
def CopyI (w : World) (lo hi : Nat) (v : Value) (zs : List Int) : Prop :=
  zs.length ≤ 1000000 ∧ ∃ g, v = .slice (some ⟨g, 0, none⟩) zs.length (copyI zs).length ∧ RowI w lo hi (.slice (some ⟨g, 0, none⟩) (copyI zs).length (copyI zs).length) (copyI zs)

theorem CopyI_kept {W w1 : World} {lo hi : Nat} {v : Value} {zs : List Int} (h : CopyI W lo hi v zs) (hb : Below W.heap.size W w1) : CopyI w1 lo hi v zs := by
  obtain ⟨hl, g, e, hr⟩ := h
  exact ⟨hl, g, e, RowI_kept hr hb⟩

theorem CopyI_rd {w : World} {lo hi : Nat} {v : Value} {zs : List Int} (h : CopyI w lo hi v zs) : RdI w v zs := by
  obtain ⟨hl, g, rfl, hr⟩ := h
  obtain ⟨h1, A, c, e, h2⟩ := RowI_rd hr
  injection e with e1 e2 e3
  subst e1
  refine ⟨by omega, _, _, rfl, fun k hk => ?_⟩
  obtain ⟨b, off, e4, h3, h4⟩ := h2 k (by rw [copyI_len]; omega)
  refine ⟨b, off, e4, h3, ?_⟩
  rw [h4]
  simp [copyI, hk]

theorem make_i64s (n : Nat) (h : n ≤ 4000000) (w : World) :
    (Instr.makeSlice 29 (.int .i64 (n : Int)) (.int .i64 (n : Int))).run Tryz.prog w = .ok (.slice (some ⟨w.heap.size, 0, none⟩) n n) (w.alloc (.cells (madeCells #[.int .i64 0] (n * 1)) 2)) := by
  obtain ⟨i, hi, hz, hs, hb⟩ := info_parts info_int64
  have hb' : (i.bytes : Int) * (n : Int) ≤ 281474976710656 := by rw [hb]; omega
  have hr := run_make (P := Tryz.prog) w 29 2 i (.int .i64 0) Tryz.underlying29 hi hz .i64 .i64 n n (by omega) (Int.le_refl _) hb' (by omega)
  simp only [Int.toNat_natCast, hs] at hr
  exact hr

theorem madeI_flat (n : Nat) : (madeCells #[.int .i64 0] (n * 1)).toList = (List.replicate n (0 : Int)).map (Value.int .i64) := by
  apply List.ext_getElem?
  intro j
  by_cases hj : j < n
  · simp [madeCells, hj, Nat.mod_one]
  · rw [List.getElem?_eq_none (by rw [Array.length_toList, size_madeCells]; omega), List.getElem?_eq_none (by simp; omega)]

set_option maxHeartbeats 1000000 in
theorem toI_row (v : Value) (zs : List Int) (bare : Bool) (w : World) (h : RdI w v zs) (hn : zs.length ≤ 1000000) (hbare : bare = false ∨ zs ≠ []) :
    Calls Tryz.prog 39 #[v, .bool bare] w fun e w' => ∃ v', e = .returned v' ∧ CopyI w' w.heap.size w'.heap.size v' zs ∧ Below w.heap.size w w' := by
  obtain ⟨hl, A, c, rfl, r1⟩ := h
  have R := Lib.hid r1; clear r1
  have hN := copyI_len zs
  have hr := roomL_le zs.length
  have hmk : ∀ w : World, (Instr.makeSlice 29 (.int .i64 ((zs.length : Int) + (roomL zs.length : Int))) (.int .i64 ((zs.length : Int) + (roomL zs.length : Int)))).run Tryz.prog w = .ok (.slice (some ⟨w.heap.size, 0, none⟩) (copyI zs).length (copyI zs).length) (w.alloc (.cells (madeCells #[.int .i64 0] ((copyI zs).length * 1)) 2)) := by
    intro w
    have := make_i64s (copyI zs).length (by omega) w
    rwa [show (((copyI zs).length : Nat) : Int) = (zs.length : Int) + (roomL zs.length : Int) by omega] at this
  have hcap : (copyI zs).length ≤ maxLen := by unfold maxLen; omega
  have hrow0 : ∀ wa : World, w.heap.size ≤ wa.heap.size → (wa.alloc (.cells (madeCells #[.int .i64 0] ((copyI zs).length * 1)) 2)).ownsRow w.heap.size 2 1 (.slice (some ⟨wa.heap.size, 0, none⟩) (copyI zs).length (copyI zs).length) (copyI zs).length (((copyI zs).take 0 ++ List.replicate ((copyI zs).length - 0) 0).map (Value.int .i64)) := by
    intro wa hwa
    have := World.ownsRow_lit wa (e := 2) (size := 1) (madeCells #[.int .i64 0] ((copyI zs).length * 1)) (copyI zs).length hwa hcap (size_madeCells _ _)
    rw [madeI_flat] at this
    simpa using this
  have Hrow := Lib.hid hrow0; clear hrow0
  have hb0 : bare = true → ((zs.length : Int) == 0) = false := by
    intro hb
    have : zs.length ≠ 0 := fun h => by
      rcases hbare with h1 | h1
      · rw [hb] at h1; cases h1
      · exact h1 (List.eq_nil_of_length_eq_zero h)
    simpa using this
  clear hbare
  generalize hNN : (copyI zs).length = N at *
  have HNN := Lib.hid hNN; clear hNN
  have hNb : N ≤ 2000002 ∧ zs.length ≤ N := by omega
  have HN := Lib.hid hN; clear hN
  cases bare
  all_goals
    have hbn := hb0
    simp only [forall_const, reduceCtorEq, false_implies, Bool.false_eq_true] at hbn
    clear hb0
    go_enter Tryz.func39, Tryz.ntmps39
    go_wp2_with (go_at_call 57; refine (room_any _ (by omega) _).mono ?_; rintro e w1 ⟨rfl, rfl⟩)
    go_loopw [6] (fun i wr => ∃ j : Nat, j ≤ zs.length ∧ i = .int .i64 j ∧ wr.ownsRow w.heap.size 2 1 (.slice (some ⟨w.heap.size, 0, none⟩) N N) N (((copyI zs).take j ++ List.replicate (N - j) 0).map (Value.int .i64)) ∧ Below w.heap.size w wr) (fun i _ => zs.length - (intOf i).toNat)
    case atStart => exact ⟨0, by omega, rfl, by have := Hrow.out w (Nat.le_refl _); rw [Nat.mul_one] at this; exact this, by go_grown⟩
    case round =>
      obtain ⟨j, hj, rfl, hown, hb⟩ := hrel
      have hsz := hb.size
      by_cases hlt : j < zs.length
      · obtain ⟨b, off, rfl, hbl, hc0⟩ := R.out j hlt
        rw [← kept_cell hb b _ hbl] at hc0
        have hstep := fill_step (copyI zs) (0 : Int) j (by rw [HNN.out]; omega)
        rw [copyI_at zs j hlt, HNN.out] at hstep
        generalize zs[j] = z at *
        have hlen : (((copyI zs).take j ++ List.replicate (N - j) 0).map (Value.int .i64)).length = N * 1 := hown.1
        obtain ⟨u0, hu0⟩ : ∃ u, wr.cell? ⟨w.heap.size, j, none⟩ = some u := by
          rw [hown.cellAt _ (by omega)]
          exact ⟨_, List.getElem?_eq_getElem (by omega)⟩
        have hz0 := hown.frozenAt j
        have hs0 := hown.stored j (.int .i64 z)
        rw [← List.map_set, hstep] at hs0
        have Hs := Lib.hid hs0.1
        have Hg := Lib.hid hs0.2
        clear hs0 hstep hown hlen
        go_wp2
        go_roundw
        case rel => exact ⟨j + 1, by omega, by go_num, Hs.out, grown_below hb Hg.out (fun g hg => by simp at hg; omega)⟩
        case measure => simp [intOf]; omega
      · have : j = zs.length := by omega
        subst this
        go_wp2_with fail
        go_loopw [7] (fun i wr => ∃ j : Nat, zs.length ≤ j ∧ j ≤ N ∧ i = .int .i64 j ∧ wr.ownsRow w.heap.size 2 1 (.slice (some ⟨w.heap.size, 0, none⟩) N N) N (((copyI zs).take j ++ List.replicate (N - j) 0).map (Value.int .i64)) ∧ Below w.heap.size w wr) (fun i _ => N - (intOf i).toNat)
        case atStart => exact ⟨zs.length, by omega, by omega, rfl, hown, hb⟩
        case round =>
          obtain ⟨j, hj0, hj, rfl, hown, hb⟩ := hrel
          have hsz := hb.size
          by_cases hlt : j < N
          · have hstep := fill_step (copyI zs) (0 : Int) j (by rw [HNN.out]; omega)
            rw [copyI_fill zs j hj0 (by rw [HNN.out]; omega), HNN.out] at hstep
            have hlen : (((copyI zs).take j ++ List.replicate (N - j) 0).map (Value.int .i64)).length = N * 1 := hown.1
            obtain ⟨u0, hu0⟩ : ∃ u, wr.cell? ⟨w.heap.size, j, none⟩ = some u := by
              rw [hown.cellAt _ (by omega)]
              exact ⟨_, List.getElem?_eq_getElem (by omega)⟩
            have hz0 := hown.frozenAt j
            have hs0 := hown.stored j (.int .i64 fillI)
            rw [← List.map_set, hstep] at hs0
            have Hs := Lib.hid hs0.1
            have Hg := Lib.hid hs0.2
            clear hs0 hstep hown hlen
            go_wp2
            go_roundw
            case rel => exact ⟨j + 1, by omega, by omega, by go_num, Hs.out, grown_below hb Hg.out (fun g hg => by simp at hg; omega)⟩
            case measure => simp [intOf]; omega
          · have : j = N := by omega
            subst this
            have Hown := Lib.hid hown; clear hown
            go_wp2
            go_ret
            have hT : (copyI zs).take j ++ List.replicate (j - j) 0 = copyI zs := by rw [List.take_of_length_le (by rw [HNN.out]; exact Nat.le_refl _)]; simp
            refine ⟨_, rfl, ⟨hn, w.heap.size, by rw [HNN.out]; rfl, ?_⟩, hb⟩
            have hO := Hown.out
            rw [hT] at hO
            unfold RowI
            rw [HNN.out]
            exact ⟨hO, fun g hg => by simp [Value.ownBlock] at hg; subst hg; exact ⟨Nat.le_refl _, (hO.lt _ rfl).2⟩⟩

theorem toI_false (v : Value) (zs : List Int) (w : World) (h : RdI w v zs) (hn : zs.length ≤ 1000000) :
    Calls Tryz.prog 39 #[v, .bool false] w fun e w' => ∃ v', e = .returned v' ∧ CopyI w' w.heap.size w'.heap.size v' zs ∧ Below w.heap.size w w' := toI_row v zs false w h hn (Or.inl rfl)

theorem intactI_same (v1 v2 : Value) (zs : List Int) (lo1 hi1 lo2 hi2 : Nat) (w : World) (h1 : CopyI w lo1 hi1 v1 zs) (h2 : CopyI w lo2 hi2 v2 zs) :
    Calls Tryz.prog 42 #[v1, v2] w fun e w' => e = .returned (.bool true) ∧ Below w.heap.size w w' := by
  obtain ⟨hn, g1, rfl, r1⟩ := h1
  obtain ⟨_, g2, rfl, r2⟩ := h2
  have q1 : RdI w _ (copyI zs) := RowI_rd r1
  have q2 : RdI w _ (copyI zs) := RowI_rd r2
  clear r1 r2
  have hN := copyI_len zs
  have hr := roomL_le zs.length
  generalize hT : copyI zs = T at *
  clear hT
  have Q1 := Lib.hid q1; clear q1
  have Q2 := Lib.hid q2; clear q2
  generalize hTl : T.length = N at *
  have hN' : (zs.length : Int) + (roomL zs.length : Int) = (N : Int) := by omega
  have hcap : zs.length ≤ N := by omega
  clear hN
  go_enter Tryz.func42, Tryz.ntmps42
  go_wp2_with (go_at_call 57; refine (room_any _ (by omega) _).mono ?_; rintro e w1 ⟨rfl, rfl⟩)
  go_region_held3 (fun _ => True) (trivial)
    ((go_at_call 62; refine (eqInts_same _ _ T _ (by exact Q1.out) (by exact Q2.out)).mono ?_; rintro e w1 ⟨rfl, hb1⟩; replace hb1 := kept_trans (a := w) (by go_grown) hb1))
  go_wp2
  go_ret
  exact ⟨rfl, by assumption⟩

theorem RdI_slice {w : World} {v : Value} {zs : List Int} (h : RdI w v zs) : ∃ A c, v = .slice A zs.length c ∧ zs.length ≤ 9223372036854775807 ∧
    ∀ k, (hk : k < zs.length) → ∃ b off, A = some ⟨b, off, none⟩ ∧ b < w.heap.size ∧ w.cell? ⟨b, off + k, none⟩ = some (.int .i64 zs[k]) := by
  obtain ⟨hl, A, c, rfl, hr⟩ := h
  exact ⟨A, c, rfl, hl, hr⟩

theorem RowI_set {w : World} {lo hi b o : Nat} {v u : Value} {zs : List Int} (h : RowI w lo hi v zs) (hb : b < lo) : RowI (w.setCell ⟨b, o, none⟩ u) lo hi v zs :=
  RowI_far h (grown_set _ _ _) (fun g hg => by simp at hg; omega)

theorem CopyI_row {w : World} {lo hi : Nat} {v : Value} {zs : List Int} (h : CopyI w lo hi v zs) : RowI w lo hi v zs := by
  obtain ⟨hl, g, rfl, hr⟩ := h
  have hF : RowF 2 1 w lo hi (.slice (some ⟨g, 0, none⟩) (copyI zs).length (copyI zs).length) (copyI zs).length ((copyI zs).map (Value.int .i64)) := hr
  have := RowF_short hF (n := zs.length) (by rw [copyI_len]; omega)
  have e : ((copyI zs).map (Value.int .i64)).take (zs.length * 1) = zs.map (Value.int .i64) := by
    rw [Nat.mul_one, ← List.map_take]
    simp [copyI]
  rw [e] at this
  exact this

theorem CopyI_set {w : World} {lo hi b o : Nat} {v u : Value} {zs : List Int} (h : CopyI w lo hi v zs) (hb : b < lo) : CopyI (w.setCell ⟨b, o, none⟩ u) lo hi v zs := by
  obtain ⟨hl, g, e, hr⟩ := h
  exact ⟨hl, g, e, RowI_set hr hb⟩

theorem CopyI_lo {w : World} {lo lo' hi hi' : Nat} {v : Value} {zs : List Int} (h : CopyI w lo hi v zs) (hl : lo' ≤ lo) (hh : hi ≤ hi') : CopyI w lo' hi' v zs := by
  obtain ⟨hn, g, e, hr⟩ := h
  exact ⟨hn, g, e, RowI_lo hr hl hh⟩

/-- A lift's fields. -/
structure Lf where
  nm : ByteArray
  wt : Int
  fx : Int
  fy : Int
  tx : Int
  ty : Int
  h : Int
  dl : Int
  af : List Int

/-- A lift, cell by cell; c: the slice of what it is after. -/
def encLf (p : Lf × Value) : List Value := [.string p.1.nm, .int .i64 p.1.wt, .int .i64 p.1.fx, .int .i64 p.1.fy, .int .i64 p.1.tx, .int .i64 p.1.ty, .int .i64 p.1.h, .int .i64 p.1.dl, p.2]

def wfLf (k : Lf) : Prop := k.nm.size ≤ maxLen ∧ (Lit.int .i64 k.wt).wf = true ∧ (Lit.int .i64 k.fx).wf = true ∧ (Lit.int .i64 k.fy).wf = true ∧ (Lit.int .i64 k.tx).wf = true ∧ (Lit.int .i64 k.ty).wf = true ∧ (Lit.int .i64 k.h).wf = true ∧ (Lit.int .i64 k.dl).wf = true

/-- A lift lies at a place. -/
def LfAt (w : World) (b o : Nat) (k : Lf) (c : Value) : Prop :=
  b < w.heap.size ∧ (w.cell? ⟨b, o, none⟩ = some (.string k.nm) ∧ w.cell? ⟨b, o + 1, none⟩ = some (.int .i64 k.wt) ∧ w.cell? ⟨b, o + 2, none⟩ = some (.int .i64 k.fx) ∧ w.cell? ⟨b, o + 3, none⟩ = some (.int .i64 k.fy) ∧ w.cell? ⟨b, o + 4, none⟩ = some (.int .i64 k.tx) ∧ w.cell? ⟨b, o + 5, none⟩ = some (.int .i64 k.ty) ∧ w.cell? ⟨b, o + 6, none⟩ = some (.int .i64 k.h) ∧ w.cell? ⟨b, o + 7, none⟩ = some (.int .i64 k.dl) ∧ w.cell? ⟨b, o + 8, none⟩ = some c) ∧ RdI w c k.af

theorem LfAt_kept {W w1 : World} {b o : Nat} {k : Lf} {c : Value} (h : LfAt W b o k c) (hb : Below W.heap.size W w1) : LfAt w1 b o k c := by
  obtain ⟨hlt, ⟨h0, h1, h2, h3, h4, h5, h6, h9, h8⟩, hr⟩ := h
  refine ⟨Nat.lt_of_lt_of_le hlt hb.size, ⟨?_, ?_, ?_, ?_, ?_, ?_, ?_, ?_, ?_⟩, RdI_kept hr hb⟩ <;> (rw [kept_cell hb b _ hlt]; assumption)

/-- What is left of a measure behind a lift; less than 0: too much. -/
def szLf (k : Lf) (left : Int) : Int := if (k.nm.size : Int) + (k.af.length : Int) ≤ left then left - k.nm.size - k.af.length else -1

theorem szI_any (A : Option Addr) (n c : Nat) (left : Int) (h : -9223372036854775808 ≤ left - n ∧ left ≤ 1000000) (hn : n ≤ 9223372036854775807) (w : World) :
    Calls Tryz.prog 35 #[.slice A n c, .int .i64 left] w fun e w' => e = .returned (.int .i64 (if (n : Int) ≤ left then left - n else -1)) ∧ w = w' := by
  by_cases h1 : (n : Int) ≤ left
  · rw [if_pos h1]
    go_enter Tryz.func35, Tryz.ntmps35
    go_wp2
    go_ret
    exact ⟨rfl, rfl⟩
  · rw [if_neg h1]
    go_enter Tryz.func35, Tryz.ntmps35
    go_wp2
    go_ret
    exact ⟨rfl, rfl⟩

theorem szLf_any (k : Lf) (c : Value) (left : Int) (h : 0 ≤ left ∧ left ≤ 1000000) (hs : k.nm.size ≤ maxLen) (w : World) (hr : RdI w c k.af) :
    Calls Tryz.prog 8 #[.agg #[.string k.nm, .int .i64 k.wt, .int .i64 k.fx, .int .i64 k.fy, .int .i64 k.tx, .int .i64 k.ty, .int .i64 k.h, .int .i64 k.dl, c], .int .i64 left] w fun e w' => e = .returned (.int .i64 (szLf k left)) ∧ Below w.heap.size w w' := by
  obtain ⟨A, cp, rfl, hl, _⟩ := RdI_slice hr
  clear hr
  unfold maxLen at hs
  unfold szLf
  obtain ⟨s, i1, i2, i3, i4, i5, i6, i7, zs⟩ := k
  dsimp only at *
  by_cases h1 : left < (s.size : Int)
  · rw [if_neg (by omega)]
    go_enter Tryz.func8, Tryz.ntmps8
    go_wp2
    go_ret
    exact ⟨rfl, by go_grown⟩
  · by_cases h2 : (s.size : Int) + (zs.length : Int) ≤ left
    · rw [if_pos h2]
      have e : (if (zs.length : Int) ≤ left - s.size then left - s.size - zs.length else -1) = left - s.size - zs.length := if_pos (by omega)
      go_enter Tryz.func8, Tryz.ntmps8
      go_wp2_with (go_at_call 35; refine ((szI_any _ _ _ _ (by omega) (by omega) _)).mono ?_; rintro e w1 ⟨rfl, rfl⟩)
      go_ret
      exact ⟨rfl, by go_grown⟩
    · rw [if_neg h2]
      go_enter Tryz.func8, Tryz.ntmps8
      go_wp2_with (go_at_call 35; refine ((szI_any _ _ _ _ (by omega) (by omega) _)).mono ?_; rintro e w1 ⟨rfl, rfl⟩)
      go_ret
      exact ⟨rfl, by go_grown⟩

theorem toI_bareR (v : Value) (zs : List Int) (w : World) (h : RdI w v zs) (hn : zs.length ≤ 1000000) :
    Calls Tryz.prog 39 #[v, .bool true] w fun e w' => ∃ v', e = .returned v' ∧ RowI w' w.heap.size w'.heap.size v' zs ∧ Below w.heap.size w w' := by
  by_cases hz : zs = []
  · subst hz
    obtain ⟨A, c, rfl, hl, _⟩ := RdI_slice h
    clear h
    go_enter Tryz.func39, Tryz.ntmps39
    go_wp2
    go_ret
    exact ⟨_, rfl, RowI_nil _ _ _, Below.refl _ _⟩
  · exact (toI_row v zs true w h hn (Or.inr hz)).mono fun e w' ⟨v', he, hc, hb⟩ => ⟨v', he, CopyI_row hc, hb⟩

theorem toLf_false (k : Lf) (c : Value) (w : World) (hr : RdI w c k.af) (hn : k.af.length ≤ 1000000) :
    Calls Tryz.prog 12 #[.agg #[.string k.nm, .int .i64 k.wt, .int .i64 k.fx, .int .i64 k.fy, .int .i64 k.tx, .int .i64 k.ty, .int .i64 k.h, .int .i64 k.dl, c], .bool false] w fun e w' => ∃ c', e = .returned (.agg #[.string k.nm, .int .i64 k.wt, .int .i64 k.fx, .int .i64 k.fy, .int .i64 k.tx, .int .i64 k.ty, .int .i64 k.h, .int .i64 k.dl, c']) ∧ CopyI w' w.heap.size w'.heap.size c' k.af ∧ Below w.heap.size w w' := by
  obtain ⟨A0, cp0, rfl, _, _⟩ := RdI_slice hr
  have H := Lib.hid hr; clear hr
  obtain ⟨s, i1, i2, i3, i4, i5, i6, i7, zs⟩ := k
  dsimp only at *
  go_enter Tryz.func12, Tryz.ntmps12
  go_wp2_with fail
  refine (toPoint_any _ _ _).mono ?_
  rintro e w1 ⟨rfl, b1⟩
  refine kept_at b1 (w.heap.size) (by go_size) fun c1_0 z1_0 s1_0 => ?_
  refine kept_at b1 (w.heap.size + 1) (by go_size) fun c1_1 z1_1 s1_1 => ?_
  refine kept_at b1 (w.heap.size + 2) (by go_size) fun c1_2 z1_2 s1_2 => ?_
  replace b1 := kept_trans (a := w) (by go_grown) b1
  have l1 := kept_cell b1
  have zz1 := b1.size
  go_wp2_with fail
  refine (toPoint_any _ _ _).mono ?_
  rintro e w2 ⟨rfl, b2⟩
  refine kept_at b2 (w.heap.size) (by go_size) fun c2_0 z2_0 s2_0 => ?_
  refine kept_at b2 (w.heap.size + 1) (by go_size) fun c2_1 z2_1 s2_1 => ?_
  refine kept_at b2 (w.heap.size + 2) (by go_size) fun c2_2 z2_2 s2_2 => ?_
  replace b2 := kept_trans (a := w) (by go_grown) b2
  have l2 := kept_cell b2
  have zz2 := b2.size
  go_wp2_with fail
  refine (toI_false _ zs _ (RdI_kept H.out (by go_grown)) hn).mono ?_
  rintro e w3 ⟨c', rfl, hc, hb3⟩
  obtain ⟨A1, cp1, rfl, _, _⟩ := RdI_slice (CopyI_rd hc)
  have HC := Lib.hid hc; clear hc
  refine kept_at hb3 (w.heap.size + 1) (by go_size) fun c3_1 z3_1 s3_1 => ?_
  refine kept_at hb3 (w.heap.size + 2) (by go_size) fun c3_2 z3_2 s3_2 => ?_
  have b3 := kept_trans (a := w) (by go_grown) hb3
  go_wp2
  (try simp only [Exit.inBlock, Exit.then])
  refine bodyPost_ret (v := .agg #[.string s, .int .i64 i1, .int .i64 i2, .int .i64 i3, .int .i64 i4, .int .i64 i5, .int .i64 i6, .int .i64 i7, .slice A1 zs.length cp1]) ?_ rfl ⟨_, rfl, ?_, ?_⟩
  · rw [results_cell1 rfl]
    go_simp
  · refine CopyI_lo (lo := w2.heap.size) ?_ (by omega) (show w3.heap.size ≤ _ by simp)
    have := HC.out
    simp only [World.size_setCell] at this
    exact CopyI_set (CopyI_set (CopyI_set (CopyI_set (CopyI_set (CopyI_set (CopyI_set (CopyI_set (CopyI_set (CopyI_set this (by omega)) (by omega)) (by omega)) (by omega)) (by omega)) (by omega)) (by omega)) (by omega)) (by omega)) (by omega)
  · go_grown

theorem toLf_true (k : Lf) (c : Value) (w : World) (hr : RdI w c k.af) (hn : k.af.length ≤ 1000000) :
    Calls Tryz.prog 12 #[.agg #[.string k.nm, .int .i64 k.wt, .int .i64 k.fx, .int .i64 k.fy, .int .i64 k.tx, .int .i64 k.ty, .int .i64 k.h, .int .i64 k.dl, c], .bool true] w fun e w' => ∃ c', e = .returned (.agg #[.string k.nm, .int .i64 k.wt, .int .i64 k.fx, .int .i64 k.fy, .int .i64 k.tx, .int .i64 k.ty, .int .i64 k.h, .int .i64 k.dl, c']) ∧ RowI w' w.heap.size w'.heap.size c' k.af ∧ Below w.heap.size w w' := by
  obtain ⟨A0, cp0, rfl, _, _⟩ := RdI_slice hr
  have H := Lib.hid hr; clear hr
  obtain ⟨s, i1, i2, i3, i4, i5, i6, i7, zs⟩ := k
  dsimp only at *
  go_enter Tryz.func12, Tryz.ntmps12
  go_wp2_with fail
  refine (toPoint_any _ _ _).mono ?_
  rintro e w1 ⟨rfl, b1⟩
  refine kept_at b1 (w.heap.size) (by go_size) fun c1_0 z1_0 s1_0 => ?_
  refine kept_at b1 (w.heap.size + 1) (by go_size) fun c1_1 z1_1 s1_1 => ?_
  refine kept_at b1 (w.heap.size + 2) (by go_size) fun c1_2 z1_2 s1_2 => ?_
  replace b1 := kept_trans (a := w) (by go_grown) b1
  have l1 := kept_cell b1
  have zz1 := b1.size
  go_wp2_with fail
  refine (toPoint_any _ _ _).mono ?_
  rintro e w2 ⟨rfl, b2⟩
  refine kept_at b2 (w.heap.size) (by go_size) fun c2_0 z2_0 s2_0 => ?_
  refine kept_at b2 (w.heap.size + 1) (by go_size) fun c2_1 z2_1 s2_1 => ?_
  refine kept_at b2 (w.heap.size + 2) (by go_size) fun c2_2 z2_2 s2_2 => ?_
  replace b2 := kept_trans (a := w) (by go_grown) b2
  have l2 := kept_cell b2
  have zz2 := b2.size
  go_wp2_with fail
  refine (toI_bareR _ zs _ (RdI_kept H.out (by go_grown)) hn).mono ?_
  rintro e w3 ⟨c', rfl, hc, hb3⟩
  obtain ⟨A1, cp1, rfl, _, _⟩ := RdI_slice (RowI_rd hc)
  have HC := Lib.hid hc; clear hc
  refine kept_at hb3 (w.heap.size + 1) (by go_size) fun c3_1 z3_1 s3_1 => ?_
  refine kept_at hb3 (w.heap.size + 2) (by go_size) fun c3_2 z3_2 s3_2 => ?_
  have b3 := kept_trans (a := w) (by go_grown) hb3
  go_wp2
  (try simp only [Exit.inBlock, Exit.then])
  refine bodyPost_ret (v := .agg #[.string s, .int .i64 i1, .int .i64 i2, .int .i64 i3, .int .i64 i4, .int .i64 i5, .int .i64 i6, .int .i64 i7, .slice A1 zs.length cp1]) ?_ rfl ⟨_, rfl, ?_, ?_⟩
  · rw [results_cell1 rfl]
    go_simp
  · refine RowI_lo (lo := w2.heap.size) ?_ (by omega) (show w3.heap.size ≤ _ by simp)
    have := HC.out
    simp only [World.size_setCell] at this
    exact RowI_set (RowI_set (RowI_set (RowI_set (RowI_set (RowI_set (RowI_set (RowI_set (RowI_set (RowI_set this (by omega)) (by omega)) (by omega)) (by omega)) (by omega)) (by omega)) (by omega)) (by omega)) (by omega)) (by omega)
  · go_grown

theorem intactLf_same (k : Lf) (c1 c2 : Value) (lo1 hi1 lo2 hi2 : Nat) (w : World) (h1 : CopyI w lo1 hi1 c1 k.af) (h2 : CopyI w lo2 hi2 c2 k.af) :
    Calls Tryz.prog 15 #[.agg #[.string k.nm, .int .i64 k.wt, .int .i64 k.fx, .int .i64 k.fy, .int .i64 k.tx, .int .i64 k.ty, .int .i64 k.h, .int .i64 k.dl, c1], .agg #[.string k.nm, .int .i64 k.wt, .int .i64 k.fx, .int .i64 k.fy, .int .i64 k.tx, .int .i64 k.ty, .int .i64 k.h, .int .i64 k.dl, c2]] w fun e w' => e = .returned (.bool true) ∧ Below w.heap.size w w' := by
  obtain ⟨A1, cp1, rfl, _, _⟩ := RdI_slice (CopyI_rd h1)
  obtain ⟨A2, cp2, rfl, _, _⟩ := RdI_slice (CopyI_rd h2)
  have H1 := Lib.hid h1; clear h1
  have H2 := Lib.hid h2; clear h2
  obtain ⟨s, i1, i2, i3, i4, i5, i6, i7, zs⟩ := k
  dsimp only at *
  go_enter Tryz.func15, Tryz.ntmps15
  go_wp2_with fail
  refine (eqPoint_same _ _ _).mono ?_
  rintro e w1 ⟨rfl, b1⟩
  refine kept_at b1 (w.heap.size) (by go_size) fun c1_0 z1_0 s1_0 => ?_
  refine kept_at b1 (w.heap.size + 1) (by go_size) fun c1_1 z1_1 s1_1 => ?_
  replace b1 := kept_trans (a := w) (by go_grown) b1
  have l1 := kept_cell b1
  have zz1 := b1.size
  go_wp2_with fail
  refine (eqPoint_same _ _ _).mono ?_
  rintro e w2 ⟨rfl, b2⟩
  refine kept_at b2 (w.heap.size) (by go_size) fun c2_0 z2_0 s2_0 => ?_
  refine kept_at b2 (w.heap.size + 1) (by go_size) fun c2_1 z2_1 s2_1 => ?_
  replace b2 := kept_trans (a := w) (by go_grown) b2
  have l2 := kept_cell b2
  have zz2 := b2.size
  go_wp2_with fail
  refine (intactI_same _ _ zs _ _ _ _ _ (CopyI_kept H1.out (by go_grown)) (CopyI_kept H2.out (by go_grown))).mono ?_
  rintro e w3 ⟨rfl, hb3⟩
  have b3 := kept_trans (a := w) (by go_grown) hb3
  go_wp2
  go_ret
  exact ⟨rfl, b3⟩

/-- Cells that read as a slice of numbers. -/
theorem open_i64C {H : Type} {enc : TypeId × Value → H} {P : Program} {W : World} {t e : TypeId} {base fuel : Nat} {sp : Nat → Bool} {held : Bool} {cs : List Value} {z : DataW H × List MemPlace}
    (ht : P.underlying t = some (.slice e)) (he : P.underlying e = some (.int .i64)) (hc : P.cellsOf e = 1) (h : DataW.trod enc P W base sp held fuel t cs = some z) :
    ∃ (v : Value) (zs : List Int), cs = [v] ∧ RdI W v zs := by
  rcases Deep.open_slice1 ht hc h with ⟨hcs, hx⟩ | ⟨a, len, cap, m, n', V, D, Pl, hcs, _, hl, hm, hmm, hx, hi⟩
  · exact ⟨_, [], hcs, rdI0' W⟩
  · have hlm : len ≤ m := by rw [hmm]; split <;> omega
    have each : ∀ i, i < len → ∃ q : Int, V i = .int .i64 q := by
      intro i hlt
      obtain ⟨_, g0⟩ := hi i (by omega)
      obtain ⟨x, e0, _, _⟩ := DataW.trod_int he g0
      simp at e0
      exact ⟨x, e0⟩
    obtain ⟨q, hq⟩ := Deep.choose_lt each
    obtain ⟨b, off, spot⟩ := a
    refine ⟨_, (List.range len).map q, hcs, by simp; unfold maxLen at hm; omega, some ⟨b, off, spot⟩, cap, by simp, fun j hj => ?_⟩
    simp only [List.length_map, List.length_range] at hj
    obtain ⟨h0, _⟩ := hi j (by omega)
    have hspot : spot = none := by simpa [Addr.add] using World.cell?_spot (hi 0 (by omega)).1
    subst hspot
    rw [add_plain, hq j hj] at h0
    exact ⟨b, off, rfl, World.block_lt_of_cell? _ _ h0, by rw [h0]; simp⟩

set_option maxRecDepth 100000 in
/-- Cells that read as a lift. -/
theorem open_liftC {H : Type} {enc : TypeId × Value → H} {W : World} {base fuel : Nat} {sp : Nat → Bool} {held : Bool} {cs : List Value} {z : DataW H × List MemPlace}
    (h : DataW.trod enc Tryz.prog W base sp held fuel 31 cs = some z) : ∃ (k : Lf) (c : Value), cs = encLf (k, c) ∧ RdI W c k.af ∧ wfLf k := by
  obtain ⟨xs, n, _, _, hl, hlen, hf⟩ := DataW.trod_struct Tryz.underlying31 h
  have hl9 : cs.length = 9 := hl.trans (by kernel_rfl)
  have h0 : DataW.trod enc Tryz.prog W base sp held n 9 ((cs.drop 0).take (Tryz.prog.cellsOf 9)) = xs[0]? := hf 0 _ rfl
  have h1 : DataW.trod enc Tryz.prog W base sp held n 2 ((cs.drop 1).take (Tryz.prog.cellsOf 2)) = xs[1]? := hf 1 _ rfl
  have h2 : DataW.trod enc Tryz.prog W base sp held n 23 ((cs.drop 2).take (Tryz.prog.cellsOf 23)) = xs[2]? := hf 2 _ rfl
  have h3 : DataW.trod enc Tryz.prog W base sp held n 23 ((cs.drop 4).take (Tryz.prog.cellsOf 23)) = xs[3]? := hf 3 _ rfl
  have h4 : DataW.trod enc Tryz.prog W base sp held n 2 ((cs.drop 6).take (Tryz.prog.cellsOf 2)) = xs[4]? := hf 4 _ rfl
  have h5 : DataW.trod enc Tryz.prog W base sp held n 2 ((cs.drop 7).take (Tryz.prog.cellsOf 2)) = xs[5]? := hf 5 _ rfl
  have h6 : DataW.trod enc Tryz.prog W base sp held n 29 ((cs.drop 8).take (Tryz.prog.cellsOf 29)) = xs[6]? := hf 6 _ rfl
  have z0 : Tryz.prog.cellsOf 9 = 1 := by kernel_rfl
  have z1 : Tryz.prog.cellsOf 23 = 2 := by kernel_rfl
  have z2 : Tryz.prog.cellsOf 2 = 1 := by kernel_rfl
  have z3 : Tryz.prog.cellsOf 29 = 1 := by kernel_rfl
  match cs, hl9 with
  | [c0, c1, c2, c3, c4, c5, c6, c7, c8], _ =>
    have i0 : xs[0]? = some (xs[0]'(by rw [hlen]; decide)) := List.getElem?_eq_getElem _
    have i1 : xs[1]? = some (xs[1]'(by rw [hlen]; decide)) := List.getElem?_eq_getElem _
    have i2 : xs[2]? = some (xs[2]'(by rw [hlen]; decide)) := List.getElem?_eq_getElem _
    have i3 : xs[3]? = some (xs[3]'(by rw [hlen]; decide)) := List.getElem?_eq_getElem _
    have i4 : xs[4]? = some (xs[4]'(by rw [hlen]; decide)) := List.getElem?_eq_getElem _
    have i5 : xs[5]? = some (xs[5]'(by rw [hlen]; decide)) := List.getElem?_eq_getElem _
    have i6 : xs[6]? = some (xs[6]'(by rw [hlen]; decide)) := List.getElem?_eq_getElem _
    simp only [i0, i1, i2, i3, i4, i5, i6, z0, z1, z2, z3, List.drop_succ_cons, List.drop_zero, List.take_succ_cons, List.take_zero] at h0 h1 h2 h3 h4 h5 h6
    obtain ⟨s, e0, _, ws⟩ := DataW.trod_string Tryz.underlying9 h0
    obtain ⟨a1, e1, _, w1⟩ := DataW.trod_int Tryz.underlying2 h1
    obtain ⟨Y0p, Y1p, mp, _, _, p0', p1'⟩ := trod_struct2 Tryz.underlying23 h2
    have p0 : DataW.trod enc Tryz.prog W base sp held mp 2 (([c2, c3].drop 0).take (Tryz.prog.cellsOf 2)) = some Y0p := p0'
    have p1 : DataW.trod enc Tryz.prog W base sp held mp 2 (([c2, c3].drop 1).take (Tryz.prog.cellsOf 2)) = some Y1p := p1'
    simp only [z2, List.drop_succ_cons, List.drop_zero, List.take_succ_cons, List.take_zero] at p0 p1
    obtain ⟨Y0q, Y1q, mq, _, _, q0', q1'⟩ := trod_struct2 Tryz.underlying23 h3
    have q0 : DataW.trod enc Tryz.prog W base sp held mq 2 (([c4, c5].drop 0).take (Tryz.prog.cellsOf 2)) = some Y0q := q0'
    have q1 : DataW.trod enc Tryz.prog W base sp held mq 2 (([c4, c5].drop 1).take (Tryz.prog.cellsOf 2)) = some Y1q := q1'
    simp only [z2, List.drop_succ_cons, List.drop_zero, List.take_succ_cons, List.take_zero] at q0 q1
    obtain ⟨a2, e2, _, w2⟩ := DataW.trod_int Tryz.underlying2 p0
    obtain ⟨a3, e3, _, w3⟩ := DataW.trod_int Tryz.underlying2 p1
    obtain ⟨a4, e4, _, w4⟩ := DataW.trod_int Tryz.underlying2 q0
    obtain ⟨a5, e5, _, w5⟩ := DataW.trod_int Tryz.underlying2 q1
    obtain ⟨a6, e6, _, w6⟩ := DataW.trod_int Tryz.underlying2 h4
    obtain ⟨a7, e7, _, w7⟩ := DataW.trod_int Tryz.underlying2 h5
    obtain ⟨c, zs, e8, hr⟩ := open_i64C Tryz.underlying29 Tryz.underlying2 (by kernel_rfl) h6
    simp only [List.cons.injEq, and_true] at e0 e1 e2 e3 e4 e5 e6 e7 e8
    subst e0 e1 e2 e3 e4 e5 e6 e7 e8
    exact ⟨⟨s, a1, a2, a3, a4, a5, a6, a7, zs⟩, _, rfl, hr, ws, w1, w2, w3, w4, w5, w6, w7⟩

set_option maxRecDepth 100000 in
theorem open_lift {H : Type} {enc : TypeId × Value → H} {W : World} {base : Nat} {v : Value} {d : DataW H} {p : List MemPlace}
    (hv : Value.okWide Tryz.prog W .any base 31 v) (h : DataW.Trod enc Tryz.prog W 0 (fun _ => true) true 31 v d p) :
    ∃ (k : Lf) (c : Value), v = .agg #[.string k.nm, .int .i64 k.wt, .int .i64 k.fx, .int .i64 k.fy, .int .i64 k.tx, .int .i64 k.ty, .int .i64 k.h, .int .i64 k.dl, c] ∧ RdI W c k.af ∧ wfLf k := by
  obtain ⟨cs, rfl, hsz⟩ := okWide_struct Tryz.underlying31 hv
  obtain ⟨fuel, hf⟩ := h
  obtain ⟨k, c, e, hr, wk⟩ := open_liftC (by simpa [Value.cells] using hf)
  refine ⟨k, c, ?_, hr, wk⟩
  rw [show cs = #[.string k.nm, .int .i64 k.wt, .int .i64 k.fx, .int .i64 k.fy, .int .i64 k.tx, .int .i64 k.ty, .int .i64 k.h, .int .i64 k.dl, c] from Array.toList_inj.1 (by rw [e]; rfl)]

/-- The first m numbers rise strictly, from 0 to less than n. -/
def RisesP (zs : List Int) (n : Int) (m : Nat) : Prop := ∀ i (h : i < zs.length), i < m → (0 ≤ zs[i] ∧ zs[i] ≤ n - 1) ∧ ∀ _ : 0 < i, zs[i - 1] < zs[i]

open Classical in
noncomputable def risesB (zs : List Int) (n : Int) : Bool := decide (RisesP zs n zs.length)

theorem risesB_true {zs : List Int} {n : Int} (h : RisesP zs n zs.length) : risesB zs n = true := by simp [risesB, h]

theorem risesB_false {zs : List Int} {n : Int} (h : ¬ RisesP zs n zs.length) : risesB zs n = false := by simp [risesB, h]

theorem RisesP_step {zs : List Int} {n : Int} {m : Nat} (h : RisesP zs n m) (hm : m < zs.length) (h1 : 0 ≤ zs[m] ∧ zs[m] ≤ n - 1) (h2 : ∀ _ : 0 < m, zs[m - 1] < zs[m]) : RisesP zs n (m + 1) := by
  intro i hi hlt
  rcases Nat.lt_or_ge i m with h3 | h3
  · exact h i hi h3
  · obtain rfl : i = m := by omega
    exact ⟨h1, h2⟩

/-- The fields of a lift, but After, are valid. -/
noncomputable def fldB (k : Lf) : Bool := nameB k.nm && (inB k.wt 1 50000 && (okP k.fx k.fy && (okP k.tx k.ty && (inB k.h 0 2000 && inB k.dl 1 1000000))))

/-- The lift with an index is valid, but for its name's being taken. -/
noncomputable def oneB (k : Lf) (i : Int) : Bool := fldB k && risesB k.af i

theorem same_below {P : Program} {f : FuncId} {args : Array Value} {w : World} {v : Ending} (h : Calls P f args w fun e w' => e = v ∧ w = w') : Calls P f args w fun e w' => e = v ∧ Below w.heap.size w w' :=
  h.mono fun _ _ ⟨h1, h2⟩ => ⟨h1, by rw [← h2]; exact Below.refl _ _⟩

theorem specRises_any (v : Value) (zs : List Int) (n : Int) (hn : 0 ≤ n ∧ n ≤ 1000000) (w : World) (h : RdI w v zs) :
    Calls Tryz.prog 125 #[v, .int .i64 n] w fun e w' => e = .returned (.bool (risesB zs n)) ∧ Below w.heap.size w w' := by
  obtain ⟨A, c, rfl, hl, r1⟩ := RdI_slice h
  clear h
  have R := Lib.hid r1; clear r1
  have HBAD := Lib.hid (fun i (hi : i < zs.length) (hno : ¬ ((0 ≤ zs[i] ∧ zs[i] ≤ n - 1) ∧ ∀ _ : 0 < i, zs[i - 1] < zs[i])) => risesB_false (n := n) (fun hp => hno (hp i hi hi)))
  have HEND := Lib.hid (fun h => risesB_true (zs := zs) (n := n) h)
  generalize risesB zs n = G at *
  go_enter Tryz.func125, Tryz.ntmps125
  go_wp2_with fail
  go_loopw [5] (fun i wr => ∃ m : Nat, m ≤ zs.length ∧ i = .int .i64 (m : Int) ∧ RisesP zs n m ∧ Below w.heap.size w wr) (fun i _ => zs.length - (intOf i).toNat)
  case atStart => exact ⟨0, by omega, rfl, fun i _ h => by omega, Below.refl _ _⟩
  case round =>
    obtain ⟨m, hm, rfl, hrp, hb⟩ := hrel
    by_cases hlt : m < zs.length
    · obtain ⟨b, off, rfl, hbl, hc⟩ := R.out m hlt
      rw [← kept_cell hb b _ hbl] at hc
      have hbad := HBAD.out m hlt
      have hnx := RisesP_step hrp hlt
      have hwb := fun u => same_below (in_any zs[m] 0 (n - 1) u)
      have hblw : b < wr.heap.size := Nat.lt_of_lt_of_le hbl hb.size
      have fc := fun x : BelowBy wr => (kept_cell x.h b (off + m) hblw).trans hc
      by_cases h1 : 0 ≤ zs[m] ∧ zs[m] ≤ n - 1
      · have hin : inB zs[m] 0 (n - 1) = true := by simp [inB, h1]
        rw [hin] at hwb
        have HW := Lib.hid hwb; clear hwb hin
        by_cases h0 : 0 < m
        · obtain ⟨b', off', e', hbl', hc'⟩ := R.out (m - 1) (by omega)
          cases e'
          rw [← kept_cell hb b _ hbl'] at hc'
          rw [show off + (m - 1) = off + m - 1 by omega] at hc'
          have fd := fun x : BelowBy wr => (kept_cell x.h b (off + m - 1) hblw).trans hc'
          have hm1 : ((m : Int) - 1).toNat = m - 1 := by omega
          have hm2 : off + (m - 1) = off + m - 1 := by omega
          by_cases h2 : zs[m - 1] < zs[m]
          · have HNX := Lib.hid (hnx h1 (fun _ => h2)); clear hnx hbad hrp
            have h3 : ¬ zs[m] ≤ zs[m - 1] := by omega
            clear h1 h2
            generalize zs[m - 1] = y at *
            generalize zs[m] = x at *
            go_wp2_with fail
            refine wp_region_below (by kernel_rfl) (by kernel_rfl) ?_
            repeat (go_big_quiet_step ((go_at_call 78; exact below_call (fun _ => HW.out _))))
            refine wpQuiet_nil ?_
            intro wq hw'
            obtain ⟨⟨_, hbq⟩, hwq⟩ := hw'
            subst hwq
            (try dsimp only)
            go_wp2
            go_roundw
            case rel => exact ⟨m + 1, by omega, by go_num, HNX.out, kept_trans hb hbq⟩
            case measure => simp [intOf]; omega
          · have hG := hbad (fun hx => h2 (hx.2 h0))
            clear hbad hnx hrp
            have h3 : zs[m] ≤ zs[m - 1] := by omega
            subst hG
            clear h1 h2
            generalize zs[m - 1] = y at *
            generalize zs[m] = x at *
            go_wp2_with fail
            refine wp_region_below (by kernel_rfl) (by kernel_rfl) ?_
            repeat (go_big_quiet_step ((go_at_call 78; exact below_call (fun _ => HW.out _))))
            refine wpQuiet_nil ?_
            intro wq hw'
            obtain ⟨⟨_, hbq⟩, hwq⟩ := hw'
            subst hwq
            (try dsimp only)
            go_wp2
            go_ret
            exact ⟨rfl, kept_trans hb hbq⟩
        · have HNX := Lib.hid (hnx h1 (fun h => absurd h h0)); clear hnx hbad hrp
          have hm0 : m = 0 := by omega
          subst hm0
          clear h1
          generalize zs[0] = x at *
          have fd := fun u : BelowBy wr => (show u.w.cell? ⟨b, off, none⟩ = some (.int .i64 x) from fc u)
          clear fc
          go_wp2_with fail
          refine wp_region_below (by kernel_rfl) (by kernel_rfl) ?_
          repeat (go_big_quiet_step ((go_at_call 78; exact below_call (fun _ => HW.out _))))
          refine wpQuiet_nil ?_
          intro wq hw'
          obtain ⟨⟨_, hbq⟩, hwq⟩ := hw'
          subst hwq
          (try dsimp only)
          go_wp2
          go_roundw
          case rel => exact ⟨1, by omega, by go_num, HNX.out, kept_trans hb hbq⟩
          case measure => simp [intOf]; omega
      · have hG := hbad (fun hx => h1 hx.1)
        clear hbad hnx hrp
        subst hG
        have hin : inB zs[m] 0 (n - 1) = false := by simp [inB]; omega
        rw [hin] at hwb
        have HW := Lib.hid hwb; clear hwb hin h1
        generalize zs[m] = x at *
        go_wp2_with fail
        refine wp_region_below (by kernel_rfl) (by kernel_rfl) ?_
        repeat (go_big_quiet_step ((go_at_call 78; exact below_call (fun _ => HW.out _))))
        refine wpQuiet_nil ?_
        intro wq hw'
        obtain ⟨⟨_, hbq⟩, hwq⟩ := hw'
        subst hwq
        (try dsimp only)
        go_wp2
        go_ret
        exact ⟨rfl, kept_trans hb hbq⟩
    · have : m = zs.length := by omega
      subst this
      have hE := HEND.out hrp
      clear hrp
      subst hE
      go_wp2
      go_ret
      exact ⟨rfl, hb⟩

set_option maxHeartbeats 4000000 in
theorem specOne_any (b o : Nat) (k : Lf) (c : Value) (i : Int) (hi : 0 ≤ i ∧ i ≤ 1000000) (w : World) (h : LfAt w b o k c) (hs : k.nm.size ≤ 1000000) :
    Calls Tryz.prog 97 #[.pointer (some ⟨b, o, none⟩), .int .i64 i] w fun e w' => e = .returned (.bool (oneB k i)) ∧ Below w.heap.size w w' := by
  obtain ⟨hb, ⟨c0, c1, c2, c3, c4, c5, c6, c7, c8⟩, hr⟩ := h
  obtain ⟨A, cp, rfl, hl, _⟩ := RdI_slice hr
  have H := Lib.hid hr; clear hr
  have HN := Lib.hid (fun u => specIsName_any k.nm u hs)
  have HR := Lib.hid (fun u (q : RdI u (.slice A k.af.length cp) k.af) => specRises_any _ _ i hi u q)
  unfold oneB fldB
  obtain ⟨s, i1, i2, i3, i4, i5, i6, i7, zs⟩ := k
  dsimp only at *
  have HC := Lib.hid (show ∀ u, Below w.heap.size w u → u.cell? ⟨b, o + 4, none⟩ = some (.int .i64 i4) ∧ u.cell? ⟨b, o + 5, none⟩ = some (.int .i64 i5) ∧ u.cell? ⟨b, o + 6, none⟩ = some (.int .i64 i6) ∧ u.cell? ⟨b, o + 7, none⟩ = some (.int .i64 i7) ∧ u.cell? ⟨b, o + 8, none⟩ = some (.slice A zs.length cp) from
    fun u q => ⟨by rw [kept_cell q b _ hb]; exact c4, by rw [kept_cell q b _ hb]; exact c5, by rw [kept_cell q b _ hb]; exact c6, by rw [kept_cell q b _ hb]; exact c7, by rw [kept_cell q b _ hb]; exact c8⟩)
  have HP := fun u => specOk_any i2 i3 u
  have HQ := fun u => specOk_any i4 i5 u
  have HI := fun u => in_any i1 1 50000 u
  have HJ := fun u => in_any i6 0 2000 u
  have HK := fun u => in_any i7 1 1000000 u
  generalize inB i1 1 50000 = p2 at *
  generalize okP i2 i3 = p3 at *
  generalize okP i4 i5 = p4 at *
  generalize inB i6 0 2000 = p5 at *
  generalize inB i7 1 1000000 = p6 at *
  generalize nameB s = p1 at *
  generalize risesB zs i = p7 at *
  have HP := Lib.hid HP
  have HQ := Lib.hid HQ
  have HI := Lib.hid HI
  have HJ := Lib.hid HJ
  have HK := Lib.hid HK
  clear c4 c5 c6 c7 c8
  by_cases hF : (p1 && p2 && p3) = true
  case neg =>
    rw [show (p1 && (p2 && (p3 && (p4 && (p5 && p6)))) && p7) = false by cases p1 <;> cases p2 <;> cases p3 <;> simp_all]
    cases p1
    all_goals (try (cases p2))
    all_goals (try (cases p3))
    all_goals (try (exact absurd rfl hF))
    all_goals
      clear hF HC HJ HK HR
      go_enter Tryz.func97, Tryz.ntmps97
      go_wp2_with (first | (go_at_call 122; refine (HN.out _).mono ?_; rintro e w1 ⟨rfl, rfl⟩) | (go_at_call 78; refine (HI.out _).mono ?_; rintro e w1 ⟨rfl, rfl⟩) | (go_at_call 43; refine (HP.out _).mono ?_; rintro e w1 ⟨rfl, hb1⟩))
      go_ret
      first | exact ⟨rfl, by assumption⟩ | exact ⟨rfl, Below.refl _ _⟩
  case pos =>
    simp only [Bool.and_eq_true] at hF
    obtain ⟨⟨rfl, rfl⟩, rfl⟩ := hF
    simp only [Bool.true_and]
    cases p4
    case false =>
      go_enter Tryz.func97, Tryz.ntmps97
      go_wp2_with (first | (go_at_call 122; refine (HN.out _).mono ?_; rintro e w1 ⟨rfl, rfl⟩) | (go_at_call 78; refine (HI.out _).mono ?_; rintro e w1 ⟨rfl, rfl⟩))
      refine (HP.out _).mono ?_
      rintro e w1 ⟨rfl, b1⟩
      obtain ⟨c4, c5, c6, c7, c8⟩ := HC.out _ b1
      go_wp2_with fail
      refine (HQ.out _).mono ?_
      rintro e w2 ⟨rfl, b2⟩
      go_wp2
      go_ret
      exact ⟨rfl, kept_trans b1 b2⟩
    case true =>
    cases p5
    · simp only [Bool.false_and]
      go_enter Tryz.func97, Tryz.ntmps97
      go_wp2_with (first | (go_at_call 122; refine (HN.out _).mono ?_; rintro e w1 ⟨rfl, rfl⟩) | (go_at_call 78; refine (HI.out _).mono ?_; rintro e w1 ⟨rfl, rfl⟩))
      refine (HP.out _).mono ?_
      rintro e w1 ⟨rfl, b1⟩
      obtain ⟨c4, c5, c6, c7, c8⟩ := HC.out _ b1
      go_wp2_with fail
      refine (HQ.out _).mono ?_
      rintro e w2 ⟨rfl, b2⟩
      replace b2 := kept_trans b1 b2
      obtain ⟨_, _, d6, d7, d8⟩ := HC.out _ b2
      clear c4 c5 c6 c7 c8
      go_wp2_with fail
      refine (HJ.out _).mono ?_
      rintro e w0 ⟨rfl, rfl⟩
      go_wp2
      go_ret
      exact ⟨rfl, b2⟩
    cases p6
    · simp only [Bool.false_and, Bool.true_and]
      go_enter Tryz.func97, Tryz.ntmps97
      go_wp2_with (first | (go_at_call 122; refine (HN.out _).mono ?_; rintro e w1 ⟨rfl, rfl⟩) | (go_at_call 78; refine (HI.out _).mono ?_; rintro e w1 ⟨rfl, rfl⟩))
      refine (HP.out _).mono ?_
      rintro e w1 ⟨rfl, b1⟩
      obtain ⟨c4, c5, c6, c7, c8⟩ := HC.out _ b1
      go_wp2_with fail
      refine (HQ.out _).mono ?_
      rintro e w2 ⟨rfl, b2⟩
      replace b2 := kept_trans b1 b2
      obtain ⟨_, _, d6, d7, d8⟩ := HC.out _ b2
      clear c4 c5 c6 c7 c8
      go_wp2_with fail
      refine (HJ.out _).mono ?_
      rintro e w0 ⟨rfl, rfl⟩
      go_wp2_with fail
      refine (HK.out _).mono ?_
      rintro e w0 ⟨rfl, rfl⟩
      go_wp2
      go_ret
      exact ⟨rfl, b2⟩
    · simp only [Bool.true_and]
      go_enter Tryz.func97, Tryz.ntmps97
      go_wp2_with (first | (go_at_call 122; refine (HN.out _).mono ?_; rintro e w1 ⟨rfl, rfl⟩) | (go_at_call 78; refine (HI.out _).mono ?_; rintro e w1 ⟨rfl, rfl⟩))
      refine (HP.out _).mono ?_
      rintro e w1 ⟨rfl, b1⟩
      obtain ⟨c4, c5, c6, c7, c8⟩ := HC.out _ b1
      go_wp2_with fail
      refine (HQ.out _).mono ?_
      rintro e w2 ⟨rfl, b2⟩
      replace b2 := kept_trans b1 b2
      obtain ⟨_, _, d6, d7, d8⟩ := HC.out _ b2
      clear c4 c5 c6 c7 c8
      go_wp2_with fail
      refine (HJ.out _).mono ?_
      rintro e w0 ⟨rfl, rfl⟩
      go_wp2_with fail
      refine (HK.out _).mono ?_
      rintro e w0 ⟨rfl, rfl⟩
      go_wp2_with fail
      refine (HR.out _ (RdI_kept H.out b2)).mono ?_
      rintro e w3 ⟨rfl, b3⟩
      go_wp2
      go_ret
      exact ⟨rfl, kept_trans b2 b3⟩

theorem within1_any (lo hi n : Int) (g c : Nat) (w : World) (hg : g < w.heap.size) (h0 : w.cell? ⟨g, 0, none⟩ = some (.int .i64 n)) :
    Calls Tryz.prog 88 #[.int .i64 lo, .int .i64 hi, .slice (some ⟨g, 0, none⟩) 1 c] w fun e w' => e = .returned (.bool (inB n lo hi)) ∧ Below w.heap.size w w' := by
  have H := within_any lo hi _ [n] w (rdI1 (c := c) hg h0)
  rwa [show ([n].all fun n => inB n lo hi) = inB n lo hi by simp] at H

/-- One more than the number before a place; 0 at the start. -/
def lastU (zs : List Int) (m : Nat) : Int := if m = 0 then 0 else (zs[m - 1]?).getD 0 + 1

theorem lastU_in {zs : List Int} {k : Int} {m : Nat} (hr : RisesP zs k m) (hm : m < zs.length) : inB zs[m] (lastU zs m) (k - 1) = true ↔ (0 ≤ zs[m] ∧ zs[m] ≤ k - 1) ∧ ∀ _ : 0 < m, zs[m - 1] < zs[m] := by
  unfold lastU
  by_cases h0 : m = 0
  · subst h0
    simp [inB]
  · have h1 := (hr (m - 1) (by omega) (by omega)).1
    have hm0 : 0 < m := by omega
    rw [if_neg h0, List.getElem?_eq_getElem (by omega)]
    simp only [Option.getD_some, inB, Bool.and_eq_true, decide_eq_true_eq]
    constructor
    · intro h
      exact ⟨⟨by omega, by omega⟩, fun _ => by omega⟩
    · rintro ⟨⟨_, h2⟩, h3⟩
      have := h3 hm0
      exact ⟨by omega, h2⟩

theorem lastU_step {zs : List Int} {m : Nat} (hm : m < zs.length) : lastU zs (m + 1) = zs[m] + 1 := by
  simp [lastU, hm]

theorem implAfter_any (v : Value) (zs : List Int) (k : Int) (hk : 0 ≤ k ∧ k ≤ 1000000) (w : World) (h : RdI w v zs) :
    Calls Tryz.prog 116 #[v, .int .i64 k] w fun e w' => e = .returned (.bool (risesB zs k)) ∧ Below w.heap.size w w' := by
  obtain ⟨A, c, rfl, hl, r1⟩ := RdI_slice h
  clear h
  have R := Lib.hid r1; clear r1
  have HBAD := Lib.hid (fun i (hi : i < zs.length) (hno : ¬ ((0 ≤ zs[i] ∧ zs[i] ≤ k - 1) ∧ ∀ _ : 0 < i, zs[i - 1] < zs[i])) => risesB_false (n := k) (fun hp => hno (hp i hi hi)))
  have HEND := Lib.hid (fun h => risesB_true (zs := zs) (n := k) h)
  generalize risesB zs k = G at *
  go_enter Tryz.func116, Tryz.ntmps116
  go_wp2_with fail
  go_loopw [5, 10] (fun l i wr => ∃ m : Nat, m ≤ zs.length ∧ i = .int .i64 (m : Int) ∧ l = .int .i64 (lastU zs m) ∧ RisesP zs k m ∧ Below w.heap.size w wr) (fun _ i _ => zs.length - (intOf i).toNat)
  case atStart => exact ⟨0, by omega, rfl, rfl, fun i _ h => by omega, Below.refl _ _⟩
  case round =>
    obtain ⟨m, hm, rfl, rfl, hrp, hb⟩ := hrel
    by_cases hlt : m < zs.length
    · obtain ⟨b, off, rfl, hbl, hc⟩ := R.out m hlt
      rw [← kept_cell hb b _ hbl] at hc
      have hbad := HBAD.out m hlt
      have hnx := RisesP_step hrp hlt
      have hin := lastU_in hrp hlt
      have hst := lastU_step hlt
      have hW := fun (g : Nat) (u : World) (q1 : g < u.heap.size) (q2 : u.cell? ⟨g, 0, none⟩ = some (.int .i64 zs[m])) => within1_any (lastU zs m) (k - 1) zs[m] g 1 u q1 q2
      clear hrp
      have HST := Lib.hid hst; clear hst
      generalize lastU zs m = l at *
      cases hI : inB zs[m] l (k - 1)
      · rw [hI] at hin hW
        have hG := hbad (fun hx => by cases hin.2 hx)
        subst hG
        have HW := Lib.hid hW; clear hW hin hbad hnx hI
        generalize zs[m] = x at *
        go_wp2_with fail
        refine (HW.out _ _ (by go_size) (by go_simp)).mono ?_
        rintro e w1 ⟨rfl, hb1⟩
        have b1 := kept_trans (a := wr) (by go_grown) hb1
        go_wp2
        go_ret
        exact ⟨rfl, kept_trans hb b1⟩
      · rw [hI] at hin hW
        have hp := hin.1 rfl
        have HNX := Lib.hid (hnx hp.1 hp.2)
        have hxb := hp.1
        have HW := Lib.hid hW; clear hW hin hbad hnx hI hp
        generalize zs[m] = x at *
        go_wp2_with fail
        refine (HW.out _ _ (by go_size) (by go_simp)).mono ?_
        rintro e w1 ⟨rfl, hb1⟩
        have b1 := kept_trans (a := wr) (by go_grown) hb1
        go_wp2
        go_roundw
        case rel => exact ⟨m + 1, by omega, by go_num, by rw [HST.out], HNX.out, kept_trans hb b1⟩
        case measure => simp [intOf]; omega
    · have : m = zs.length := by omega
      subst this
      have hE := HEND.out hrp
      clear hrp
      subst hE
      go_wp2
      go_ret
      exact ⟨rfl, hb⟩

set_option maxHeartbeats 4000000 in
theorem implOne_any (k : Lf) (c : Value) (i : Int) (hi : 0 ≤ i ∧ i ≤ 1000000) (w : World) (hr : RdI w c k.af) (hs : k.nm.size ≤ 1000000) :
    Calls Tryz.prog 89 #[.agg #[.string k.nm, .int .i64 k.wt, .int .i64 k.fx, .int .i64 k.fy, .int .i64 k.tx, .int .i64 k.ty, .int .i64 k.h, .int .i64 k.dl, c], .int .i64 i] w fun e w' => e = .returned (.bool (oneB k i)) ∧ Below w.heap.size w w' := by
  obtain ⟨A, cp, rfl, hl, _⟩ := RdI_slice hr
  have H := Lib.hid hr; clear hr
  have HN := Lib.hid (fun u => implIsName_any k.nm u hs)
  have HR := Lib.hid (fun u (q : RdI u (.slice A k.af.length cp) k.af) => implAfter_any _ _ i hi u q)
  unfold oneB fldB
  obtain ⟨s, i1, i2, i3, i4, i5, i6, i7, zs⟩ := k
  dsimp only at *
  have HP := fun u => validPlace_any i2 i3 u
  have HQ := fun u => validPlace_any i4 i5 u
  have HI := fun g u q1 q2 => within1_any 1 50000 i1 g 1 u q1 q2
  have HJ := fun u => validHeight_any i6 u
  have HK := fun g u q1 q2 => within1_any 1 1000000 i7 g 1 u q1 q2
  generalize inB i1 1 50000 = p2 at *
  generalize okP i2 i3 = p3 at *
  generalize okP i4 i5 = p4 at *
  generalize inB i6 0 2000 = p5 at *
  generalize inB i7 1 1000000 = p6 at *
  generalize nameB s = p1 at *
  generalize risesB zs i = p7 at *
  have HP := Lib.hid HP
  have HQ := Lib.hid HQ
  have HI := Lib.hid HI
  have HJ := Lib.hid HJ
  have HK := Lib.hid HK
  cases p1
  · go_enter Tryz.func89, Tryz.ntmps89
    go_wp2_with fail
    refine (HN.out _).mono ?_
    rintro e w1 ⟨rfl, b1⟩
    refine kept_at b1 (w.heap.size) (by go_size) fun c1_0 z1_0 s1_0 => ?_
    replace b1 := kept_trans (a := w) (by go_grown) b1
    have l1 := kept_cell b1
    have zz1 := b1.size
    go_wp2
    go_ret
    exact ⟨rfl, b1⟩
  cases p2
  · go_enter Tryz.func89, Tryz.ntmps89
    go_wp2_with fail
    refine (HN.out _).mono ?_
    rintro e w1 ⟨rfl, b1⟩
    refine kept_at b1 (w.heap.size) (by go_size) fun c1_0 z1_0 s1_0 => ?_
    replace b1 := kept_trans (a := w) (by go_grown) b1
    have l1 := kept_cell b1
    have zz1 := b1.size
    go_wp2_with fail
    refine (HI.out _ _ (by go_size) (by go_simp)).mono ?_
    rintro e w2 ⟨rfl, b2⟩
    refine kept_at b2 (w.heap.size) (by go_size) fun c2_0 z2_0 s2_0 => ?_
    replace b2 := kept_trans (a := w) (by go_grown) b2
    have l2 := kept_cell b2
    have zz2 := b2.size
    go_wp2
    go_ret
    exact ⟨rfl, b2⟩
  cases p3
  · go_enter Tryz.func89, Tryz.ntmps89
    go_wp2_with fail
    refine (HN.out _).mono ?_
    rintro e w1 ⟨rfl, b1⟩
    refine kept_at b1 (w.heap.size) (by go_size) fun c1_0 z1_0 s1_0 => ?_
    replace b1 := kept_trans (a := w) (by go_grown) b1
    have l1 := kept_cell b1
    have zz1 := b1.size
    go_wp2_with fail
    refine (HI.out _ _ (by go_size) (by go_simp)).mono ?_
    rintro e w2 ⟨rfl, b2⟩
    refine kept_at b2 (w.heap.size) (by go_size) fun c2_0 z2_0 s2_0 => ?_
    replace b2 := kept_trans (a := w) (by go_grown) b2
    have l2 := kept_cell b2
    have zz2 := b2.size
    go_wp2_with fail
    refine (HP.out _).mono ?_
    rintro e w3 ⟨rfl, b3⟩
    refine kept_at b3 (w.heap.size) (by go_size) fun c3_0 z3_0 s3_0 => ?_
    replace b3 := kept_trans (a := w) (by go_grown) b3
    have l3 := kept_cell b3
    have zz3 := b3.size
    go_wp2
    go_ret
    exact ⟨rfl, b3⟩
  cases p4
  · go_enter Tryz.func89, Tryz.ntmps89
    go_wp2_with fail
    refine (HN.out _).mono ?_
    rintro e w1 ⟨rfl, b1⟩
    refine kept_at b1 (w.heap.size) (by go_size) fun c1_0 z1_0 s1_0 => ?_
    replace b1 := kept_trans (a := w) (by go_grown) b1
    have l1 := kept_cell b1
    have zz1 := b1.size
    go_wp2_with fail
    refine (HI.out _ _ (by go_size) (by go_simp)).mono ?_
    rintro e w2 ⟨rfl, b2⟩
    refine kept_at b2 (w.heap.size) (by go_size) fun c2_0 z2_0 s2_0 => ?_
    replace b2 := kept_trans (a := w) (by go_grown) b2
    have l2 := kept_cell b2
    have zz2 := b2.size
    go_wp2_with fail
    refine (HP.out _).mono ?_
    rintro e w3 ⟨rfl, b3⟩
    refine kept_at b3 (w.heap.size) (by go_size) fun c3_0 z3_0 s3_0 => ?_
    replace b3 := kept_trans (a := w) (by go_grown) b3
    have l3 := kept_cell b3
    have zz3 := b3.size
    go_wp2_with fail
    refine (HQ.out _).mono ?_
    rintro e w4 ⟨rfl, b4⟩
    refine kept_at b4 (w.heap.size) (by go_size) fun c4_0 z4_0 s4_0 => ?_
    replace b4 := kept_trans (a := w) (by go_grown) b4
    have l4 := kept_cell b4
    have zz4 := b4.size
    go_wp2
    go_ret
    exact ⟨rfl, b4⟩
  cases p5
  · go_enter Tryz.func89, Tryz.ntmps89
    go_wp2_with fail
    refine (HN.out _).mono ?_
    rintro e w1 ⟨rfl, b1⟩
    refine kept_at b1 (w.heap.size) (by go_size) fun c1_0 z1_0 s1_0 => ?_
    replace b1 := kept_trans (a := w) (by go_grown) b1
    have l1 := kept_cell b1
    have zz1 := b1.size
    go_wp2_with fail
    refine (HI.out _ _ (by go_size) (by go_simp)).mono ?_
    rintro e w2 ⟨rfl, b2⟩
    refine kept_at b2 (w.heap.size) (by go_size) fun c2_0 z2_0 s2_0 => ?_
    replace b2 := kept_trans (a := w) (by go_grown) b2
    have l2 := kept_cell b2
    have zz2 := b2.size
    go_wp2_with fail
    refine (HP.out _).mono ?_
    rintro e w3 ⟨rfl, b3⟩
    refine kept_at b3 (w.heap.size) (by go_size) fun c3_0 z3_0 s3_0 => ?_
    replace b3 := kept_trans (a := w) (by go_grown) b3
    have l3 := kept_cell b3
    have zz3 := b3.size
    go_wp2_with fail
    refine (HQ.out _).mono ?_
    rintro e w4 ⟨rfl, b4⟩
    refine kept_at b4 (w.heap.size) (by go_size) fun c4_0 z4_0 s4_0 => ?_
    replace b4 := kept_trans (a := w) (by go_grown) b4
    have l4 := kept_cell b4
    have zz4 := b4.size
    go_wp2_with fail
    refine (HJ.out _).mono ?_
    rintro e w0 ⟨rfl, rfl⟩
    go_wp2
    go_ret
    exact ⟨rfl, b4⟩
  cases p6
  · go_enter Tryz.func89, Tryz.ntmps89
    go_wp2_with fail
    refine (HN.out _).mono ?_
    rintro e w1 ⟨rfl, b1⟩
    refine kept_at b1 (w.heap.size) (by go_size) fun c1_0 z1_0 s1_0 => ?_
    replace b1 := kept_trans (a := w) (by go_grown) b1
    have l1 := kept_cell b1
    have zz1 := b1.size
    go_wp2_with fail
    refine (HI.out _ _ (by go_size) (by go_simp)).mono ?_
    rintro e w2 ⟨rfl, b2⟩
    refine kept_at b2 (w.heap.size) (by go_size) fun c2_0 z2_0 s2_0 => ?_
    replace b2 := kept_trans (a := w) (by go_grown) b2
    have l2 := kept_cell b2
    have zz2 := b2.size
    go_wp2_with fail
    refine (HP.out _).mono ?_
    rintro e w3 ⟨rfl, b3⟩
    refine kept_at b3 (w.heap.size) (by go_size) fun c3_0 z3_0 s3_0 => ?_
    replace b3 := kept_trans (a := w) (by go_grown) b3
    have l3 := kept_cell b3
    have zz3 := b3.size
    go_wp2_with fail
    refine (HQ.out _).mono ?_
    rintro e w4 ⟨rfl, b4⟩
    refine kept_at b4 (w.heap.size) (by go_size) fun c4_0 z4_0 s4_0 => ?_
    replace b4 := kept_trans (a := w) (by go_grown) b4
    have l4 := kept_cell b4
    have zz4 := b4.size
    go_wp2_with fail
    refine (HJ.out _).mono ?_
    rintro e w0 ⟨rfl, rfl⟩
    go_wp2_with fail
    refine (HK.out _ _ (by go_size) (by go_simp)).mono ?_
    rintro e w6 ⟨rfl, b6⟩
    refine kept_at b6 (w.heap.size) (by go_size) fun c6_0 z6_0 s6_0 => ?_
    replace b6 := kept_trans (a := w) (by go_grown) b6
    have l6 := kept_cell b6
    have zz6 := b6.size
    go_wp2
    go_ret
    exact ⟨rfl, b6⟩
  · go_enter Tryz.func89, Tryz.ntmps89
    go_wp2_with fail
    refine (HN.out _).mono ?_
    rintro e w1 ⟨rfl, b1⟩
    refine kept_at b1 (w.heap.size) (by go_size) fun c1_0 z1_0 s1_0 => ?_
    replace b1 := kept_trans (a := w) (by go_grown) b1
    have l1 := kept_cell b1
    have zz1 := b1.size
    go_wp2_with fail
    refine (HI.out _ _ (by go_size) (by go_simp)).mono ?_
    rintro e w2 ⟨rfl, b2⟩
    refine kept_at b2 (w.heap.size) (by go_size) fun c2_0 z2_0 s2_0 => ?_
    replace b2 := kept_trans (a := w) (by go_grown) b2
    have l2 := kept_cell b2
    have zz2 := b2.size
    go_wp2_with fail
    refine (HP.out _).mono ?_
    rintro e w3 ⟨rfl, b3⟩
    refine kept_at b3 (w.heap.size) (by go_size) fun c3_0 z3_0 s3_0 => ?_
    replace b3 := kept_trans (a := w) (by go_grown) b3
    have l3 := kept_cell b3
    have zz3 := b3.size
    go_wp2_with fail
    refine (HQ.out _).mono ?_
    rintro e w4 ⟨rfl, b4⟩
    refine kept_at b4 (w.heap.size) (by go_size) fun c4_0 z4_0 s4_0 => ?_
    replace b4 := kept_trans (a := w) (by go_grown) b4
    have l4 := kept_cell b4
    have zz4 := b4.size
    go_wp2_with fail
    refine (HJ.out _).mono ?_
    rintro e w0 ⟨rfl, rfl⟩
    go_wp2_with fail
    refine (HK.out _ _ (by go_size) (by go_simp)).mono ?_
    rintro e w6 ⟨rfl, b6⟩
    refine kept_at b6 (w.heap.size) (by go_size) fun c6_0 z6_0 s6_0 => ?_
    replace b6 := kept_trans (a := w) (by go_grown) b6
    have l6 := kept_cell b6
    have zz6 := b6.size
    go_wp2_with fail
    refine (HR.out _ (RdI_kept H.out b6)).mono ?_
    rintro e w7 ⟨rfl, b7⟩
    replace b7 := kept_trans (a := w) (by go_grown) b7
    have l7 := kept_cell b7
    have zz7 := b7.size
    go_wp2
    go_ret
    exact ⟨rfl, b7⟩

/-- A block begins with these values. -/
def BoxR (u : World) (b : Nat) (row : List Value) : Prop := b < u.heap.size ∧ ∀ i v, row[i]? = some v → u.cell? ⟨b, i, none⟩ = some v

theorem BoxR_kept {u u1 : World} {b : Nat} {row : List Value} (h : BoxR u b row) (hb : Below u.heap.size u u1) : BoxR u1 b row :=
  ⟨Nat.lt_of_lt_of_le h.1 hb.size, fun i v hv => (kept_cell hb b i h.1).trans (h.2 i v hv)⟩

theorem BoxR_new' {u : World} {b : Nat} {arr : Array Value} {t : TypeId} (h : b = u.heap.size) : BoxR (u.alloc (.cells arr t)) b arr.toList := by
  subst h
  refine ⟨by simp, fun i v hv => ?_⟩
  rw [cell_of_row _ _ i _ _ _ (heap_alloc_new u _)]
  simpa using hv

theorem BoxR_up {u : World} {b : Nat} {row : List Value} {x : Obj} (h : BoxR u b row) : BoxR (u.alloc x) b row := BoxR_kept h (by go_grown)

theorem wrap_in {n : Int} (h : -9223372036854775808 ≤ n ∧ n ≤ 9223372036854775807) : IntKind.i64.wrap n = n := IntWalk.i64_in n (by omega)

theorem radiusAt_any (b o : Nat) (k : Cr) (c : Value) (u v : Int) (w : World) (h : CrAt w b o k c) :
    Calls Tryz.prog 93 #[.pointer (some ⟨b, o, none⟩), .agg #[.int .i64 u, .int .i64 v]] w fun e w' => e = .returned (.int .i64 (radL k.x k.y u v).1) ∧ Below w.heap.size w w' := by
  have HR := Lib.hid (fun W => implRadius_any k.x k.y u v W)
  obtain ⟨hb, ⟨_, g1, g2, _⟩, _⟩ := h
  generalize (radL k.x k.y u v).1 = R at *
  generalize (radL k.x k.y u v).2 = R2 at *
  obtain ⟨s, x, y, hh, j, bb, zs⟩ := k
  dsimp only at *
  have B0 : Hid (Below w.heap.size w (w.alloc (.cells #[.int .i64 u, .int .i64 v] 36))) := Lib.hid (by go_grown)
  have K0 : Hid (BoxR (w.alloc (.cells #[.int .i64 u, .int .i64 v] 36)) w.heap.size [.int .i64 u, .int .i64 v]) := Lib.hid (BoxR_new' rfl)
  have f1 := fun x : BelowBy (w.alloc (.cells #[.int .i64 u, .int .i64 v] 36)) => (kept_cell (kept_trans B0.out x.h) _ _ hb).trans g1
  have f2 := fun x : BelowBy (w.alloc (.cells #[.int .i64 u, .int .i64 v] 36)) => (kept_cell (kept_trans B0.out x.h) _ _ hb).trans g2
  have f3 := fun x : BelowBy (w.alloc (.cells #[.int .i64 u, .int .i64 v] 36)) => (BoxR_kept K0.out x.h).2 0 _ rfl
  have f4 := fun x : BelowBy (w.alloc (.cells #[.int .i64 u, .int .i64 v] 36)) => (BoxR_kept K0.out x.h).2 1 _ rfl
  go_enter Tryz.func93, Tryz.ntmps93
  go_wp2_with fail
  refine wp_region_below (by kernel_rfl) (by kernel_rfl) ?_
  repeat (go_big_quiet_step ((go_at_call 121; exact below_call (fun _ => HR.out _))))
  refine wpQuiet_nil ?_
  intro wq hw'
  obtain ⟨⟨_, hbq⟩, hwq⟩ := hw'
  subst hwq
  (try dsimp only)
  go_wp2
  go_ret
  exact ⟨rfl, kept_trans B0.out hbq⟩

theorem directionAt_any (b o : Nat) (k : Cr) (c : Value) (u v : Int) (w : World) (h : CrAt w b o k c) (ht : VecTab w) :
    Calls Tryz.prog 92 #[.pointer (some ⟨b, o, none⟩), .agg #[.int .i64 u, .int .i64 v]] w fun e w' => e = .returned (.int .i64 (dirToL k.x k.y u v).1) ∧ Below w.heap.size w w' := by
  have HR := Lib.hid (fun W (q : Below w.heap.size w W) => implDirectionTo_any k.x k.y u v W (VecTab_kept ht q))
  obtain ⟨hb, ⟨_, g1, g2, _⟩, _⟩ := h
  generalize (dirToL k.x k.y u v).1 = R at *
  generalize (dirToL k.x k.y u v).2 = R2 at *
  obtain ⟨s, x, y, hh, j, bb, zs⟩ := k
  dsimp only at *
  have B0 : Hid (Below w.heap.size w (w.alloc (.cells #[.int .i64 u, .int .i64 v] 36))) := Lib.hid (by go_grown)
  have K0 : Hid (BoxR (w.alloc (.cells #[.int .i64 u, .int .i64 v] 36)) w.heap.size [.int .i64 u, .int .i64 v]) := Lib.hid (BoxR_new' rfl)
  have f1 := fun x : BelowBy (w.alloc (.cells #[.int .i64 u, .int .i64 v] 36)) => (kept_cell (kept_trans B0.out x.h) _ _ hb).trans g1
  have f2 := fun x : BelowBy (w.alloc (.cells #[.int .i64 u, .int .i64 v] 36)) => (kept_cell (kept_trans B0.out x.h) _ _ hb).trans g2
  have f3 := fun x : BelowBy (w.alloc (.cells #[.int .i64 u, .int .i64 v] 36)) => (BoxR_kept K0.out x.h).2 0 _ rfl
  have f4 := fun x : BelowBy (w.alloc (.cells #[.int .i64 u, .int .i64 v] 36)) => (BoxR_kept K0.out x.h).2 1 _ rfl
  go_enter Tryz.func92, Tryz.ntmps92
  go_wp2_with fail
  refine wp_region_below (by kernel_rfl) (by kernel_rfl) ?_
  repeat (go_big_quiet_step ((go_at_call 120; exact below_call (fun hbx => HR.out _ (kept_trans B0.out hbx)))))
  refine wpQuiet_nil ?_
  intro wq hw'
  obtain ⟨⟨_, hbq⟩, hwq⟩ := hw'
  subst hwq
  (try dsimp only)
  go_wp2
  go_ret
  exact ⟨rfl, kept_trans B0.out hbq⟩

theorem fldB_true {k : Lf} (h : fldB k = true) : (1 ≤ k.wt ∧ k.wt ≤ 50000) ∧ okP k.fx k.fy = true ∧ okP k.tx k.ty = true ∧ (0 ≤ k.h ∧ k.h ≤ 2000) ∧ (1 ≤ k.dl ∧ k.dl ≤ 1000000) := by
  simp only [fldB, Bool.and_eq_true] at h
  obtain ⟨_, h2, h3, h4, h5, h6⟩ := h
  exact ⟨inB_true h2, h3, h4, inB_true h5, inB_true h6⟩

/-- The direction to a place; 0 if it is the place itself. -/
def dir9 (x y u v : Int) : Int := if x = u ∧ y = v then 0 else (stL (u - x) (v - y) 24).1

/-- The load of a valid crane at a place; -1 if there is none. -/
noncomputable def place9 (k : Cr) (u v : Int) : Int := if reachB k u v then loadL k.ch (distL k u v) else -1

noncomputable def load9 (k : Cr) (l : Lf) : Int := min (place9 k l.fx l.fy) (place9 k l.tx l.ty)

noncomputable def can9 (k : Cr) (l : Lf) : Bool := decide (l.wt ≤ load9 k l) && decide (l.h + 30 ≤ k.h)

theorem risesB_nil (n : Int) : risesB [] n = true := risesB_true (fun i h => absurd h (by simp))

theorem oneB_plain (k : Lf) : oneB { k with af := [] } 0 = fldB k := by
  unfold oneB
  rw [risesB_nil, Bool.and_true]
  rfl

theorem LfAt_box (s : ByteArray) (i1 i2 i3 i4 i5 i6 i7 : Int) (zs : List Int) (c : Value) (w : World) (t : TypeId) (h : RdI w c zs) :
    LfAt (w.alloc (.cells #[.string s, .int .i64 i1, .int .i64 i2, .int .i64 i3, .int .i64 i4, .int .i64 i5, .int .i64 i6, .int .i64 i7, c] t)) w.heap.size 0 ⟨s, i1, i2, i3, i4, i5, i6, i7, zs⟩ c :=
  ⟨by simp, by simp, RdI_kept h (by go_grown)⟩

theorem specPlain_any (b o : Nat) (l : Lf) (c : Value) (w : World) (h : LfAt w b o l c) (hs : l.nm.size ≤ 1000000) :
    Calls Tryz.prog 69 #[.pointer (some ⟨b, o, none⟩)] w fun e w' => e = .returned (.bool (fldB l)) ∧ Below w.heap.size w w' := by
  have HO := fun b u (q : LfAt u b 0 { l with af := [] } (.slice none 0 0)) => specOne_any b 0 { l with af := [] } _ 0 (by omega) u q hs
  rw [oneB_plain] at HO
  have HO := Lib.hid HO
  obtain ⟨hb, ⟨c0, c1, c2, c3, c4, c5, c6, c7, c8⟩, hr⟩ := h
  obtain ⟨A, cp, rfl, hl, _⟩ := RdI_slice hr
  clear hr
  generalize fldB l = R at *
  obtain ⟨s, i1, i2, i3, i4, i5, i6, i7, zs⟩ := l
  dsimp only at *
  go_enter Tryz.func69, Tryz.ntmps69
  go_wp2_with fail
  refine (HO.out _ _ (LfAt_box _ _ _ _ _ _ _ _ [] _ _ _ (rdI0' _))).mono ?_
  rintro e w1 ⟨rfl, hb1⟩
  have b1 := kept_trans (a := w) (by go_grown) hb1
  go_wp2
  go_ret
  exact ⟨rfl, b1⟩

theorem implPlain_any (l : Lf) (d : Value) (w : World) (h : RdI w d l.af) (hs : l.nm.size ≤ 1000000) :
    Calls Tryz.prog 47 #[.agg #[.string l.nm, .int .i64 l.wt, .int .i64 l.fx, .int .i64 l.fy, .int .i64 l.tx, .int .i64 l.ty, .int .i64 l.h, .int .i64 l.dl, d]] w fun e w' => e = .returned (.bool (fldB l)) ∧ Below w.heap.size w w' := by
  have HO := fun u => implOne_any { l with af := [] } _ 0 (by omega) u (rdI0' u) hs
  rw [oneB_plain] at HO
  have HO := Lib.hid HO
  obtain ⟨A, cp, rfl, hl, _⟩ := RdI_slice h
  clear h
  generalize fldB l = R at *
  obtain ⟨s, i1, i2, i3, i4, i5, i6, i7, zs⟩ := l
  dsimp only at *
  go_enter Tryz.func47, Tryz.ntmps47
  go_wp2_with fail
  refine (HO.out _).mono ?_
  rintro e w1 ⟨rfl, hb1⟩
  have b1 := kept_trans (a := w) (by go_grown) hb1
  go_wp2
  go_ret
  exact ⟨rfl, b1⟩

theorem min2_any {P : Program} (w : World) (ts : Array TypeId) (t : TypeId) (x y : Int) : (Builtin.min_ ts t #[.int .i64 x, .int .i64 y]).run P w = .ok (.int .i64 (min x y)) w := by
  have e1 : (if y < x then y else x) = min x y := by rw [Int.min_def]; split <;> split <;> omega
  simp [Builtin.min_, Builtin.min2, e1]

theorem place9_lo {k : Cr} {u v : Int} (hc : craneB k = true) : -1 ≤ place9 k u v ∧ (reachB k u v = true → 0 ≤ place9 k u v) ∧ place9 k u v ≤ 50000 := by
  unfold place9
  cases h : reachB k u v
  · simp
  · have h1 := loadL_reach (u := u) (v := v) hc h
    have hk := (craneB_true hc).2.2.2.2.1
    have h2 : loadL k.ch (distL k u v) ≤ 50000 := by
      have hh := h
      simp only [reachB, decide_eq_true_eq] at hh
      exact (loadL_bd hk ((find_last hk _).2 hh)).2
    simp
    omega

set_option maxHeartbeats 2000000 in
theorem specLoad9_any (b1 o1 b2 o2 : Nat) (k : Cr) (l : Lf) (c d : Value) (w : World) (h1 : CrAt w b1 o1 k c) (h2 : LfAt w b2 o2 l d) (hc : craneB k = true) (hf : fldB l = true) :
    Calls Tryz.prog 107 #[.pointer (some ⟨b1, o1, none⟩), .pointer (some ⟨b2, o2, none⟩)] w fun e w' => e = .returned (.int .i64 (load9 k l)) ∧ Below w.heap.size w w' := by
  have f := fldB_true hf
  have HG := Lib.hid (fun u (q : Below w.heap.size w u) x y (ok : okP x y = true) => specKLoad_any b1 o1 k c x y u (CrAt_kept h1 q) hc ok)
  have HM := Lib.hid (fun u x y => same_below (min_any x y u))
  have hl : load9 k l = min (place9 k l.fx l.fy) (place9 k l.tx l.ty) := rfl
  rw [hl]
  have HG : Hid (∀ u, Below w.heap.size w u → ∀ x y, okP x y = true → Calls Tryz.prog 130 #[.pointer (some ⟨b1, o1, none⟩), .agg #[.int .i64 x, .int .i64 y]] u fun e w' => e = .returned (.int .i64 (place9 k x y)) ∧ Below u.heap.size u w') := Lib.hid HG.out
  have k1 := f.2.1
  have k2 := f.2.2.1
  clear hl f hc hf h1
  obtain ⟨hb, ⟨_, _, c2, c3, c4, c5, _, _, _⟩, _⟩ := h2
  generalize place9 k = G at *
  obtain ⟨ls, i1, i2, i3, i4, i5, i6, i7, us⟩ := l
  dsimp only at *
  have f2 := fun x : BelowBy w => (kept_cell x.h _ _ hb).trans c2
  have f3 := fun x : BelowBy w => (kept_cell x.h _ _ hb).trans c3
  have f4 := fun x : BelowBy w => (kept_cell x.h _ _ hb).trans c4
  have f5 := fun x : BelowBy w => (kept_cell x.h _ _ hb).trans c5
  clear c2 c3 c4 c5
  go_enter Tryz.func107, Tryz.ntmps107
  go_wp2_with fail
  refine wp_region_below (by kernel_rfl) (by kernel_rfl) ?_
  repeat (go_big_quiet_step ((first | (go_at_call 130; exact below_call (fun hbx => HG.out _ hbx _ _ (by first | exact k1 | exact k2))) | (go_at_call 129; exact below_call (fun _ => HM.out _ _ _)))))
  refine wpQuiet_nil ?_
  intro wq hw'
  obtain ⟨⟨_, hbq⟩, hwq⟩ := hw'
  subst hwq
  (try dsimp only)
  go_wp2
  go_ret
  exact ⟨rfl, hbq⟩

/-- What the filter of a lift tells beside whether the crane reaches both places. -/
noncomputable def liftX (k : Cr) (l : Lf) : Int := min (if reachB k l.fx l.fy then loadL k.ch (distL k l.fx l.fy) else 0) (if reachB k l.tx l.ty then loadL k.ch (distL k l.tx l.ty) else 0)

noncomputable def reach9 (k : Cr) (l : Lf) : Bool := reachB k l.fx l.fy && reachB k l.tx l.ty

theorem reach9_load {k : Cr} {l : Lf} (hc : craneB k = true) : (reach9 k l = true → liftX k l = load9 k l ∧ 0 ≤ load9 k l) ∧ (reach9 k l = false → load9 k l < 0) := by
  have h1 := place9_lo (u := l.fx) (v := l.fy) hc
  have h2 := place9_lo (u := l.tx) (v := l.ty) hc
  unfold reach9 liftX load9
  cases r1 : reachB k l.fx l.fy <;> cases r2 : reachB k l.tx l.ty <;> simp only [r1, r2, place9, if_true, if_false, Bool.false_eq_true, forall_const] at * <;> simp <;> omega

set_option maxHeartbeats 4000000 in
theorem liftFn_any (b o lb : Nat) (k : Cr) (l : Lf) (c d : Value) (w : World) (h1 : CrAt w b o k c) (h2 : LfAt w lb 0 l d) (hc : craneB k = true) (hf : fldB l = true) (hk : k.nm.size ≤ 1000000) :
    Calls Tryz.prog 133 #[.pointer (some ⟨b, o, none⟩), .pointer (some ⟨lb, 0, none⟩)] w fun e w' => e = .returned (.tuple #[.int .i64 (liftX k l), .bool (reach9 k l)]) ∧ Below w.heap.size w w' := by
  have f := fldB_true hf
  have e1 : loadPlaceL k l.fx l.fy = if reachB k l.fx l.fy then (loadL k.ch (distL k l.fx l.fy), 0) else (0, 3) := by simp [loadPlaceL, hc, f.2.1]
  have e2 : loadPlaceL k l.tx l.ty = if reachB k l.tx l.ty then (loadL k.ch (distL k l.tx l.ty), 0) else (0, 3) := by simp [loadPlaceL, hc, f.2.2.1]
  have hA := fun u (q : Below w.heap.size w u) => implLoadPlace_any k c l.fx l.fy u (RdP_kept h1.2.2 q) hk
  have hB := fun u (q : Below w.heap.size w u) => implLoadPlace_any k c l.tx l.ty u (RdP_kept h1.2.2 q) hk
  rw [e1] at hA
  rw [e2] at hB
  unfold liftX reach9
  clear e1 e2 f hc hf
  obtain ⟨hb1, ⟨g0, g1, g2, g3, g4, g5, g6⟩, hr⟩ := h1
  obtain ⟨hb2, ⟨_, _, c2, c3, c4, c5, _, _, _⟩, _⟩ := h2
  obtain ⟨A, cp, rfl, _, _⟩ := RdP_slice hr
  simp only [Nat.zero_add] at c2 c3 c4 c5
  generalize loadL k.ch (distL k l.fx l.fy) = L1 at *
  generalize loadL k.ch (distL k l.tx l.ty) = L2 at *
  generalize reachB k l.fx l.fy = r1 at *
  generalize reachB k l.tx l.ty = r2 at *
  obtain ⟨ls, i1, i2, i3, i4, i5, i6, i7, us⟩ := l
  obtain ⟨s, x, y, hh, j, bb, zs⟩ := k
  dsimp only at *
  have HG := Lib.hid (show ∀ u, Below w.heap.size w u → u.cell? ⟨b, o, none⟩ = some (.string s) ∧ u.cell? ⟨b, o + 1, none⟩ = some (.int .i64 x) ∧ u.cell? ⟨b, o + 2, none⟩ = some (.int .i64 y) ∧ u.cell? ⟨b, o + 3, none⟩ = some (.int .i64 hh) ∧ u.cell? ⟨b, o + 4, none⟩ = some (.int .i64 j) ∧ u.cell? ⟨b, o + 5, none⟩ = some (.int .i64 bb) ∧ u.cell? ⟨b, o + 6, none⟩ = some (.slice A zs.length cp) ∧ u.cell? ⟨lb, 4, none⟩ = some (.int .i64 i4) ∧ u.cell? ⟨lb, 5, none⟩ = some (.int .i64 i5) ∧ b < u.heap.size ∧ lb < u.heap.size from
    fun u q => ⟨by rw [kept_cell q b _ hb1]; exact g0, by rw [kept_cell q b _ hb1]; exact g1, by rw [kept_cell q b _ hb1]; exact g2, by rw [kept_cell q b _ hb1]; exact g3, by rw [kept_cell q b _ hb1]; exact g4, by rw [kept_cell q b _ hb1]; exact g5, by rw [kept_cell q b _ hb1]; exact g6, by rw [kept_cell q lb _ hb2]; exact c4, by rw [kept_cell q lb _ hb2]; exact c5, Nat.lt_of_lt_of_le hb1 q.size, Nat.lt_of_lt_of_le hb2 q.size⟩)
  have q0 := fun x : BelowBy w => (kept_cell x.h _ _ hb1).trans g0
  have q1 := fun x : BelowBy w => (kept_cell x.h _ _ hb1).trans g1
  have q2 := fun x : BelowBy w => (kept_cell x.h _ _ hb1).trans g2
  have q3 := fun x : BelowBy w => (kept_cell x.h _ _ hb1).trans g3
  have q4 := fun x : BelowBy w => (kept_cell x.h _ _ hb1).trans g4
  have q5 := fun x : BelowBy w => (kept_cell x.h _ _ hb1).trans g5
  have q6 := fun x : BelowBy w => (kept_cell x.h _ _ hb1).trans g6
  have p2 := fun x : BelowBy w => (kept_cell x.h _ _ hb2).trans c2
  have p3 := fun x : BelowBy w => (kept_cell x.h _ _ hb2).trans c3
  clear g0 g1 g2 g3 g4 g5 g6 c2 c3 c4 c5
  have hmn := fun ts t u (a b : Int) => min2_any (P := Tryz.prog) u ts t a b
  cases r1 <;> cases r2
  all_goals
    simp only [if_true, if_false, Bool.false_eq_true] at hA hB
    have HA := Lib.hid hA; have HB := Lib.hid hB; clear hA hB
    go_enter Tryz.func133, Tryz.ntmps133
    go_wp2_with fail
    refine wp_region_below (by kernel_rfl) (by kernel_rfl) ?_
    repeat (go_big_quiet_step ((go_at_call 134; exact below_call (fun hbx => HA.out _ hbx))))
    refine wpQuiet_nil ?_
    intro wq hw'
    obtain ⟨⟨_, hbq⟩, hwq⟩ := hw'
    subst hwq
    (try dsimp only)
    obtain ⟨d0, d1, d2, d3, d4, d5, d6, d7, d8, l1, l2⟩ := HG.out _ hbq
    clear q0 q1 q2 q3 q4 q5 q6 p2 p3
    have HBQ := Lib.hid hbq
    have q0 := fun x : BelowBy wq => (kept_cell x.h _ _ l1).trans d0
    have q1 := fun x : BelowBy wq => (kept_cell x.h _ _ l1).trans d1
    have q2 := fun x : BelowBy wq => (kept_cell x.h _ _ l1).trans d2
    have q3 := fun x : BelowBy wq => (kept_cell x.h _ _ l1).trans d3
    have q4 := fun x : BelowBy wq => (kept_cell x.h _ _ l1).trans d4
    have q5 := fun x : BelowBy wq => (kept_cell x.h _ _ l1).trans d5
    have q6 := fun x : BelowBy wq => (kept_cell x.h _ _ l1).trans d6
    have p2 := fun x : BelowBy wq => (kept_cell x.h _ _ l2).trans d7
    have p3 := fun x : BelowBy wq => (kept_cell x.h _ _ l2).trans d8
    clear d0 d1 d2 d3 d4 d5 d6 d7 d8 hbq
    go_wp2_with fail
    refine wp_region_below (by kernel_rfl) (by kernel_rfl) ?_
    repeat (go_big_quiet_step ((go_at_call 134; exact below_call (fun hbx => HB.out _ (kept_trans HBQ.out hbx)))))
    refine wpQuiet_nil ?_
    intro wq hw'
    obtain ⟨⟨_, hbq⟩, hwq⟩ := hw'
    subst hwq
    (try dsimp only)
    go_wp2
    go_ret2
    exact ⟨by simp, kept_trans HBQ.out hbq⟩

theorem load9_bd {k : Cr} {l : Lf} (hc : craneB k = true) : -1 ≤ load9 k l ∧ load9 k l ≤ 50000 := by
  have h1 := place9_lo (u := l.fx) (v := l.fy) hc
  have h2 := place9_lo (u := l.tx) (v := l.ty) hc
  unfold load9
  omega

theorem implLiftLoad_any (l : Lf) (d : Value) (w : World) (hd : RdI w d l.af) :
    Calls Tryz.prog 117 #[.agg #[.string l.nm, .int .i64 l.wt, .int .i64 l.fx, .int .i64 l.fy, .int .i64 l.tx, .int .i64 l.ty, .int .i64 l.h, .int .i64 l.dl, d]] w fun e w' => ∃ lb, e = .returned (.func (.func 133) #[] #[.pointer (some ⟨lb, 0, none⟩)]) ∧ LfAt w' lb 0 l d ∧ Below w.heap.size w w' := by
  have hmf : ∀ (fn : Fn) (first cap : Array Value) (w : World), (Instr.makeFunc fn first cap).run Tryz.prog w = .ok (.func fn first cap) w := fun _ _ _ _ => rfl
  obtain ⟨A2, cp2, rfl, _, _⟩ := RdI_slice hd
  have HD := Lib.hid hd; clear hd
  obtain ⟨ls, i1, i2, i3, i4, i5, i6, i7, us⟩ := l
  dsimp only at *
  go_enter Tryz.func117, Tryz.ntmps117
  go_wp2
  go_ret
  exact ⟨_, rfl, LfAt_box ls i1 i2 i3 i4 i5 i6 i7 us _ w _ HD.out, by go_grown⟩

theorem can9_reach {k : Cr} {l : Lf} (hc : craneB k = true) (hf : fldB l = true) : can9 k l = (reach9 k l && decide (l.wt ≤ liftX k l) && decide (l.h + 30 ≤ k.h)) := by
  have h := reach9_load (l := l) hc
  have hw := (fldB_true hf).1
  unfold can9
  cases r : reach9 k l
  · have := h.2 r
    have e : decide (l.wt ≤ load9 k l) = false := by simp; omega
    simp [e]
  · rw [(h.1 r).1, Bool.true_and]

set_option maxHeartbeats 2000000 in
theorem specCan9_any (b1 o1 b2 o2 : Nat) (k : Cr) (l : Lf) (c d : Value) (w : World) (h1 : CrAt w b1 o1 k c) (h2 : LfAt w b2 o2 l d) (hc : craneB k = true) (hf : fldB l = true) :
    Calls Tryz.prog 73 #[.pointer (some ⟨b1, o1, none⟩), .pointer (some ⟨b2, o2, none⟩)] w fun e w' => e = .returned (.bool (can9 k l)) ∧ Below w.heap.size w w' := by
  have f := fldB_true hf
  have HL := Lib.hid (fun u (q : Below w.heap.size w u) => specLoad9_any b1 o1 b2 o2 k l c d u (CrAt_kept h1 q) (LfAt_kept h2 q) hc hf)
  have hbd := load9_bd (l := l) hc
  obtain ⟨hb1, ⟨_, _, _, g3, _, _, _⟩, _⟩ := h1
  obtain ⟨hb2, ⟨_, c1, _, _, _, _, c6, _, _⟩, _⟩ := h2
  unfold can9
  have hw := f.1
  have hh := f.2.2.2.1
  have e30 : wrap64 (l.h + 30) = l.h + 30 := by unfold wrap64; omega
  clear f hc hf
  generalize load9 k l = X at *
  obtain ⟨ls, i1, i2, i3, i4, i5, i6, i7, us⟩ := l
  obtain ⟨s, x, y, hgt, j, b, zs⟩ := k
  dsimp only at *
  have f1 := fun x : BelowBy w => (kept_cell x.h _ _ hb2).trans c1
  have f6 := fun x : BelowBy w => (kept_cell x.h _ _ hb2).trans c6
  have f3 := fun x : BelowBy w => (kept_cell x.h _ _ hb1).trans g3
  clear c1 c6 g3
  cases e1 : decide (i1 ≤ X) <;> cases e2 : decide (i6 + 30 ≤ hgt)
  all_goals
    go_enter Tryz.func73, Tryz.ntmps73
    go_wp2_with fail
    refine wp_region_below (by kernel_rfl) (by kernel_rfl) ?_
    repeat (go_big_quiet_step ((go_at_call 107; exact below_call (fun hbx => HL.out _ hbx))))
    refine wpQuiet_nil ?_
    intro wq hw'
    obtain ⟨⟨_, hbq⟩, hwq⟩ := hw'
    subst hwq
    (try dsimp only)
    go_wp2
    go_ret
    exact ⟨by simp, hbq⟩

set_option maxHeartbeats 4000000 in
theorem ableFn_any (b o fb mb lb : Nat) (k : Cr) (l : Lf) (c d d2 : Value) (w : World) (h1 : CrAt w b o k c) (h2 : LfAt w lb 0 l d) (h3 : LfAt w mb 0 l d2) (hfb : fb < w.heap.size) (hfc : w.cell? ⟨fb, 0, none⟩ = some (.func (.func 133) #[] #[.pointer (some ⟨mb, 0, none⟩)])) (hc : craneB k = true) (hf : fldB l = true) (hk : k.nm.size ≤ 1000000) :
    Calls Tryz.prog 118 #[.pointer (some ⟨b, o, none⟩), .pointer (some ⟨fb, 0, none⟩), .pointer (some ⟨lb, 0, none⟩)] w fun e w' => e = .returned (.tuple #[.int .i64 (liftX k l), .bool (can9 k l)]) ∧ Below w.heap.size w w' := by
  have HL := Lib.hid (fun u (q : Below w.heap.size w u) => liftFn_any b o mb k l c d2 u (CrAt_kept h1 q) (LfAt_kept h3 q) hc hf hk)
  have f := fldB_true hf
  rw [can9_reach hc hf]
  obtain ⟨hb1, ⟨_, _, _, g3, _, _, _⟩, _⟩ := h1
  obtain ⟨hb2, ⟨_, c1, _, _, _, _, c6, _, _⟩, _⟩ := h2
  simp only [Nat.zero_add] at c1 c6
  have hh := f.2.2.2.1
  have e30 : wrap64 (l.h + 30) = l.h + 30 := by unfold wrap64; omega
  clear f hc hf h3
  generalize liftX k l = X at *
  generalize reach9 k l = r at *
  obtain ⟨ls, i1, i2, i3, i4, i5, i6, i7, us⟩ := l
  obtain ⟨s, x, y, hgt, j, bb, zs⟩ := k
  dsimp only at *
  have hb1L := hb1
  have hb2L := hb2
  have HG := Lib.hid (show ∀ u, Below w.heap.size w u → u.cell? ⟨b, o + 3, none⟩ = some (.int .i64 hgt) ∧ u.cell? ⟨lb, 1, none⟩ = some (.int .i64 i1) ∧ u.cell? ⟨lb, 6, none⟩ = some (.int .i64 i6) from
    fun u q => ⟨by rw [kept_cell q b _ hb1]; exact g3, by rw [kept_cell q lb _ hb2]; exact c1, by rw [kept_cell q lb _ hb2]; exact c6⟩)
  clear g3 c1 c6
  cases r <;> cases e1 : decide (i1 ≤ X) <;> cases e2 : decide (i6 + 30 ≤ hgt)
  all_goals
    go_enter Tryz.func118, Tryz.ntmps118
    go_wp2_with fail
    refine (HL.out _ (Below.refl _ _)).mono ?_
    rintro e w1 ⟨rfl, hb1⟩
    obtain ⟨m3, m1, m6⟩ := HG.out _ hb1
    have f3 := fun x : BelowBy w1 => (kept_cell x.h _ _ (Nat.lt_of_lt_of_le hb1L hb1.size)).trans m3
    have f1 := fun x : BelowBy w1 => (kept_cell x.h _ _ (Nat.lt_of_lt_of_le hb2L hb1.size)).trans m1
    have f6 := fun x : BelowBy w1 => (kept_cell x.h _ _ (Nat.lt_of_lt_of_le hb2L hb1.size)).trans m6
    clear m3 m1 m6
    have HB1 := Lib.hid hb1; clear hb1
    go_wp2_with fail
    refine wp_region_below (by kernel_rfl) (by kernel_rfl) ?_
    repeat (go_big_quiet_step (fail))
    refine wpQuiet_nil ?_
    intro wq hw'
    obtain ⟨⟨_, hbq⟩, hwq⟩ := hw'
    subst hwq
    (try dsimp only)
    go_wp2
    go_ret2
    exact ⟨by simp, kept_trans HB1.out hbq⟩

theorem implAbleLoad_any (l : Lf) (d : Value) (w : World) (hd : RdI w d l.af) :
    Calls Tryz.prog 90 #[.agg #[.string l.nm, .int .i64 l.wt, .int .i64 l.fx, .int .i64 l.fy, .int .i64 l.tx, .int .i64 l.ty, .int .i64 l.h, .int .i64 l.dl, d]] w fun e w' => ∃ fb mb lb, e = .returned (.func (.func 118) #[] #[.pointer (some ⟨fb, 0, none⟩), .pointer (some ⟨lb, 0, none⟩)]) ∧ LfAt w' lb 0 l d ∧ LfAt w' mb 0 l d ∧ fb < w'.heap.size ∧ w'.cell? ⟨fb, 0, none⟩ = some (.func (.func 133) #[] #[.pointer (some ⟨mb, 0, none⟩)]) ∧ Below w.heap.size w w' := by
  have hmf : ∀ (fn : Fn) (first cap : Array Value) (w : World), (Instr.makeFunc fn first cap).run Tryz.prog w = .ok (.func fn first cap) w := fun _ _ _ _ => rfl
  have hsf : ∀ (a : Addr) (fn : Fn) (first cap : Array Value) (m : Mode) (w : World), (store a (.func fn first cap) m).run Tryz.prog w = stored Tryz.prog w a (.func fn first cap) m := fun a fn first cap m w => run_store Tryz.prog w a _ m rfl
  have HLL := Lib.hid (fun u (q : RdI u d l.af) => implLiftLoad_any l d u q)
  obtain ⟨A2, cp2, rfl, _, _⟩ := RdI_slice hd
  have HD := Lib.hid hd; clear hd
  obtain ⟨ls, i1, i2, i3, i4, i5, i6, i7, us⟩ := l
  dsimp only at *
  have HB := Lib.hid (LfAt_box ls i1 i2 i3 i4 i5 i6 i7 us _ w 44 HD.out)
  go_enter Tryz.func90, Tryz.ntmps90
  go_wp2_with fail
  refine (HLL.out _ (RdI_kept HD.out (by go_grown))).mono ?_
  rintro e w1 ⟨mb, rfl, hmb, hb1⟩
  have K1 := Lib.hid (LfAt_kept HB.out hb1)
  have K2 := Lib.hid hmb; clear hmb
  have b1 := kept_trans (a := w) (by go_grown) hb1
  go_wp2
  go_ret
  exact ⟨w1.heap.size, mb, w.heap.size, rfl, LfAt_kept K1.out (by go_grown), LfAt_kept K2.out (by go_grown), by go_size, by go_simp, kept_trans b1 (by go_grown)⟩

theorem max2_any {P : Program} (w : World) (ts : Array TypeId) (t : TypeId) (x y : Int) : (Builtin.max_ ts t #[.int .i64 x, .int .i64 y]).run P w = .ok (.int .i64 (max x y)) w := by
  have e1 : (if x < y then y else x) = max x y := by rw [Int.max_def]; split <;> split <;> omega
  simp [Builtin.max_, Builtin.max2, e1]

theorem specDir9_any (x y u v : Int) (h1 : okP x y = true) (h2 : okP u v = true) (w : World) :
    Calls Tryz.prog 81 #[.agg #[.int .i64 x, .int .i64 y], .agg #[.int .i64 u, .int .i64 v]] w fun e w' => e = .returned (.int .i64 (dir9 x y u v)) ∧ Below w.heap.size w w' := by
  have hT := Lib.hid (l02To_any _ _ _ _ h1 h2)
  clear h1 h2
  unfold dir9
  rcases (show (x = u ∧ y = v) ∨ ((x == u) = false ∧ ¬ (x = u ∧ y = v)) ∨ ((x == u) = true ∧ (y == v) = false ∧ ¬ (x = u ∧ y = v)) by by_cases h1 : x = u <;> by_cases h2 : y = v <;> simp [h1, h2]) with ⟨rfl, rfl⟩ | ⟨e1, h⟩ | ⟨e1, e2, h⟩
  · simp only [and_self, if_true]
    go_enter Tryz.func81, Tryz.ntmps81
    go_wp2
    go_ret
    exact ⟨rfl, by go_grown⟩
  all_goals
    rw [if_neg h]
    clear h
    generalize (stL (u - x) (v - y) 24).1 = R at *
    go_enter Tryz.func81, Tryz.ntmps81
    go_wp2_with (go_at_call 110; refine (hT.out _).mono ?_; rintro e w3 ⟨rfl, hb3⟩; replace hb3 := kept_trans (a := w) (by go_grown) hb3)
    go_ret
    exact ⟨rfl, by go_grown⟩

/-- Speeds (seconds a direction, decimetres a second of the trolley and of the hook, seconds to hook) are as asked. -/
def spB (va vb vc vd : Int) : Bool := inB va 1 600 && inB vb 1 600 && inB vc 1 600 && inB vd 1 600

theorem spB_true {va vb vc vd : Int} (h : spB va vb vc vd = true) : (1 ≤ va ∧ va ≤ 600) ∧ (1 ≤ vb ∧ vb ≤ 600) ∧ (1 ≤ vc ∧ vc ≤ 600) ∧ (1 ≤ vd ∧ vd ≤ 600) := by
  simp only [spB, Bool.and_eq_true] at h
  obtain ⟨⟨⟨g0, g1⟩, g2⟩, g3⟩ := h
  exact ⟨inB_true g0, inB_true g1, inB_true g2, inB_true g3⟩

theorem turnL_bd (n : Int) : -11 ≤ turnL n ∧ turnL n ≤ 12 := by unfold turnL; split <;> omega

theorem tiltL_bd {n a : Int} (h : -a ≤ n ∧ n ≤ a) : 0 ≤ tiltL n ∧ tiltL n ≤ a := by unfold tiltL; omega

theorem speed_any (n : Int) (w : World) :
    Calls Tryz.prog 94 #[.int .i64 n] w fun e w' => e = .returned (.bool (inB n 1 600)) ∧ w = w' := by
  go_enter Tryz.func94, Tryz.ntmps94
  go_wp2_with (go_at_call 78; refine (in_any _ _ _ _).mono ?_; rintro e w1 ⟨rfl, rfl⟩)
  go_ret
  exact ⟨rfl, rfl⟩

theorem specSp_any (va vb vc vd : Int) (w : World) :
    Calls Tryz.prog 52 #[.agg #[.int .i64 va, .int .i64 vb, .int .i64 vc, .int .i64 vd]] w fun e w' => e = .returned (.bool (spB va vb vc vd)) ∧ Below w.heap.size w w' := by
  unfold spB
  rcases four (inB va 1 600) (inB vb 1 600) (inB vc 1 600) (inB vd 1 600) with g | ⟨g0, g⟩ | ⟨g0, g1, g⟩ | ⟨g0, g1, g2, g⟩ | ⟨g0, g1, g2, g⟩
  all_goals
    go_enter Tryz.func52, Tryz.ntmps52
    go_wp2_with (go_at_call 94; refine (speed_any _ _).mono ?_; rintro e w1 ⟨rfl, rfl⟩)
    go_ret
    exact ⟨by simp [*], by go_grown⟩

theorem rdI4 {w : World} {g c : Nat} {x y z t : Int} (hg : g < w.heap.size) (h0 : w.cell? ⟨g, 0, none⟩ = some (.int .i64 x)) (h1 : w.cell? ⟨g, 1, none⟩ = some (.int .i64 y)) (h2 : w.cell? ⟨g, 2, none⟩ = some (.int .i64 z)) (h3 : w.cell? ⟨g, 3, none⟩ = some (.int .i64 t)) : RdI w (.slice (some ⟨g, 0, none⟩) 4 c) [x, y, z, t] :=
  RdI_of w g c [x, y, z, t] (by simp) hg (fun k hk => by
    match k, hk with
    | 0, _ => exact h0
    | 1, _ => exact h1
    | 2, _ => exact h2
    | 3, _ => exact h3)

theorem implVSp_any (va vb vc vd : Int) (w : World) :
    Calls Tryz.prog 46 #[.agg #[.int .i64 va, .int .i64 vb, .int .i64 vc, .int .i64 vd]] w fun e w' => e = .returned (.bool (spB va vb vc vd)) ∧ Below w.heap.size w w' := by
  have e1 : spB va vb vc vd = ([va, vb, vc, vd].all (fun n => inB n 1 600)) := by simp [spB, Bool.and_assoc]
  rw [e1]; clear e1
  have H := Lib.hid (fun v u q => within_any 1 600 v [va, vb, vc, vd] u q)
  generalize [va, vb, vc, vd].all (fun n => inB n 1 600) = R at *
  go_enter Tryz.func46, Tryz.ntmps46
  go_wp2_with fail
  refine (H.out _ _ (rdI4 (by go_size) (by go_simp) (by go_simp) (by go_simp) (by go_simp))).mono ?_
  rintro e w1 ⟨rfl, b1⟩
  replace b1 := kept_trans (a := w) (by go_grown) b1
  go_wp2
  go_ret
  exact ⟨rfl, b1⟩

theorem size10_any (n : Int) (h : -1000000000000000000 ≤ n ∧ n ≤ 1000000000000000000) (w : World) :
    Calls Tryz.prog 79 #[.int .i64 n] w fun e w' => e = .returned (.int .i64 (tiltL n)) ∧ w = w' := by
  unfold tiltL
  go_enter Tryz.func79, Tryz.ntmps79
  go_wp2_with (go_at_call 84; refine (max_any _ _ _).mono ?_; rintro e w1 ⟨rfl, rfl⟩)
  go_ret
  exact ⟨rfl, rfl⟩

theorem toSp_any (va vb vc vd : Int) (w : World) :
    Calls Tryz.prog 11 #[.agg #[.int .i64 va, .int .i64 vb, .int .i64 vc, .int .i64 vd]] w fun e w' => e = .returned (.agg #[.int .i64 va, .int .i64 vb, .int .i64 vc, .int .i64 vd]) ∧ Below w.heap.size w w' := by
  go_enter Tryz.func11, Tryz.ntmps11
  go_wp2
  go_returns
  exact ⟨rfl, by go_grown⟩

theorem turnBL_bd (a b : Int) : -11 ≤ (turnBetweenL a b).1 ∧ (turnBetweenL a b).1 ≤ 12 := by
  unfold turnBetweenL
  split
  · exact turnL_bd _
  · simp

/-- How long a turn takes. -/
theorem turnSecs_any (va vb vc vd : Int) (a b : Int) (hv : 1 ≤ va ∧ va ≤ 600) (w : World) :
    Calls Tryz.prog 166 #[.agg #[.int .i64 a, .int .i64 b], .agg #[.int .i64 va, .int .i64 vb, .int .i64 vc, .int .i64 vd]] w fun e w' => e = .returned (.int .i64 (tiltL (turnBetweenL a b).1 * va)) ∧ Below w.heap.size w w' := by
  have ht := turnBL_bd a b
  have HT := Lib.hid (fun u => implTurnBetween_any a b u)
  generalize (turnBetweenL a b).1 = n at *
  generalize (turnBetweenL a b).2 = n2 at *
  have hz := tiltL_bd (n := n) (a := 12) (by omega)
  have hm := mul_bd (tiltL n) va 12 600 hz (by omega)
  have hmx := fun ts t u (a b : Int) => max2_any (P := Tryz.prog) u ts t a b
  have e1 : wrap64 (-n) = -n := IntWalk.wrap64_in _ (by omega)
  have e2 : wrap64 (max n (-n) * va) = tiltL n * va := IntWalk.wrap64_in _ (by unfold tiltL at hm; omega)
  generalize hmm : tiltL n * va = M at *
  go_enter Tryz.func166, Tryz.ntmps166
  go_wp2_with (go_at_call 167; refine (HT.out _).mono ?_; rintro e w1 ⟨rfl, rfl⟩)
  go_ret
  exact ⟨by simp [*], by go_grown⟩

/-- How long a straight way takes. -/
theorem stretchSecs_any (a b q : Int) (ha : 0 ≤ a ∧ a ≤ 1000000) (hb : 0 ≤ b ∧ b ≤ 1000000) (hq : 1 ≤ q ∧ q ≤ 600) (w : World) :
    Calls Tryz.prog 170 #[.agg #[.int .i64 a, .int .i64 b], .int .i64 q] w fun e w' => e = .returned (.int .i64 (upL (tiltL (b - a)) q)) ∧ Below w.heap.size w w' := by
  have hz := tiltL_bd (n := b - a) (a := 1000000) (by omega)
  have HU := Lib.hid (fun u => implUp_any (tiltL (b - a)) q (by omega) (by omega) u)
  have hmx := fun ts t u (a b : Int) => max2_any (P := Tryz.prog) u ts t a b
  have e1 : wrap64 (b - a) = b - a := IntWalk.wrap64_in _ (by omega)
  have e2 : wrap64 (a - b) = a - b := IntWalk.wrap64_in _ (by omega)
  have e3 : max (b - a) (a - b) = tiltL (b - a) := by unfold tiltL; omega
  generalize upL (tiltL (b - a)) q = M at *
  generalize tiltL (b - a) = T at *
  go_enter Tryz.func170, Tryz.ntmps170
  go_wp2_with (go_at_call 149; refine (HU.out _).mono ?_; rintro e w1 ⟨rfl, rfl⟩)
  go_ret
  exact ⟨by simp [*], by go_grown⟩

theorem rideSecs_any (va vb vc vd : Int) (a b : Int) (ha : 0 ≤ a ∧ a ≤ 1000000) (hb : 0 ≤ b ∧ b ≤ 1000000) (hv : 1 ≤ vb ∧ vb ≤ 600) (w : World) :
    Calls Tryz.prog 171 #[.agg #[.int .i64 a, .int .i64 b], .agg #[.int .i64 va, .int .i64 vb, .int .i64 vc, .int .i64 vd]] w fun e w' => e = .returned (.int .i64 (upL (tiltL (b - a)) vb)) ∧ Below w.heap.size w w' := by
  have H := Lib.hid (fun u => stretchSecs_any a b vb ha hb hv u)
  generalize upL (tiltL (b - a)) vb = M at *
  go_enter Tryz.func171, Tryz.ntmps171
  go_wp2_with fail
  refine (H.out _).mono ?_
  rintro e w1 ⟨rfl, b1⟩
  replace b1 := kept_trans (a := w) (by go_grown) b1
  go_wp2
  go_ret
  exact ⟨rfl, b1⟩

theorem hoistSecs_any (va vb vc vd : Int) (a b : Int) (ha : 0 ≤ a ∧ a ≤ 1000000) (hb : 0 ≤ b ∧ b ≤ 1000000) (hv : 1 ≤ vc ∧ vc ≤ 600) (w : World) :
    Calls Tryz.prog 173 #[.agg #[.int .i64 a, .int .i64 b], .agg #[.int .i64 va, .int .i64 vb, .int .i64 vc, .int .i64 vd]] w fun e w' => e = .returned (.int .i64 (upL (tiltL (b - a)) vc)) ∧ Below w.heap.size w w' := by
  have H := Lib.hid (fun u => stretchSecs_any a b vc ha hb hv u)
  generalize upL (tiltL (b - a)) vc = M at *
  go_enter Tryz.func173, Tryz.ntmps173
  go_wp2_with fail
  refine (H.out _).mono ?_
  rintro e w1 ⟨rfl, b1⟩
  replace b1 := kept_trans (a := w) (by go_grown) b1
  go_wp2
  go_ret
  exact ⟨rfl, b1⟩

theorem hookSecs_any (va vb vc vd : Int) (w : World) :
    Calls Tryz.prog 174 #[.agg #[], .agg #[.int .i64 va, .int .i64 vb, .int .i64 vc, .int .i64 vd]] w fun e w' => e = .returned (.int .i64 vd) ∧ Below w.heap.size w w' := by
  go_enter Tryz.func174, Tryz.ntmps174
  go_wp2
  go_ret
  exact ⟨rfl, by go_grown⟩

theorem hoistTo_any (h : Int) (w : World) :
    Calls Tryz.prog 119 #[.int .i64 h] w fun e w' => e = .returned (.agg #[.int .i64 0, .int .i64 h]) ∧ Below w.heap.size w w' := by
  go_enter Tryz.func119, Tryz.ntmps119
  go_wp2
  first
    | (go_returns; exact ⟨rfl, by go_grown⟩)
    | (go_ret; exact ⟨rfl, by go_grown⟩)

theorem dir9_bd (x y u v : Int) : 0 ≤ dir9 x y u v ∧ dir9 x y u v ≤ 23 := by
  unfold dir9
  split
  · omega
  · have := stL_scal (u - x) (v - y) 24 (by omega)
    omega

theorem distL_bd {k : Cr} {u v : Int} (h : okP k.x k.y = true) (h2 : okP u v = true) : 0 ≤ distL k u v ∧ distL k u v ≤ 30000 := by
  have g0 := okP_true h
  have g1 := okP_true h2
  have s1 := sq_bd (u - k.x) 20000 (by omega) (by omega)
  have s2 := sq_bd (v - k.y) 20000 (by omega) (by omega)
  exact rootL_le _ 30000 (by omega)

theorem upL_bd {n d : Int} (h1 : 0 ≤ n) (h2 : 1 ≤ d) : 0 ≤ upL n d ∧ upL n d ≤ n + d := by
  unfold upL
  have a := Int.ediv_nonneg (show 0 ≤ n + d - 1 by omega) (show 0 ≤ d by omega)
  have b := Int.ediv_le_self (a := n + d - 1) d (by omega)
  omega

/-- How long a crane takes from a place to another one. -/
noncomputable def moveN (k : Cr) (va vb fx fy tx ty : Int) : Int := max (tiltL (turnL (dir9 k.x k.y tx ty - dir9 k.x k.y fx fy)) * va) (upL (tiltL (distL k tx ty - distL k fx fy)) vb)

theorem moveN_bd {k : Cr} {va vb fx fy tx ty : Int} (h : okP k.x k.y = true) (h1 : okP fx fy = true) (h2 : okP tx ty = true) (ha : 1 ≤ va ∧ va ≤ 600) (hb : 1 ≤ vb ∧ vb ≤ 600) : 0 ≤ moveN k va vb fx fy tx ty ∧ moveN k va vb fx fy tx ty ≤ 40000 := by
  have t := turnL_bd (dir9 k.x k.y tx ty - dir9 k.x k.y fx fy)
  have z := tiltL_bd (n := turnL (dir9 k.x k.y tx ty - dir9 k.x k.y fx fy)) (a := 12) (by omega)
  have m := mul_bd (tiltL (turnL (dir9 k.x k.y tx ty - dir9 k.x k.y fx fy))) va 12 600 z (by omega)
  have d1 := distL_bd h h1
  have d2 := distL_bd h h2
  have z2 := tiltL_bd (n := distL k tx ty - distL k fx fy) (a := 30000) (by omega)
  have u := upL_bd (n := tiltL (distL k tx ty - distL k fx fy)) (d := vb) z2.1 hb.1
  unfold moveN
  omega

/-- How long a lift takes that a crane can do. -/
noncomputable def liftN (k : Cr) (va vb vc vd : Int) (l : Lf) : Int := 2 * vd + 2 * upL (l.h + 30) vc + moveN k va vb l.fx l.fy l.tx l.ty

/-- The square of a distance, as the spec reckons it. -/
def sqN (k : Cr) (x y : Int) : Int := wrap64 (wrap64 ((k.x - x) * (k.x - x)) + wrap64 ((k.y - y) * (k.y - y)))

theorem specSqN_any (k : Cr) (x y : Int) (hc : okP k.x k.y = true) (h : okP x y = true) (w : World) :
    Calls Tryz.prog 83 #[.agg #[.int .i64 k.x, .int .i64 k.y], .agg #[.int .i64 x, .int .i64 y]] w fun e w' => e = .returned (.int .i64 (sqN k x y)) ∧ Below w.heap.size w w' := by
  have g0 := okP_true hc
  have g1 := okP_true h
  exact l02Square_any k.x k.y x y (by omega) (by omega) (by omega) (by omega) w

theorem specRtN_any (k : Cr) (x y : Int) (hc : okP k.x k.y = true) (h : okP x y = true) (w : World) :
    Calls Tryz.prog 82 #[.int .i64 (sqN k x y)] w fun e w' => e = .returned (.int .i64 (distL k x y)) ∧ Below w.heap.size w w' := by
  have g0 := okP_true hc
  have g1 := okP_true h
  have E1 := sq_wrap (k.x - x) (k.y - y) (by omega) (by omega)
  have s1 := sq_bd (k.x - x) 20000 (by omega) (by omega)
  have s2 := sq_bd (k.y - y) 20000 (by omega) (by omega)
  have D1 : distL k x y = rootL (wrap64 (wrap64 ((k.x - x) * (k.x - x)) + wrap64 ((k.y - y) * (k.y - y)))) := by rw [E1, sq_sym k.x, sq_sym k.y]; rfl
  rw [D1]
  exact same_below (l02Root_any (wrap64 (wrap64 ((k.x - x) * (k.x - x)) + wrap64 ((k.y - y) * (k.y - y)))) w (by rw [E1]; omega) (by rw [E1]; omega))

set_option maxHeartbeats 4000000 in
theorem specMove_any (b o : Nat) (k : Cr) (va vb vc vd : Int) (fx fy tx ty : Int) (c : Value) (w : World) (h : CrAt w b o k c) (hc : okP k.x k.y = true) (h1 : okP fx fy = true) (h2 : okP tx ty = true) (ha : 1 ≤ va ∧ va ≤ 600) (hvb : 1 ≤ vb ∧ vb ≤ 600) :
    Calls Tryz.prog 44 #[.pointer (some ⟨b, o, none⟩), .agg #[.int .i64 va, .int .i64 vb, .int .i64 vc, .int .i64 vd], .agg #[.int .i64 fx, .int .i64 fy], .agg #[.int .i64 tx, .int .i64 ty]] w fun e w' => e = .returned (.int .i64 (moveN k va vb fx fy tx ty)) ∧ Below w.heap.size w w' := by
  have HDR := Lib.hid (fun u x y (q : okP x y = true) => specDir9_any k.x k.y x y hc q u)
  have HSQ := Lib.hid (fun u x y (q : okP x y = true) => specSqN_any k x y hc q u)
  have HRT := Lib.hid (fun u x y (q : okP x y = true) => specRtN_any k x y hc q u)
  have p1 := dir9_bd k.x k.y fx fy
  have p2 := dir9_bd k.x k.y tx ty
  have q1 := distL_bd hc h1
  have q2 := distL_bd hc h2
  unfold moveN
  have HTU := Lib.hid (fun u => same_below (l02Turn_any (dir9 k.x k.y fx fy) (dir9 k.x k.y tx ty) (by omega) (by omega) u))
  generalize dir9 k.x k.y = D at *
  generalize distL k = L at *
  generalize sqN k = N at *
  have t1 := turnL_bd (D tx ty - D fx fy)
  have t2 := tiltL_bd (n := turnL (D tx ty - D fx fy)) (a := 12) (by omega)
  have HZ1 := Lib.hid (fun u => same_below (size10_any (turnL (D tx ty - D fx fy)) (by omega) u))
  have HZ2 := Lib.hid (fun u => same_below (size10_any (L tx ty - L fx fy) (by omega) u))
  have t3 := tiltL_bd (n := L tx ty - L fx fy) (a := 30000) (by omega)
  have HUP := Lib.hid (fun u => same_below (specUp_any (tiltL (L tx ty - L fx fy)) vb (by omega) (by omega) u))
  have t4 := mul_bd (tiltL (turnL (D tx ty - D fx fy))) va 12 600 t2 (by omega)
  have HMX := Lib.hid (fun u => same_below (max_any (tiltL (turnL (D tx ty - D fx fy)) * va) (upL (tiltL (L tx ty - L fx fy)) vb) u))
  have e1 : IntKind.i64.wrap (tiltL (turnL (D tx ty - D fx fy)) * va) = tiltL (turnL (D tx ty - D fx fy)) * va := wrap_in (by omega)
  have e2 : IntKind.i64.wrap (L tx ty - L fx fy) = L tx ty - L fx fy := wrap_in (by omega)
  obtain ⟨hbk, ⟨_, g1, g2, _⟩, _⟩ := h
  clear p1 p2 q1 q2 t1 t2 t3 t4 ha hvb
  generalize turnL (D tx ty - D fx fy) = T at *
  generalize upL (tiltL (L tx ty - L fx fy)) vb = U at *
  generalize tiltL (L tx ty - L fx fy) = Z2 at *
  obtain ⟨M, hM⟩ : ∃ M, M = tiltL T * va := ⟨_, rfl⟩
  rw [← hM] at HMX e1 ⊢
  rw [hM] at e1
  replace e1 : IntKind.i64.wrap (tiltL T * va) = M := by rw [e1, hM]
  clear hM
  generalize tiltL T = Z1 at *
  obtain ⟨s, x, y, hh, j, bb, zs⟩ := k
  dsimp only at *
  have K0 : Hid (BoxR (((w.alloc (.cells #[.int .i64 va, .int .i64 vb, .int .i64 vc, .int .i64 vd] 41)).alloc (.cells #[.int .i64 fx, .int .i64 fy] 36)).alloc (.cells #[.int .i64 tx, .int .i64 ty] 36)) w.heap.size [.int .i64 va, .int .i64 vb, .int .i64 vc, .int .i64 vd]) := Lib.hid (BoxR_up (BoxR_up (BoxR_new' rfl)))
  have K1 : Hid (BoxR (((w.alloc (.cells #[.int .i64 va, .int .i64 vb, .int .i64 vc, .int .i64 vd] 41)).alloc (.cells #[.int .i64 fx, .int .i64 fy] 36)).alloc (.cells #[.int .i64 tx, .int .i64 ty] 36)) (w.heap.size + 1) [.int .i64 fx, .int .i64 fy]) := Lib.hid (BoxR_up (BoxR_new' (by simp)))
  have K2 : Hid (BoxR (((w.alloc (.cells #[.int .i64 va, .int .i64 vb, .int .i64 vc, .int .i64 vd] 41)).alloc (.cells #[.int .i64 fx, .int .i64 fy] 36)).alloc (.cells #[.int .i64 tx, .int .i64 ty] 36)) (w.heap.size + 2) [.int .i64 tx, .int .i64 ty]) := Lib.hid (BoxR_new' (by simp))
  have G1 : Hid (∀ u, Below w.heap.size w u → u.cell? ⟨b, o + 1, none⟩ = some (.int .i64 x) ∧ u.cell? ⟨b, o + 2, none⟩ = some (.int .i64 y)) := Lib.hid (fun u q => ⟨(kept_cell q _ _ hbk).trans g1, (kept_cell q _ _ hbk).trans g2⟩)
  clear g1 g2 hbk
  go_enter Tryz.func44, Tryz.ntmps44
  go_wp2_with fail
  have B0 : Below w.heap.size w (((w.alloc (.cells #[.int .i64 va, .int .i64 vb, .int .i64 vc, .int .i64 vd] 41)).alloc (.cells #[.int .i64 fx, .int .i64 fy] 36)).alloc (.cells #[.int .i64 tx, .int .i64 ty] 36)) := by go_grown
  have B0 := Lib.hid B0
  have r1 := fun x : BelowBy (((w.alloc (.cells #[.int .i64 va, .int .i64 vb, .int .i64 vc, .int .i64 vd] 41)).alloc (.cells #[.int .i64 fx, .int .i64 fy] 36)).alloc (.cells #[.int .i64 tx, .int .i64 ty] 36)) => (G1.out _ (kept_trans B0.out x.h)).1
  have r2 := fun x : BelowBy (((w.alloc (.cells #[.int .i64 va, .int .i64 vb, .int .i64 vc, .int .i64 vd] 41)).alloc (.cells #[.int .i64 fx, .int .i64 fy] 36)).alloc (.cells #[.int .i64 tx, .int .i64 ty] 36)) => (G1.out _ (kept_trans B0.out x.h)).2
  have r3 := fun x : BelowBy (((w.alloc (.cells #[.int .i64 va, .int .i64 vb, .int .i64 vc, .int .i64 vd] 41)).alloc (.cells #[.int .i64 fx, .int .i64 fy] 36)).alloc (.cells #[.int .i64 tx, .int .i64 ty] 36)) => (BoxR_kept K1.out x.h).2 0 _ rfl
  have r4 := fun x : BelowBy (((w.alloc (.cells #[.int .i64 va, .int .i64 vb, .int .i64 vc, .int .i64 vd] 41)).alloc (.cells #[.int .i64 fx, .int .i64 fy] 36)).alloc (.cells #[.int .i64 tx, .int .i64 ty] 36)) => (BoxR_kept K1.out x.h).2 1 _ rfl
  have r5 := fun x : BelowBy (((w.alloc (.cells #[.int .i64 va, .int .i64 vb, .int .i64 vc, .int .i64 vd] 41)).alloc (.cells #[.int .i64 fx, .int .i64 fy] 36)).alloc (.cells #[.int .i64 tx, .int .i64 ty] 36)) => (BoxR_kept K2.out x.h).2 0 _ rfl
  have r6 := fun x : BelowBy (((w.alloc (.cells #[.int .i64 va, .int .i64 vb, .int .i64 vc, .int .i64 vd] 41)).alloc (.cells #[.int .i64 fx, .int .i64 fy] 36)).alloc (.cells #[.int .i64 tx, .int .i64 ty] 36)) => (BoxR_kept K2.out x.h).2 1 _ rfl
  refine wp_region_below (by kernel_rfl) (by kernel_rfl) ?_
  repeat (go_big_quiet_step ((first | (go_at_call 81; exact below_call (fun _ => HDR.out _ _ _ (by first | exact h1 | exact h2))) | (go_at_call 80; exact below_call (fun _ => HTU.out _)) | (go_at_call 79; exact below_call (fun _ => HZ1.out _)))))
  refine wpQuiet_nil ?_
  intro wq hw'
  obtain ⟨⟨_, hbq⟩, hwq⟩ := hw'
  subst hwq
  (try dsimp only)
  clear r1 r2 r3 r4 r5 r6
  have B1 := Lib.hid (kept_trans B0.out hbq)
  replace K0 := Lib.hid (BoxR_kept K0.out hbq)
  replace K1 := Lib.hid (BoxR_kept K1.out hbq)
  replace K2 := Lib.hid (BoxR_kept K2.out hbq)
  clear B0 hbq
  have r1 := fun x : BelowBy wq => (G1.out _ (kept_trans B1.out x.h)).1
  have r2 := fun x : BelowBy wq => (G1.out _ (kept_trans B1.out x.h)).2
  have r3 := fun x : BelowBy wq => (BoxR_kept K1.out x.h).2 0 _ rfl
  have r4 := fun x : BelowBy wq => (BoxR_kept K1.out x.h).2 1 _ rfl
  go_wp2_with fail
  refine wp_region_below (by kernel_rfl) (by kernel_rfl) ?_
  repeat (go_big_quiet_step ((first | (go_at_call 83; exact below_call (fun _ => HSQ.out _ _ _ h1)) | (go_at_call 82; exact below_call (fun _ => HRT.out _ _ _ h1)))))
  refine wpQuiet_nil ?_
  intro wq hw'
  obtain ⟨⟨_, hbq⟩, hwq⟩ := hw'
  subst hwq
  (try dsimp only)
  clear r1 r2 r3 r4
  have B2 := Lib.hid (kept_trans B1.out hbq)
  replace K0 := Lib.hid (BoxR_kept K0.out hbq)
  replace K2 := Lib.hid (BoxR_kept K2.out hbq)
  clear B1 hbq K1
  have r1 := fun x : BelowBy wq => (G1.out _ (kept_trans B2.out x.h)).1
  have r2 := fun x : BelowBy wq => (G1.out _ (kept_trans B2.out x.h)).2
  have r5 := fun x : BelowBy wq => (BoxR_kept K2.out x.h).2 0 _ rfl
  have r6 := fun x : BelowBy wq => (BoxR_kept K2.out x.h).2 1 _ rfl
  go_wp2_with fail
  refine wp_region_below (by kernel_rfl) (by kernel_rfl) ?_
  repeat (go_big_quiet_step ((first | (go_at_call 83; exact below_call (fun _ => HSQ.out _ _ _ h2)) | (go_at_call 82; exact below_call (fun _ => HRT.out _ _ _ h2)))))
  refine wpQuiet_nil ?_
  intro wq hw'
  obtain ⟨⟨_, hbq⟩, hwq⟩ := hw'
  subst hwq
  (try dsimp only)
  clear r1 r2 r5 r6
  have B3 := Lib.hid (kept_trans B2.out hbq)
  replace K0 := Lib.hid (BoxR_kept K0.out hbq)
  clear B2 hbq K2
  have SOF := Lib.hid (show ∀ u, Below wq.heap.size wq u → (fun w' => w'.cell? ⟨w.heap.size, 0, none⟩ = some (.int .i64 va) ∧ w'.cell? ⟨w.heap.size, 1, none⟩ = some (.int .i64 vb)) u from fun u q => ⟨(BoxR_kept K0.out q).2 0 _ rfl, (BoxR_kept K0.out q).2 1 _ rfl⟩)
  go_wp2_with fail
  go_region_held3 (fun w' => w'.cell? ⟨w.heap.size, 0, none⟩ = some (.int .i64 va) ∧ w'.cell? ⟨w.heap.size, 1, none⟩ = some (.int .i64 vb)) (first | (refine SOF.out _ ?_; assumption) | (refine SOF.out _ ?_; go_grown)) (first
    | (go_at_call 84; have p2 := q2; refine (HMX.out _).mono ?_; rintro e v3 ⟨rfl, h3⟩; have q3 := kept_trans (a := wq) q2 h3)
    | (go_at_call 74; have p1 := q1; refine (HUP.out _).mono ?_; rintro e v2 ⟨rfl, h2⟩; have q2 := kept_trans (a := wq) q1 h2)
    | (go_at_call 79; refine (HZ2.out _).mono ?_; rintro e v1 ⟨rfl, h1⟩; have q1 := kept_trans (a := wq) (by go_grown) h1))
  go_wp2
  go_ret
  exact ⟨rfl, kept_trans B3.out q3⟩

set_option maxHeartbeats 4000000 in
theorem specLiftN_any (b1 o1 b2 o2 : Nat) (k : Cr) (va vb vc vd : Int) (l : Lf) (c d : Value) (w : World) (h : CrAt w b1 o1 k c) (hl : LfAt w b2 o2 l d) (hc : okP k.x k.y = true) (hf : fldB l = true) (hs : spB va vb vc vd = true) :
    Calls Tryz.prog 37 #[.pointer (some ⟨b1, o1, none⟩), .agg #[.int .i64 va, .int .i64 vb, .int .i64 vc, .int .i64 vd], .pointer (some ⟨b2, o2, none⟩)] w fun e w' => e = .returned (.int .i64 (liftN k va vb vc vd l)) ∧ Below w.heap.size w w' := by
  have g := spB_true hs
  have f := fldB_true hf
  have HM := Lib.hid (fun u (q : Below w.heap.size w u) => specMove_any b1 o1 k va vb vc vd l.fx l.fy l.tx l.ty c u (CrAt_kept h q) hc f.2.1 f.2.2.1 g.1 g.2.1)
  have mb := moveN_bd hc f.2.1 f.2.2.1 g.1 g.2.1
  have HU := Lib.hid (fun u => same_below (specUp_any (l.h + 30) vc (by omega) (by omega) u))
  have ub := upL_bd (n := l.h + 30) (d := vc) (by omega) (by omega)
  have e1 : IntKind.i64.wrap (2 * vd) = 2 * vd := wrap_in (by omega)
  have e2 : IntKind.i64.wrap (l.h + 30) = l.h + 30 := wrap_in (by omega)
  have e3 : IntKind.i64.wrap (2 * upL (l.h + 30) vc) = 2 * upL (l.h + 30) vc := wrap_in (by omega)
  have e4 : IntKind.i64.wrap (2 * vd + 2 * upL (l.h + 30) vc) = 2 * vd + 2 * upL (l.h + 30) vc := wrap_in (by omega)
  have e5 : IntKind.i64.wrap (2 * vd + 2 * upL (l.h + 30) vc + moveN k va vb l.fx l.fy l.tx l.ty) = 2 * vd + 2 * upL (l.h + 30) vc + moveN k va vb l.fx l.fy l.tx l.ty := wrap_in (by omega)
  unfold liftN
  obtain ⟨hb2, ⟨_, _, c2, c3, c4, c5, c6, _, _⟩, _⟩ := hl
  clear h g f mb ub hc hf hs
  generalize moveN k va vb l.fx l.fy l.tx l.ty = M at *
  obtain ⟨ls, i1, i2, i3, i4, i5, i6, i7, us⟩ := l
  dsimp only at *
  generalize upL (i6 + 30) vc = U at *
  have K0 : Hid (BoxR (w.alloc (.cells #[.int .i64 va, .int .i64 vb, .int .i64 vc, .int .i64 vd] 41)) w.heap.size [.int .i64 va, .int .i64 vb, .int .i64 vc, .int .i64 vd]) := Lib.hid (BoxR_new' rfl)
  have B0 : Hid (Below w.heap.size w (w.alloc (.cells #[.int .i64 va, .int .i64 vb, .int .i64 vc, .int .i64 vd] 41))) := Lib.hid (by go_grown)
  have f2 := fun x : BelowBy (w.alloc (.cells #[.int .i64 va, .int .i64 vb, .int .i64 vc, .int .i64 vd] 41)) => (kept_cell (kept_trans B0.out x.h) _ _ hb2).trans c2
  have f3 := fun x : BelowBy (w.alloc (.cells #[.int .i64 va, .int .i64 vb, .int .i64 vc, .int .i64 vd] 41)) => (kept_cell (kept_trans B0.out x.h) _ _ hb2).trans c3
  have f4 := fun x : BelowBy (w.alloc (.cells #[.int .i64 va, .int .i64 vb, .int .i64 vc, .int .i64 vd] 41)) => (kept_cell (kept_trans B0.out x.h) _ _ hb2).trans c4
  have f5 := fun x : BelowBy (w.alloc (.cells #[.int .i64 va, .int .i64 vb, .int .i64 vc, .int .i64 vd] 41)) => (kept_cell (kept_trans B0.out x.h) _ _ hb2).trans c5
  have f6 := fun x : BelowBy (w.alloc (.cells #[.int .i64 va, .int .i64 vb, .int .i64 vc, .int .i64 vd] 41)) => (kept_cell (kept_trans B0.out x.h) _ _ hb2).trans c6
  have r0 := fun x : BelowBy (w.alloc (.cells #[.int .i64 va, .int .i64 vb, .int .i64 vc, .int .i64 vd] 41)) => (BoxR_kept K0.out x.h).2 0 _ rfl
  have r1 := fun x : BelowBy (w.alloc (.cells #[.int .i64 va, .int .i64 vb, .int .i64 vc, .int .i64 vd] 41)) => (BoxR_kept K0.out x.h).2 1 _ rfl
  have r2 := fun x : BelowBy (w.alloc (.cells #[.int .i64 va, .int .i64 vb, .int .i64 vc, .int .i64 vd] 41)) => (BoxR_kept K0.out x.h).2 2 _ rfl
  have r3 := fun x : BelowBy (w.alloc (.cells #[.int .i64 va, .int .i64 vb, .int .i64 vc, .int .i64 vd] 41)) => (BoxR_kept K0.out x.h).2 3 _ rfl
  clear c2 c3 c4 c5 c6 hb2
  go_enter Tryz.func37, Tryz.ntmps37
  go_wp2_with fail
  refine wp_region_below (by kernel_rfl) (by kernel_rfl) ?_
  repeat (go_big_quiet_step ((first | (go_at_call 74; exact below_call (fun _ => HU.out _)) | (go_at_call 44; exact below_call (fun hbx => HM.out _ (kept_trans B0.out hbx))))))
  refine wpQuiet_nil ?_
  intro wq hw'
  obtain ⟨⟨_, hbq⟩, hwq⟩ := hw'
  subst hwq
  (try dsimp only)
  go_wp2
  go_ret
  exact ⟨rfl, kept_trans B0.out hbq⟩

set_option maxHeartbeats 4000000 in
theorem swing_any (b o : Nat) (k : Cr) (fx fy tx ty : Int) (c : Value) (w : World) (h : CrAt w b o k c) (ht : VecTab w) :
    Calls Tryz.prog 50 #[.pointer (some ⟨b, o, none⟩), .agg #[.int .i64 fx, .int .i64 fy], .agg #[.int .i64 tx, .int .i64 ty]] w fun e w' => ∃ g, e = .returned (.iface 145 (.slice (some ⟨g, 0, none⟩) 2 2)) ∧
      BoxR w' g [.iface 140 (.agg #[.int .i64 (dirToL k.x k.y fx fy).1, .int .i64 (dirToL k.x k.y tx ty).1]), .iface 143 (.agg #[.int .i64 (radL k.x k.y fx fy).1, .int .i64 (radL k.x k.y tx ty).1])] ∧ Below w.heap.size w w' := by
  have hW : Below w.heap.size w ((w.alloc (.cells #[.int .i64 fx, .int .i64 fy] 36)).alloc (.cells #[.int .i64 tx, .int .i64 ty] 36)) := by go_grown
  have K1 : BoxR ((w.alloc (.cells #[.int .i64 fx, .int .i64 fy] 36)).alloc (.cells #[.int .i64 tx, .int .i64 ty] 36)) w.heap.size [.int .i64 fx, .int .i64 fy] := BoxR_up (BoxR_new' rfl)
  have K2 : BoxR ((w.alloc (.cells #[.int .i64 fx, .int .i64 fy] 36)).alloc (.cells #[.int .i64 tx, .int .i64 ty] 36)) (w.heap.size + 1) [.int .i64 tx, .int .i64 ty] := BoxR_new' (by simp)
  obtain ⟨D, hD⟩ : ∃ D : Int → Int → Int, D = fun x y => (dirToL k.x k.y x y).1 := ⟨_, rfl⟩
  obtain ⟨R, hR⟩ : ∃ R : Int → Int → Int, R = fun x y => (radL k.x k.y x y).1 := ⟨_, rfl⟩
  rw [show (dirToL k.x k.y fx fy).1 = D fx fy by rw [hD], show (dirToL k.x k.y tx ty).1 = D tx ty by rw [hD], show (radL k.x k.y fx fy).1 = R fx fy by rw [hR], show (radL k.x k.y tx ty).1 = R tx ty by rw [hR]]
  have HDA : Hid (∀ u x y, Below ((w.alloc (.cells #[.int .i64 fx, .int .i64 fy] 36)).alloc (.cells #[.int .i64 tx, .int .i64 ty] 36)).heap.size ((w.alloc (.cells #[.int .i64 fx, .int .i64 fy] 36)).alloc (.cells #[.int .i64 tx, .int .i64 ty] 36)) u → Calls Tryz.prog 92 #[.pointer (some ⟨b, o, none⟩), .agg #[.int .i64 x, .int .i64 y]] u fun e w' => e = .returned (.int .i64 (D x y)) ∧ Below u.heap.size u w') := Lib.hid (fun u x y q => by subst hD; exact directionAt_any b o k c x y u (CrAt_kept h (kept_trans hW q)) (VecTab_kept ht (kept_trans hW q)))
  have HRA : Hid (∀ u x y, Below ((w.alloc (.cells #[.int .i64 fx, .int .i64 fy] 36)).alloc (.cells #[.int .i64 tx, .int .i64 ty] 36)).heap.size ((w.alloc (.cells #[.int .i64 fx, .int .i64 fy] 36)).alloc (.cells #[.int .i64 tx, .int .i64 ty] 36)) u → Calls Tryz.prog 93 #[.pointer (some ⟨b, o, none⟩), .agg #[.int .i64 x, .int .i64 y]] u fun e w' => e = .returned (.int .i64 (R x y)) ∧ Below u.heap.size u w') := Lib.hid (fun u x y q => by subst hR; exact radiusAt_any b o k c x y u (CrAt_kept h (kept_trans hW q)))
  clear h ht hD hR
  have HB := Lib.hid hW; clear hW
  have SOF := Lib.hid (show ∀ u, Below ((w.alloc (.cells #[.int .i64 fx, .int .i64 fy] 36)).alloc (.cells #[.int .i64 tx, .int .i64 ty] 36)).heap.size ((w.alloc (.cells #[.int .i64 fx, .int .i64 fy] 36)).alloc (.cells #[.int .i64 tx, .int .i64 ty] 36)) u → (fun w' => w'.cell? ⟨w.heap.size, 0, none⟩ = some (.int .i64 fx) ∧ w'.cell? ⟨w.heap.size, 1, none⟩ = some (.int .i64 fy) ∧ w'.cell? ⟨w.heap.size + 1, 0, none⟩ = some (.int .i64 tx) ∧ w'.cell? ⟨w.heap.size + 1, 1, none⟩ = some (.int .i64 ty)) u from fun u q => ⟨(BoxR_kept K1 q).2 0 _ rfl, (BoxR_kept K1 q).2 1 _ rfl, (BoxR_kept K2 q).2 0 _ rfl, (BoxR_kept K2 q).2 1 _ rfl⟩)
  clear K1 K2
  have hrefl := Below.refl ((w.alloc (.cells #[.int .i64 fx, .int .i64 fy] 36)).alloc (.cells #[.int .i64 tx, .int .i64 ty] 36)).heap.size ((w.alloc (.cells #[.int .i64 fx, .int .i64 fy] 36)).alloc (.cells #[.int .i64 tx, .int .i64 ty] 36))
  go_enter Tryz.func50, Tryz.ntmps50
  go_wp2_with fail
  first
    | go_region_held3 (fun w' => w'.cell? ⟨w.heap.size, 0, none⟩ = some (.int .i64 fx) ∧ w'.cell? ⟨w.heap.size, 1, none⟩ = some (.int .i64 fy) ∧ w'.cell? ⟨w.heap.size + 1, 0, none⟩ = some (.int .i64 tx) ∧ w'.cell? ⟨w.heap.size + 1, 1, none⟩ = some (.int .i64 ty)) (first | (refine SOF.out _ ?_; assumption) | (refine SOF.out _ (kept_trans k4 ?_); go_grown) | (refine SOF.out _ ?_; go_grown)) (first
        | (go_at_call 93; have p3 := k3; refine (HRA.out _ _ _ k3).mono ?_; rintro e w4 ⟨rfl, h4⟩; have k4 := kept_trans (a := ((w.alloc (.cells #[.int .i64 fx, .int .i64 fy] 36)).alloc (.cells #[.int .i64 tx, .int .i64 ty] 36))) k3 h4)
        | (go_at_call 93; have p2 := k2; refine (HRA.out _ _ _ k2).mono ?_; rintro e w3 ⟨rfl, h3⟩; have k3 := kept_trans (a := ((w.alloc (.cells #[.int .i64 fx, .int .i64 fy] 36)).alloc (.cells #[.int .i64 tx, .int .i64 ty] 36))) k2 h3)
        | (go_at_call 92; have p1 := k1; refine (HDA.out _ _ _ k1).mono ?_; rintro e w2 ⟨rfl, h2⟩; have k2 := kept_trans (a := ((w.alloc (.cells #[.int .i64 fx, .int .i64 fy] 36)).alloc (.cells #[.int .i64 tx, .int .i64 ty] 36))) k1 h2)
        | (go_at_call 92; refine (HDA.out _ _ _ (by go_grown)).mono ?_; rintro e w1 ⟨rfl, h1⟩; have k1 := kept_trans (a := ((w.alloc (.cells #[.int .i64 fx, .int .i64 fy] 36)).alloc (.cells #[.int .i64 tx, .int .i64 ty] 36))) (by go_grown) h1))
    | fail
  go_wp2
  go_ret
  exact ⟨_, rfl, BoxR_new' rfl, kept_trans HB.out (kept_trans k4 (by go_grown))⟩

/-- The longest of the first two moves. -/
def togT (x y : Int) : Nat → Int
  | 0 => 0
  | 1 => max 0 x
  | _ => max (max 0 x) y

set_option maxHeartbeats 2000000 in
theorem togSecs_any (va vb vc vd : Int) (g : Nat) (a b x y : Int) (hx : 0 ≤ x ∧ x ≤ 1000000) (hy : 0 ≤ y ∧ y ≤ 1000000) (hva : 1 ≤ va ∧ va ≤ 600) (hvb : 1 ≤ vb ∧ vb ≤ 600) (w : World)
    (hg : BoxR w g [.iface 140 (.agg #[.int .i64 a, .int .i64 b]), .iface 143 (.agg #[.int .i64 x, .int .i64 y])]) :
    Calls Tryz.prog 172 #[.slice (some ⟨g, 0, none⟩) 2 2, .agg #[.int .i64 va, .int .i64 vb, .int .i64 vc, .int .i64 vd]] w fun e w' => e = .returned (.int .i64 (max (max 0 (tiltL (turnBetweenL a b).1 * va)) (upL (tiltL (y - x)) vb))) ∧ Below w.heap.size w w' := by
  have HT := Lib.hid (fun u => turnSecs_any va vb vc vd a b hva u)
  have HR := Lib.hid (fun u => rideSecs_any va vb vc vd x y hx hy hvb u)
  have hmx := fun ts t u (a b : Int) => max2_any (P := Tryz.prog) u ts t a b
  clear hx hy hva hvb
  have hR : max (max 0 (tiltL (turnBetweenL a b).1 * va)) (upL (tiltL (y - x)) vb) = togT (tiltL (turnBetweenL a b).1 * va) (upL (tiltL (y - x)) vb) 2 := rfl
  rw [hR]
  generalize tiltL (turnBetweenL a b).1 * va = X at *
  generalize upL (tiltL (y - x)) vb = Y at *
  clear hR
  have G := Lib.hid (fun u (q : Below w.heap.size w u) => BoxR_kept hg q)
  have hgl := hg.1
  clear hg
  go_enter Tryz.func172, Tryz.ntmps172
  go_wp2_with fail
  go_loopw [5, 10] (fun m i wr => ∃ k : Nat, k ≤ 2 ∧ i = .int .i64 k ∧ m = .int .i64 (togT X Y k) ∧ Below (w.alloc (.cells #[.int .i64 va, .int .i64 vb, .int .i64 vc, .int .i64 vd] 41)).heap.size (w.alloc (.cells #[.int .i64 va, .int .i64 vb, .int .i64 vc, .int .i64 vd] 41)) wr) (fun _ i _ => 2 - (intOf i).toNat)
  case atStart => exact ⟨0, by omega, rfl, rfl, Below.refl _ _⟩
  case round =>
    obtain ⟨k, hk, rfl, rfl, hb⟩ := hrel
    have hw0 : Below w.heap.size w wr := kept_trans (by go_grown) hb
    obtain ⟨gl, gc⟩ := G.out _ hw0
    refine kept_at hb w.heap.size (by go_size) fun c0 z0 s0 => ?_
    rcases (show k = 0 ∨ k = 1 ∨ k = 2 by omega) with rfl | rfl | rfl
    · have hc := gc 0 _ rfl
      clear gc
      go_wp2_with fail
      refine (HT.out _).mono ?_
      rintro e w1 ⟨rfl, hb1⟩
      have b1 := kept_trans hb hb1
      go_wp2
      go_roundw
      case rel => exact ⟨1, by omega, rfl, rfl, b1⟩
      case measure => simp [intOf]
    · have hc := gc 1 _ rfl
      clear gc
      go_wp2_with fail
      refine (HR.out _).mono ?_
      rintro e w1 ⟨rfl, hb1⟩
      have b1 := kept_trans hb hb1
      go_wp2
      go_roundw
      case rel => exact ⟨2, by omega, rfl, rfl, b1⟩
      case measure => simp [intOf]
    · go_wp2
      go_ret
      exact ⟨rfl, hw0⟩

theorem move_eq {k : Cr} {va vb fx fy tx ty : Int} (hc : okP k.x k.y = true) (h1 : okP fx fy = true) (h2 : okP tx ty = true) (ha : 1 ≤ va ∧ va ≤ 600) :
    max (max 0 (tiltL (turnBetweenL (dirToL k.x k.y fx fy).1 (dirToL k.x k.y tx ty).1).1 * va)) (upL (tiltL ((radL k.x k.y tx ty).1 - (radL k.x k.y fx fy).1)) vb) = moveN k va vb fx fy tx ty := by
  have e1 : (dirToL k.x k.y fx fy).1 = dir9 k.x k.y fx fy := by unfold dirToL dir9; simp only [hc, h1, Bool.and_self, if_true]; split <;> rfl
  have e2 : (dirToL k.x k.y tx ty).1 = dir9 k.x k.y tx ty := by unfold dirToL dir9; simp only [hc, h2, Bool.and_self, if_true]; split <;> rfl
  have e3 : (radL k.x k.y fx fy).1 = distL k fx fy := by simp [radL, distL, hc, h1]
  have e4 : (radL k.x k.y tx ty).1 = distL k tx ty := by simp [radL, distL, hc, h2]
  have p1 := dir9_bd k.x k.y fx fy
  have p2 := dir9_bd k.x k.y tx ty
  have e5 : (turnBetweenL (dir9 k.x k.y fx fy) (dir9 k.x k.y tx ty)).1 = turnL (dir9 k.x k.y tx ty - dir9 k.x k.y fx fy) := by
    unfold turnBetweenL
    rw [if_pos (by simp [inB]; omega)]
  have t := turnL_bd (dir9 k.x k.y tx ty - dir9 k.x k.y fx fy)
  have z := tiltL_bd (n := turnL (dir9 k.x k.y tx ty - dir9 k.x k.y fx fy)) (a := 12) (by omega)
  have m := mul_bd (tiltL (turnL (dir9 k.x k.y tx ty - dir9 k.x k.y fx fy))) va 12 600 z (by omega)
  rw [e1, e2, e3, e4, e5]
  unfold moveN
  omega

/-- The time of the first moves of a lift: to hook, to hoist, to swing, to lower, to unhook. -/
def inT (vd H T : Int) : Nat → Int
  | 0 => 0
  | 1 => vd
  | 2 => vd + H
  | 3 => vd + H + T
  | 4 => vd + H + T + H
  | _ => vd + H + T + H + vd

set_option maxHeartbeats 4000000 in
theorem inTurnSecs_any (va vb vc vd : Int) (g2 g : Nat) (h a b x y : Int) (hh : 0 ≤ h ∧ h ≤ 1000000) (hx : 0 ≤ x ∧ x ≤ 1000000) (hy : 0 ≤ y ∧ y ≤ 1000000) (hva : 1 ≤ va ∧ va ≤ 600) (hvb : 1 ≤ vb ∧ vb ≤ 600) (hvc : 1 ≤ vc ∧ vc ≤ 600) (hvd : 1 ≤ vd ∧ vd ≤ 600) (w : World)
    (hg2 : BoxR w g2 [.iface 166 (.agg #[]), .iface 163 (.agg #[.int .i64 0, .int .i64 (h)]), .iface 145 (.slice (some ⟨g, 0, none⟩) 2 2), .iface 163 (.agg #[.int .i64 0, .int .i64 (h)]), .iface 166 (.agg #[])]) (hg : BoxR w g [.iface 140 (.agg #[.int .i64 a, .int .i64 b]), .iface 143 (.agg #[.int .i64 x, .int .i64 y])]) :
    Calls Tryz.prog 175 #[.slice (some ⟨g2, 0, none⟩) 5 5, .agg #[.int .i64 va, .int .i64 vb, .int .i64 vc, .int .i64 vd]] w fun e w' => e = .returned (.int .i64 (inT vd (upL (tiltL (h - 0)) vc) (max (max 0 (tiltL (turnBetweenL a b).1 * va)) (upL (tiltL (y - x)) vb)) 5)) ∧ Below w.heap.size w w' := by
  have HT := Lib.hid (fun u (q : Below w.heap.size w u) => togSecs_any va vb vc vd g a b x y hx hy hva hvb u (BoxR_kept hg q))
  have HH := Lib.hid (fun u => hoistSecs_any va vb vc vd 0 h (by omega) hh hvc u)
  have HK := Lib.hid (fun u => hookSecs_any va vb vc vd u)
  have t1 := turnBL_bd a b
  have t2 := tiltL_bd (n := (turnBetweenL a b).1) (a := 12) (by omega)
  have t3 := mul_bd (tiltL (turnBetweenL a b).1) va 12 600 t2 (by omega)
  have t4 := tiltL_bd (n := y - x) (a := 1000000) (by omega)
  have t5 := upL_bd (n := tiltL (y - x)) (d := vb) (by omega) (by omega)
  have t6 := tiltL_bd (n := h - 0) (a := 1000000) (by omega)
  have t7 := upL_bd (n := tiltL (h - 0)) (d := vc) (by omega) (by omega)
  have t8 : 0 ≤ max (max 0 (tiltL (turnBetweenL a b).1 * va)) (upL (tiltL (y - x)) vb) ∧ max (max 0 (tiltL (turnBetweenL a b).1 * va)) (upL (tiltL (y - x)) vb) ≤ 2000000 := by omega
  have t9 : 0 ≤ upL (tiltL (h - 0)) vc ∧ upL (tiltL (h - 0)) vc ≤ 2000000 := by omega
  generalize max (max 0 (tiltL (turnBetweenL a b).1 * va)) (upL (tiltL (y - x)) vb) = T at *
  generalize upL (tiltL (h - 0)) vc = H at *
  obtain ⟨S, hS⟩ : ∃ S : Nat → Int, S = inT vd H T := ⟨_, rfl⟩
  have s0 : S 0 = 0 := by rw [hS]; rfl
  have s1 : wrap64 (S 0 + vd) = S 1 := by rw [IntWalk.wrap64_in _ (by rw [hS]; simp only [inT]; omega), hS]; simp only [inT]; omega
  have s1' : wrap64 vd = S 1 := by rw [← s1, s0, Int.zero_add]
  have s2 : wrap64 (S 1 + H) = S 2 := by rw [IntWalk.wrap64_in _ (by rw [hS]; simp only [inT]; omega), hS]; simp only [inT]
  have s3 : wrap64 (S 2 + T) = S 3 := by rw [IntWalk.wrap64_in _ (by rw [hS]; simp only [inT]; omega), hS]; simp only [inT]
  have s4 : wrap64 (S 3 + H) = S 4 := by rw [IntWalk.wrap64_in _ (by rw [hS]; simp only [inT]; omega), hS]; simp only [inT]
  have s5 : wrap64 (S 4 + vd) = S 5 := by rw [IntWalk.wrap64_in _ (by rw [hS]; simp only [inT]; omega), hS]; simp only [inT]
  rw [← hS]
  clear hS t1 t2 t3 t4 t5 t6 t7 t8 t9 hh hx hy hva hvb hvc hvd
  have G := Lib.hid (fun u (q : Below w.heap.size w u) => BoxR_kept hg2 q)
  have hgl := hg2.1
  clear hg hg2
  go_enter Tryz.func175, Tryz.ntmps175
  go_wp2_with fail
  go_loopw [5, 10] (fun m i wr => ∃ k : Nat, k ≤ 5 ∧ i = .int .i64 k ∧ m = .int .i64 (S k) ∧ Below (w.alloc (.cells #[.int .i64 va, .int .i64 vb, .int .i64 vc, .int .i64 vd] 41)).heap.size (w.alloc (.cells #[.int .i64 va, .int .i64 vb, .int .i64 vc, .int .i64 vd] 41)) wr) (fun _ i _ => 5 - (intOf i).toNat)
  case atStart => exact ⟨0, by omega, rfl, by rw [s0], Below.refl _ _⟩
  case round =>
    obtain ⟨k, hk, rfl, rfl, hb⟩ := hrel
    have hw0 : Below w.heap.size w wr := kept_trans (by go_grown) hb
    obtain ⟨gl, gc⟩ := G.out _ hw0
    refine kept_at hb w.heap.size (by go_size) fun c0 z0 s0' => ?_
    rcases (show k = 0 ∨ k = 1 ∨ k = 2 ∨ k = 3 ∨ k = 4 ∨ k = 5 by omega) with rfl | rfl | rfl | rfl | rfl | rfl
    · have hc := gc 0 _ rfl
      clear gc
      go_wp2_with fail
      refine (HK.out _).mono ?_
      rintro e w1 ⟨rfl, hb1⟩
      have b1 := kept_trans hb hb1
      go_wp2
      go_roundw
      case rel => exact ⟨1, by omega, rfl, by first | (simp [s1]; done) | simp [s1'], b1⟩
      case measure => simp [intOf]
    · have hc := gc 1 _ rfl
      clear gc
      go_wp2_with fail
      refine (HH.out _).mono ?_
      rintro e w1 ⟨rfl, hb1⟩
      have b1 := kept_trans hb hb1
      go_wp2
      go_roundw
      case rel => exact ⟨2, by omega, rfl, by first | (simp [s2]; done) | simp [s1'], b1⟩
      case measure => simp [intOf]
    · have hc := gc 2 _ rfl
      clear gc
      go_wp2_with fail
      refine (HT.out _ (kept_trans (a := w) hw0 (by first | exact Below.refl _ _ | go_grown))).mono ?_
      rintro e w1 ⟨rfl, hb1⟩
      have b1 := kept_trans hb hb1
      go_wp2
      go_roundw
      case rel => exact ⟨3, by omega, rfl, by first | (simp [s3]; done) | simp [s1'], b1⟩
      case measure => simp [intOf]
    · have hc := gc 3 _ rfl
      clear gc
      go_wp2_with fail
      refine (HH.out _).mono ?_
      rintro e w1 ⟨rfl, hb1⟩
      have b1 := kept_trans hb hb1
      go_wp2
      go_roundw
      case rel => exact ⟨4, by omega, rfl, by first | (simp [s4]; done) | simp [s1'], b1⟩
      case measure => simp [intOf]
    · have hc := gc 4 _ rfl
      clear gc
      go_wp2_with fail
      refine (HK.out _).mono ?_
      rintro e w1 ⟨rfl, hb1⟩
      have b1 := kept_trans hb hb1
      go_wp2
      go_roundw
      case rel => exact ⟨5, by omega, rfl, by first | (simp [s5]; done) | simp [s1'], b1⟩
      case measure => simp [intOf]
    · go_wp2
      go_ret
      exact ⟨rfl, hw0⟩

set_option maxHeartbeats 4000000 in
theorem carry_any (b o : Nat) (k : Cr) (l : Lf) (c d : Value) (w : World) (h : CrAt w b o k c) (hd : RdI w d l.af) (hh : 0 ≤ l.h ∧ l.h ≤ 2000) (ht : VecTab w) :
    Calls Tryz.prog 91 #[.pointer (some ⟨b, o, none⟩), .agg #[.string l.nm, .int .i64 l.wt, .int .i64 l.fx, .int .i64 l.fy, .int .i64 l.tx, .int .i64 l.ty, .int .i64 l.h, .int .i64 l.dl, d]] w fun e w' => ∃ g2 g, e = .returned (.iface 167 (.slice (some ⟨g2, 0, none⟩) 5 5)) ∧
      BoxR w' g2 [.iface 166 (.agg #[]), .iface 163 (.agg #[.int .i64 0, .int .i64 (l.h + 30)]), .iface 145 (.slice (some ⟨g, 0, none⟩) 2 2), .iface 163 (.agg #[.int .i64 0, .int .i64 (l.h + 30)]), .iface 166 (.agg #[])] ∧ BoxR w' g [.iface 140 (.agg #[.int .i64 (dirToL k.x k.y l.fx l.fy).1, .int .i64 (dirToL k.x k.y l.tx l.ty).1]), .iface 143 (.agg #[.int .i64 (radL k.x k.y l.fx l.fy).1, .int .i64 (radL k.x k.y l.tx l.ty).1])] ∧ Below w.heap.size w w' := by
  have HS := Lib.hid (fun u (q : Below w.heap.size w u) => swing_any b o k l.fx l.fy l.tx l.ty c u (CrAt_kept h q) (VecTab_kept ht q))
  have HH := Lib.hid (fun u => hoistTo_any (l.h + 30) u)
  obtain ⟨H, hH⟩ : ∃ H, H = l.h + 30 := ⟨_, rfl⟩
  have e1 : wrap64 (l.h + 30) = H := by rw [IntWalk.wrap64_in _ (by omega), hH]
  have e2 : IntKind.i64.wrap (l.h + 30) = H := by rw [wrap_in (by omega), hH]
  rw [← hH] at HH ⊢
  obtain ⟨A2, cp2, rfl, _, _⟩ := RdI_slice hd
  clear h ht hd hh hH
  generalize (dirToL k.x k.y l.fx l.fy).1 = D1 at *
  generalize (dirToL k.x k.y l.tx l.ty).1 = D2 at *
  generalize (radL k.x k.y l.fx l.fy).1 = R1 at *
  generalize (radL k.x k.y l.tx l.ty).1 = R2 at *
  obtain ⟨ls, i1, i2, i3, i4, i5, i6, i7, us⟩ := l
  dsimp only at *
  have HB := Lib.hid (BoxR_new' (u := w) (t := 44) (arr := #[.string ls, .int .i64 i1, .int .i64 i2, .int .i64 i3, .int .i64 i4, .int .i64 i5, .int .i64 i6, .int .i64 i7, .slice A2 us.length cp2]) (rfl : w.heap.size = w.heap.size))
  go_enter Tryz.func91, Tryz.ntmps91
  go_wp2_with fail
  refine (HH.out _).mono ?_
  rintro e w1 ⟨rfl, hb1⟩
  have k1 := kept_trans (a := w) (by go_grown) hb1
  have X1 := Lib.hid (BoxR_kept HB.out hb1)
  have KW : BoxR (w1.alloc (.cells #[.int .i64 0, .int .i64 H] 163)) w1.heap.size [.int .i64 0, .int .i64 H] := BoxR_new' rfl
  have SOF := Lib.hid (show ∀ u, Below (w1.alloc (.cells #[.int .i64 0, .int .i64 H] 163)).heap.size (w1.alloc (.cells #[.int .i64 0, .int .i64 H] 163)) u → (fun w' => w'.cell? ⟨w.heap.size, 2, none⟩ = some (.int .i64 i2) ∧ w'.cell? ⟨w.heap.size, 3, none⟩ = some (.int .i64 i3) ∧ w'.cell? ⟨w.heap.size, 4, none⟩ = some (.int .i64 i4) ∧ w'.cell? ⟨w.heap.size, 5, none⟩ = some (.int .i64 i5) ∧ w'.cell? ⟨w1.heap.size, 0, none⟩ = some (.int .i64 0) ∧ w'.cell? ⟨w1.heap.size, 1, none⟩ = some (.int .i64 H)) u from fun u q => by
    have h := BoxR_kept (BoxR_up X1.out) q
    have h2 := BoxR_kept KW q
    exact ⟨h.2 2 _ rfl, h.2 3 _ rfl, h.2 4 _ rfl, h.2 5 _ rfl, h2.2 0 _ rfl, h2.2 1 _ rfl⟩)
  have K1 := Lib.hid k1
  clear k1 KW
  go_wp2_with fail
  go_region_held3 (fun w' => w'.cell? ⟨w.heap.size, 2, none⟩ = some (.int .i64 i2) ∧ w'.cell? ⟨w.heap.size, 3, none⟩ = some (.int .i64 i3) ∧ w'.cell? ⟨w.heap.size, 4, none⟩ = some (.int .i64 i4) ∧ w'.cell? ⟨w.heap.size, 5, none⟩ = some (.int .i64 i5) ∧ w'.cell? ⟨w1.heap.size, 0, none⟩ = some (.int .i64 0) ∧ w'.cell? ⟨w1.heap.size, 1, none⟩ = some (.int .i64 H)) (first | (refine SOF.out _ ?_; assumption) | (refine SOF.out _ (kept_trans q1 ?_); go_grown) | (refine SOF.out _ ?_; go_grown)) (first
    | (go_at_call 50; refine (HS.out _ (kept_trans K1.out (by go_grown))).mono ?_; rintro e v1 ⟨g, rfl, hg, h1⟩; have q1 := kept_trans (a := (w1.alloc (.cells #[.int .i64 0, .int .i64 H] 163))) (by go_grown) h1))
  go_wp2
  go_ret
  exact ⟨_, g, rfl, BoxR_new' rfl, BoxR_kept hg (by go_grown), kept_trans K1.out (kept_trans (by go_grown : Below w1.heap.size w1 (w1.alloc (.cells #[.int .i64 0, .int .i64 H] 163))) (kept_trans q1 (by go_grown)))⟩

set_option maxHeartbeats 4000000 in
theorem timeOf_any (b o : Nat) (k : Cr) (va vb vc vd : Int) (l : Lf) (c d : Value) (w : World) (h : CrAt w b o k c) (hd : RdI w d l.af) (hc : craneB k = true) (hf : fldB l = true) (hs : spB va vb vc vd = true) (hk : k.nm.size ≤ 1000000) (ht : VecTab w) :
    Calls Tryz.prog 49 #[.agg #[.string l.nm, .int .i64 l.wt, .int .i64 l.fx, .int .i64 l.fy, .int .i64 l.tx, .int .i64 l.ty, .int .i64 l.h, .int .i64 l.dl, d, .int .i64 va, .int .i64 vb, .int .i64 vc, .int .i64 vd], .pointer (some ⟨b, o, none⟩)] w fun e w' => e = .returned (.tuple #[.int .i64 (if can9 k l then liftN k va vb vc vd l else 0), .bool (can9 k l)]) ∧ Below w.heap.size w w' := by
  have g := spB_true hs
  have f := fldB_true hf
  have hcp := (craneB_true hc).1
  have HLL := Lib.hid (fun u (q : RdI u d l.af) => implAbleLoad_any l d u q)
  have HFX := Lib.hid (fun fb mb lb u (q1 : Below w.heap.size w u) (q2 : LfAt u lb 0 l d) (q3 : LfAt u mb 0 l d) hfb hfc => ableFn_any b o fb mb lb k l c d d u (CrAt_kept h q1) q2 q3 hfb hfc hc hf hk)
  have HCA := Lib.hid (fun u (q : Below w.heap.size w u) => carry_any b o k l c d u (CrAt_kept h q) (RdI_kept hd q) f.2.2.2.1 (VecTab_kept ht q))
  have bR : ∀ u v, okP u v = true → 0 ≤ (radL k.x k.y u v).1 ∧ (radL k.x k.y u v).1 ≤ 1000000 := fun u v h => by rw [show (radL k.x k.y u v).1 = distL k u v by simp [radL, distL, hcp, h]]; have := distL_bd hcp h; omega
  have hIS := fun u g2 g3 q2 q3 => inTurnSecs_any va vb vc vd g2 g3 (l.h + 30) (dirToL k.x k.y l.fx l.fy).1 (dirToL k.x k.y l.tx l.ty).1 (radL k.x k.y l.fx l.fy).1 (radL k.x k.y l.tx l.ty).1 (by omega) (bR _ _ f.2.1) (bR _ _ f.2.2.1) g.1 g.2.1 g.2.2.1 g.2.2.2 u q2 q3
  have hE : inT vd (upL (tiltL (l.h + 30 - 0)) vc) (max (max 0 (tiltL (turnBetweenL (dirToL k.x k.y l.fx l.fy).1 (dirToL k.x k.y l.tx l.ty).1).1 * va)) (upL (tiltL ((radL k.x k.y l.tx l.ty).1 - (radL k.x k.y l.fx l.fy).1)) vb)) 5 = liftN k va vb vc vd l := by
    rw [move_eq hcp f.2.1 f.2.2.1 g.1, show tiltL (l.h + 30 - 0) = l.h + 30 by unfold tiltL; omega]
    simp only [inT, liftN]
    omega
  rw [hE] at hIS
  have HIS := Lib.hid hIS
  clear hE bR hIS g f hcp
  obtain ⟨A2, cp2, rfl, _, _⟩ := RdI_slice hd
  have HD := Lib.hid hd
  clear h hd hc hf hs hk ht
  generalize can9 k l = r at *
  generalize liftX k l = X at *
  generalize liftN k va vb vc vd l = M at *
  generalize (dirToL k.x k.y l.fx l.fy).1 = D1 at *
  generalize (dirToL k.x k.y l.tx l.ty).1 = D2 at *
  generalize (radL k.x k.y l.fx l.fy).1 = R1 at *
  generalize (radL k.x k.y l.tx l.ty).1 = R2 at *
  obtain ⟨ls, i1, i2, i3, i4, i5, i6, i7, us⟩ := l
  dsimp only at *
  have KJ := Lib.hid (BoxR_new' (u := w) (t := 94) (arr := #[.string ls, .int .i64 i1, .int .i64 i2, .int .i64 i3, .int .i64 i4, .int .i64 i5, .int .i64 i6, .int .i64 i7, .slice A2 us.length cp2, .int .i64 va, .int .i64 vb, .int .i64 vc, .int .i64 vd]) (rfl : w.heap.size = w.heap.size))
  have HW0 : Hid (Below w.heap.size w (w.alloc (.cells #[.string ls, .int .i64 i1, .int .i64 i2, .int .i64 i3, .int .i64 i4, .int .i64 i5, .int .i64 i6, .int .i64 i7, .slice A2 us.length cp2, .int .i64 va, .int .i64 vb, .int .i64 vc, .int .i64 vd] 94))) := Lib.hid (by go_grown)
  cases r
  all_goals
    go_enter Tryz.func49, Tryz.ntmps49
    have k0 := Below.refl (w.alloc (.cells #[.string ls, .int .i64 i1, .int .i64 i2, .int .i64 i3, .int .i64 i4, .int .i64 i5, .int .i64 i6, .int .i64 i7, .slice A2 us.length cp2, .int .i64 va, .int .i64 vb, .int .i64 vc, .int .i64 vd] 94)).heap.size (w.alloc (.cells #[.string ls, .int .i64 i1, .int .i64 i2, .int .i64 i3, .int .i64 i4, .int .i64 i5, .int .i64 i6, .int .i64 i7, .slice A2 us.length cp2, .int .i64 va, .int .i64 vb, .int .i64 vc, .int .i64 vd] 94))
    go_wp2_with fail
    refine (HLL.out _ (RdI_kept HD.out HW0.out)).mono ?_
    rintro e w1 ⟨fb, mb, lb, rfl, hlb, hmb, hfb, hfc, k1⟩
    have HLB := Lib.hid hlb; clear hlb
    have HMB := Lib.hid hmb; clear hmb
    have HFC := Lib.hid hfc; clear hfc
    go_wp2_with fail
    refine (HFX.out fb mb lb _ (kept_trans HW0.out k1) HLB.out HMB.out hfb HFC.out).mono ?_
    rintro e w2 ⟨rfl, hb2⟩
    have k2 := kept_trans (a := (w.alloc (.cells #[.string ls, .int .i64 i1, .int .i64 i2, .int .i64 i3, .int .i64 i4, .int .i64 i5, .int .i64 i6, .int .i64 i7, .slice A2 us.length cp2, .int .i64 va, .int .i64 vb, .int .i64 vc, .int .i64 vd] 94))) k1 hb2
  · go_wp2
    go_ret2
    exact ⟨by simp, kept_trans HW0.out k2⟩
  · clear HLB HMB HFC HFX HLL hfb
    have SOF := Lib.hid (show ∀ u, Below w2.heap.size w2 u → (fun w' => w'.cell? ⟨w.heap.size, 0, none⟩ = some (.string ls) ∧ w'.cell? ⟨w.heap.size, 1, none⟩ = some (.int .i64 i1) ∧ w'.cell? ⟨w.heap.size, 2, none⟩ = some (.int .i64 i2) ∧ w'.cell? ⟨w.heap.size, 3, none⟩ = some (.int .i64 i3) ∧ w'.cell? ⟨w.heap.size, 4, none⟩ = some (.int .i64 i4) ∧ w'.cell? ⟨w.heap.size, 5, none⟩ = some (.int .i64 i5) ∧ w'.cell? ⟨w.heap.size, 6, none⟩ = some (.int .i64 i6) ∧ w'.cell? ⟨w.heap.size, 7, none⟩ = some (.int .i64 i7) ∧ w'.cell? ⟨w.heap.size, 8, none⟩ = some (.slice A2 us.length cp2) ∧ w'.cell? ⟨w.heap.size, 9, none⟩ = some (.int .i64 va) ∧ w'.cell? ⟨w.heap.size, 10, none⟩ = some (.int .i64 vb) ∧ w'.cell? ⟨w.heap.size, 11, none⟩ = some (.int .i64 vc) ∧ w'.cell? ⟨w.heap.size, 12, none⟩ = some (.int .i64 vd)) u from fun u q => by have h := BoxR_kept KJ.out (kept_trans k2 q); exact ⟨h.2 0 _ rfl, h.2 1 _ rfl, h.2 2 _ rfl, h.2 3 _ rfl, h.2 4 _ rfl, h.2 5 _ rfl, h.2 6 _ rfl, h.2 7 _ rfl, h.2 8 _ rfl, h.2 9 _ rfl, h.2 10 _ rfl, h.2 11 _ rfl, h.2 12 _ rfl⟩)
    have hrefl := Below.refl w2.heap.size w2
    go_wp2_with fail
    first
      | go_region_held3 (fun w' => w'.cell? ⟨w.heap.size, 0, none⟩ = some (.string ls) ∧ w'.cell? ⟨w.heap.size, 1, none⟩ = some (.int .i64 i1) ∧ w'.cell? ⟨w.heap.size, 2, none⟩ = some (.int .i64 i2) ∧ w'.cell? ⟨w.heap.size, 3, none⟩ = some (.int .i64 i3) ∧ w'.cell? ⟨w.heap.size, 4, none⟩ = some (.int .i64 i4) ∧ w'.cell? ⟨w.heap.size, 5, none⟩ = some (.int .i64 i5) ∧ w'.cell? ⟨w.heap.size, 6, none⟩ = some (.int .i64 i6) ∧ w'.cell? ⟨w.heap.size, 7, none⟩ = some (.int .i64 i7) ∧ w'.cell? ⟨w.heap.size, 8, none⟩ = some (.slice A2 us.length cp2) ∧ w'.cell? ⟨w.heap.size, 9, none⟩ = some (.int .i64 va) ∧ w'.cell? ⟨w.heap.size, 10, none⟩ = some (.int .i64 vb) ∧ w'.cell? ⟨w.heap.size, 11, none⟩ = some (.int .i64 vc) ∧ w'.cell? ⟨w.heap.size, 12, none⟩ = some (.int .i64 vd)) (first | (refine SOF.out _ ?_; assumption) | (refine SOF.out _ ?_; go_grown)) (first
          | (go_at_call 175; have pq := q1; refine (HIS.out _ g2 g3 hg2 hg3).mono ?_; rintro e v2 ⟨rfl, h2⟩; have q2 := kept_trans (a := w2) q1 h2)
          | (go_at_call 91; refine (HCA.out _ (kept_trans HW0.out (kept_trans k2 (by go_grown)))).mono ?_; rintro e v1 ⟨g2, g3, rfl, hg2, hg3, h1⟩; have q1 := kept_trans (a := w2) (by go_grown) h1))
      | fail
    go_wp2
    go_ret2
    exact ⟨by simp, kept_trans HW0.out (kept_trans k2 q2)⟩

attribute [local go_sem] Oper.semAt_some

/-- The indices and numbers of the cranes that are let through among the first k; f: whether, and the number. -/
def numsU (f : Nat → Bool × Int) (k : Nat) : List (Int × Int) := (List.range k).filterMap fun j => if (f j).1 then some ((j : Int), (f j).2) else none

theorem numsU_succ (f : Nat → Bool × Int) (k : Nat) : numsU f (k + 1) = numsU f k ++ (if (f k).1 then [((k : Int), (f k).2)] else []) := by
  unfold numsU
  rw [List.range_succ, List.filterMap_append]
  congr 1
  cases h : (f k).1 <;> simp [h]

theorem numsU_len (f : Nat → Bool × Int) (k : Nat) : (numsU f k).length ≤ k := by
  unfold numsU
  exact Nat.le_trans (List.length_filterMap_le _ _) (by simp)

abbrev enc2 (p : Int × Int) : Array Value := #[.int .i64 p.1, .int .i64 p.2]

theorem grown_of_below {w w' : World} (h : Below w.heap.size w w') : w.grownBy w' none := ⟨h.os, h.tape, h.output, h.size, fun k hk _ => h.block k hk⟩

/-- The best pair, the first one of several; bt: what is better. -/
def bestP (bt : Int → Int → Bool) (xs : List (Int × Int)) : Option (Int × Int) := xs.foldl (fun s x => match s with | none => some x | some y => if bt x.2 y.2 then some x else some y) none

theorem bestP_snoc (bt : Int → Int → Bool) (xs : List (Int × Int)) (x : Int × Int) : bestP bt (xs ++ [x]) = match bestP bt xs with | none => some x | some y => if bt x.2 y.2 then some x else some y := by
  simp [bestP]

/-- An index, a number, and whether there is one. -/
def bstP (s : Option (Int × Int)) : Int × Int × Bool := match s with | none => (0, 0, false) | some y => (y.1, y.2, true)

/-- Three boxes behind the heap's old end are written. -/
theorem store3 {w W : World} {f a1 a2 a3 : Value} (v1 v2 v3 : Value) (c0 : W.cell? ⟨w.heap.size, 0, none⟩ = some f) (c1 : W.cell? ⟨w.heap.size + 1, 0, none⟩ = some a1) (z1 : W.frozen? ⟨w.heap.size + 1, 0, none⟩ = false) (c2 : W.cell? ⟨w.heap.size + 1 + 1, 0, none⟩ = some a2) (z2 : W.frozen? ⟨w.heap.size + 1 + 1, 0, none⟩ = false) (c3 : W.cell? ⟨w.heap.size + 1 + 1 + 1, 0, none⟩ = some a3) (z3 : W.frozen? ⟨w.heap.size + 1 + 1 + 1, 0, none⟩ = false) (hB : Below w.heap.size w W) :
    KeepsOthers W (((W.setCell ⟨w.heap.size + 1, 0, none⟩ v1).setCell ⟨w.heap.size + 1 + 1, 0, none⟩ v2).setCell ⟨w.heap.size + 1 + 1 + 1, 0, none⟩ v3) ∧ Below w.heap.size w (((W.setCell ⟨w.heap.size + 1, 0, none⟩ v1).setCell ⟨w.heap.size + 1 + 1, 0, none⟩ v2).setCell ⟨w.heap.size + 1 + 1 + 1, 0, none⟩ v3) ∧ (((W.setCell ⟨w.heap.size + 1, 0, none⟩ v1).setCell ⟨w.heap.size + 1 + 1, 0, none⟩ v2).setCell ⟨w.heap.size + 1 + 1 + 1, 0, none⟩ v3).cell? ⟨w.heap.size, 0, none⟩ = some f ∧ ((((W.setCell ⟨w.heap.size + 1, 0, none⟩ v1).setCell ⟨w.heap.size + 1 + 1, 0, none⟩ v2).setCell ⟨w.heap.size + 1 + 1 + 1, 0, none⟩ v3).cell? ⟨w.heap.size + 1, 0, none⟩ = some v1 ∧ (((W.setCell ⟨w.heap.size + 1, 0, none⟩ v1).setCell ⟨w.heap.size + 1 + 1, 0, none⟩ v2).setCell ⟨w.heap.size + 1 + 1 + 1, 0, none⟩ v3).frozen? ⟨w.heap.size + 1, 0, none⟩ = false) ∧ ((((W.setCell ⟨w.heap.size + 1, 0, none⟩ v1).setCell ⟨w.heap.size + 1 + 1, 0, none⟩ v2).setCell ⟨w.heap.size + 1 + 1 + 1, 0, none⟩ v3).cell? ⟨w.heap.size + 1 + 1, 0, none⟩ = some v2 ∧ (((W.setCell ⟨w.heap.size + 1, 0, none⟩ v1).setCell ⟨w.heap.size + 1 + 1, 0, none⟩ v2).setCell ⟨w.heap.size + 1 + 1 + 1, 0, none⟩ v3).frozen? ⟨w.heap.size + 1 + 1, 0, none⟩ = false) ∧ (((W.setCell ⟨w.heap.size + 1, 0, none⟩ v1).setCell ⟨w.heap.size + 1 + 1, 0, none⟩ v2).setCell ⟨w.heap.size + 1 + 1 + 1, 0, none⟩ v3).cell? ⟨w.heap.size + 1 + 1 + 1, 0, none⟩ = some v3 ∧ (((W.setCell ⟨w.heap.size + 1, 0, none⟩ v1).setCell ⟨w.heap.size + 1 + 1, 0, none⟩ v2).setCell ⟨w.heap.size + 1 + 1 + 1, 0, none⟩ v3).frozen? ⟨w.heap.size + 1 + 1 + 1, 0, none⟩ = false := by
  have l1 := World.block_lt_of_cell? _ _ c1
  have l2 := World.block_lt_of_cell? _ _ c2
  have l3 := World.block_lt_of_cell? _ _ c3
  refine ⟨((KeepsOthers.setCell _ _ _).trans (KeepsOthers.setCell _ _ _)).trans (KeepsOthers.setCell _ _ _), ((hB.setCell (p := ⟨w.heap.size + 1, 0, none⟩) (by simp) _).setCell (p := ⟨w.heap.size + 1 + 1, 0, none⟩) (by simp; omega) _).setCell (p := ⟨w.heap.size + 1 + 1 + 1, 0, none⟩) (by simp; omega) _, ?_, ⟨?_, ?_⟩, ⟨?_, ?_⟩, ?_, ?_⟩
  all_goals first | (go_simp; done) | (simp [World.cell?_setCell_same', *]; done)

theorem implNumbersOf_any (c : Value) (fn : Fn) (first cap : Array Value) (hc : ∃ A n cp, c = .slice A n cp) (w : World) :
    Calls Tryz.prog 61 #[.agg #[c], .func fn first cap] w fun e w' => ∃ pS pF, e = .returned (.func (.func 102) #[] #[.pointer (some ⟨pS, 0, none⟩), .pointer (some ⟨pF, 0, none⟩)]) ∧ BoxR w' pS [c] ∧ BoxR w' pF [.func fn first cap] ∧ Below w.heap.size w w' := by
  obtain ⟨A, n, cp, rfl⟩ := hc
  have hmf : ∀ (fn : Fn) (first cap : Array Value) (w : World), (Instr.makeFunc fn first cap).run Tryz.prog w = .ok (.func fn first cap) w := fun _ _ _ _ => rfl
  go_enter Tryz.func61, Tryz.ntmps61
  go_wp2
  go_ret
  exact ⟨w.heap.size, w.heap.size + 1, rfl, BoxR_up (BoxR_new' rfl), BoxR_new' (by simp), by go_grown⟩

def hvR (s : Option (Int × Int)) : Int × Int × Int := match s with | none => (0, 0, 3) | some b => (b.1, b.2, 0)

/- sem_round -/
set_option maxRecDepth 100000 in
set_option maxHeartbeats 2000000 in
open Go.Shelf in
theorem timeSeq_any (Inv : World → Prop) (pS pF : Nat) (jv c : Value) (ks : List (Cr × Value)) (f : Nat → Bool × Int) (n : Nat) (hn : 2 ≤ n) (w : World)
    (h0 : ∀ W, Below w.heap.size w W → Inv W)
    (hS : ∀ u, Inv u → u.cell? ⟨pS, 0, none⟩ = some c)
    (hF : ∀ u, Inv u → u.cell? ⟨pF, 0, none⟩ = some (.func (.func 49) #[jv] #[]))
    (hR : ∀ u, Inv u → RdK u c ks)
    (hK : ∀ u u', Inv u → Below u.heap.size u u' → Inv u')
    (hN : ∀ u j b o (hj : j < ks.length), Inv u → CrAt u b o ks[j].1 ks[j].2 → Calls Tryz.prog 49 #[jv, .pointer (some ⟨b, o, none⟩)] u fun e u' => e = .returned (.tuple #[.int .i64 (f j).2, .bool (f j).1]) ∧ Below u.heap.size u u') :
    SeqStopsK Fence.wide n Tryz.prog 102 #[.pointer (some ⟨pS, 0, none⟩), .pointer (some ⟨pF, 0, none⟩)] enc2 (fun W W' => Inv W → Inv W') (fun xs => xs = numsU f ks.length) (fun _ => True) ks.length w := by
  intro l J Jx W hW hJ hJx hY hj0
  have hi0 := h0 W hW
  obtain ⟨A, cp, rfl, hl, _⟩ := RdK_at (hR W hi0)
  have cS0 := hS W hi0
  refine callsIn_of_wp Tryz.func102 rfl trivial ?_ rfl
  simp only [Tryz.ntmps102, List.size_toArray, List.length_cons, List.length_nil, Nat.reduceAdd, Nat.reduceSub, Array.replicate_succ, Array.replicate_zero, List.push_toArray, List.append_toArray, List.nil_append, List.cons_append]
  gi_wp2
  gi_loopw [10] (fun i wr => ∃ k : Nat, k ≤ ks.length ∧ i = .int .i64 k ∧ J (numsU f k) wr ∧ Inv wr) (fun i _ => ks.length - (intOf i).toNat)
  case atStart => exact ⟨0, Nat.zero_le _, rfl, hj0, hi0⟩
  case round =>
    obtain ⟨k, hk, rfl, hJs, hiv⟩ := hrel
    have cS := hS _ hiv
    have cF := hF _ hiv
    by_cases hlt : k < ks.length
    · obtain ⟨A', cp', eA, _, r⟩ := RdK_at (hR _ hiv)
      obtain ⟨b, off, hA, hcr⟩ := r k hlt
      injection eA with e1 e2 e3
      subst e1 e3
      subst hA
      have hc := fun u (q : Below wr.heap.size wr u) => hN u k b (off + k * 7) hlt (hK _ _ hiv q) (CrAt_kept hcr q)
      have HKW := Lib.hid (fun u (q : Below wr.heap.size wr u) => hK _ _ hiv q)
      have HJW := Lib.hid (fun u (q : Below wr.heap.size wr u) => hJ _ wr u none hJs (grown_of_below q) (fun r e => by cases e))
      have hmx : Tryz.prog.follows .mixedOrders = true := by kernel_rfl
      have hd : 1 ≤ n - 1 := by omega
      have hlen := numsU_len f k
      have hsu := numsU_succ f k
      clear r hcr hS hF hR hN
      generalize (f k).2 = v at *
      cases hp : (f k).1
      · rw [hp] at hc hsu
        simp only [Bool.false_eq_true, if_false, List.append_nil] at hsu
        have HC := Lib.hid hc; clear hc hp
        gi_wp2
        gi_region_with_o (refine ⟨trivial, fun _ => by omega, ?_⟩; gi_at_call 49; refine (callsIn_wide.2 (HC.out _ (by go_grown))).mono ?_; rintro e w1 ⟨rfl, hb1⟩; have k1 := kept_trans (a := wr) (by go_grown) hb1)
        all_goals
          gi_wp2
          refine ⟨fun _ h => (by cases h), ?_⟩
          gi_wp2
          go_roundw
          case rel => exact ⟨k + 1, by omega, by go_num, by rw [hsu]; exact HJW.out _ k1, HKW.out _ k1⟩
          case measure => simp [intOf]; omega
      · rw [hp] at hc hsu
        simp only [if_true] at hsu
        have HC := Lib.hid hc; clear hc hp
        gi_wp2
        gi_region_with_o (refine ⟨trivial, fun _ => by omega, ?_⟩; gi_at_call 49; refine (callsIn_wide.2 (HC.out _ (by go_grown))).mono ?_; rintro e w1 ⟨rfl, hb1⟩; have k1 := kept_trans (a := wr) (by go_grown) hb1)
        all_goals
          obtain ⟨fn, tmps, assign, body, hy, hR'⟩ := hY _ ((k : Int), v) w1 (HJW.out _ k1) (by omega)
          dsimp only [enc2] at hy
          gi_wp2
          refine ⟨fun _ => by omega, ?_⟩
          refine hR'.mono ?_
          rintro e W3 (⟨rfl, hJ3, hk3⟩ | ⟨rfl, hJx3⟩)
          · gi_wp2
            go_roundw
            case rel => exact ⟨k + 1, by omega, by go_num, by rw [hsu]; exact hJ3, hk3 (HKW.out _ k1)⟩
            case measure => simp [intOf]; omega
          · gi_wp2
            refine bodyPost_ret (results_none rfl _ _ _) rfl ?_
            exact ⟨⟨_, rfl⟩, .inr ⟨_, trivial, hJx3⟩⟩
    · obtain rfl : k = ks.length := by omega
      gi_wp2
      go_end0
      exact ⟨⟨_, rfl⟩, .inl ⟨_, rfl, hJs⟩⟩

def ltB (a b : Int) : Bool := decide (a < b)

theorem lessI_any (a b : Int) (w : World) :
    Calls Tryz.prog 71 #[.int .i64 a, .int .i64 b] w fun e w' => e = .returned (.bool (ltB a b)) ∧ w = w' := by
  have hn := fun x u => isNaN_any x u
  have HN := Lib.hid hn; clear hn
  unfold ltB
  by_cases h : a < b
  all_goals
    go_enter Tryz.func71, Tryz.ntmps71
    go_wp2_with fail
    refine (HN.out _ _).mono ?_
    rintro e w1 ⟨rfl, rfl⟩
    go_wp2
    go_ret
    exact ⟨by simp [*], rfl⟩

/- sem_round -/
set_option maxRecDepth 100000 in
set_option maxHeartbeats 4000000 in
open Go.Shelf in
theorem bestOfL_any (pS pF : Nat) (L : List (Int × Int)) (N : Nat) (w : World)
    (hseq : ∀ n, 2 ≤ n → SeqStopsK Fence.wide n Tryz.prog 102 #[.pointer (some ⟨pS, 0, none⟩), .pointer (some ⟨pF, 0, none⟩)] enc2 (fun W W' => Below w.heap.size w W → Below w.heap.size w W') (fun xs => xs = L) (fun _ => True) N w) :
    Calls Tryz.prog 70 #[.func (.func 102) #[] #[.pointer (some ⟨pS, 0, none⟩), .pointer (some ⟨pF, 0, none⟩)], .func (.func 71) #[] #[]] w fun e w' =>
      e = .returned (.tuple #[.int .i64 (bstP (bestP ltB L)).1, .int .i64 (bstP (bestP ltB L)).2.1, .bool (bstP (bestP ltB L)).2.2]) ∧ Below w.heap.size w w' := by
  have hGR := fun a b u => lessI_any a b u
  have HGR := Lib.hid hGR; clear hGR
  refine (callsIn_wide (n := 9)).1 ?_
  refine callsIn_of_wp_marks Tryz.func70 rfl trivial ?_ rfl
  simp only [Tryz.ntmps70, List.size_toArray, List.length_cons, List.length_nil, Nat.reduceAdd, Nat.reduceSub, Array.replicate_succ, Array.replicate_zero, List.push_toArray, List.append_toArray, List.nil_append, List.cons_append]
  gi_wp2
  have hB0 : Below w.heap.size w ((((w.alloc (.cells #[.func (.func 71) #[] #[]] 118)).alloc (.cells #[.int .i64 0] 2)).alloc (.cells #[.int .i64 0] 2)).alloc (.cells #[.bool false] 4)) := by go_grown
  have i0 : ((((w.alloc (.cells #[.func (.func 71) #[] #[]] 118)).alloc (.cells #[.int .i64 0] 2)).alloc (.cells #[.int .i64 0] 2)).alloc (.cells #[.bool false] 4)).cell? ⟨w.heap.size, 0, none⟩ = some (.func (.func 71) #[] #[]) := (BoxR_up (BoxR_up (BoxR_up (BoxR_new' rfl)))).2 0 _ rfl
  have i1 : ((((w.alloc (.cells #[.func (.func 71) #[] #[]] 118)).alloc (.cells #[.int .i64 0] 2)).alloc (.cells #[.int .i64 0] 2)).alloc (.cells #[.bool false] 4)).cell? ⟨w.heap.size + 1, 0, none⟩ = some (.int .i64 0) := (BoxR_up (BoxR_up (BoxR_new' (by simp)))).2 0 _ rfl
  have i2 : ((((w.alloc (.cells #[.func (.func 71) #[] #[]] 118)).alloc (.cells #[.int .i64 0] 2)).alloc (.cells #[.int .i64 0] 2)).alloc (.cells #[.bool false] 4)).cell? ⟨w.heap.size + 1 + 1, 0, none⟩ = some (.int .i64 0) := (BoxR_up (BoxR_new' (by simp))).2 0 _ rfl
  have i3 : ((((w.alloc (.cells #[.func (.func 71) #[] #[]] 118)).alloc (.cells #[.int .i64 0] 2)).alloc (.cells #[.int .i64 0] 2)).alloc (.cells #[.bool false] 4)).cell? ⟨w.heap.size + 1 + 1 + 1, 0, none⟩ = some (.bool false) := (BoxR_new' (by simp)).2 0 _ rfl
  refine wpIn_rangeFunc_ownF rfl (by omega) (gf := 102) (lb := #[.pointer (some ⟨pS, 0, none⟩), .pointer (some ⟨pF, 0, none⟩)]) rfl trivial (enters_of Tryz.func102 (by kernel_rfl) rfl)
    (hseq _ (by omega)) (fun h k x => k (h x)) (fun W l o o' hl h a b hB => hB.trans (belowK_b (w := ((((w.alloc (.cells #[.func (.func 71) #[] #[]] 118)).alloc (.cells #[.int .i64 0] 2)).alloc (.cells #[.int .i64 0] 2)).alloc (.cells #[.bool false] 4))) (by simp; omega) W l o o' hl h a b)) hB0 (fun _ => rfl)
    (fun pre W => (W.cell? ⟨w.heap.size, 0, none⟩ = some (.func (.func 71) #[] #[]) ∧ (W.cell? ⟨w.heap.size + 1, 0, none⟩ = some (.int .i64 (bstP (bestP ltB pre)).1) ∧ W.frozen? ⟨w.heap.size + 1, 0, none⟩ = false) ∧ (W.cell? ⟨w.heap.size + 1 + 1, 0, none⟩ = some (.int .i64 (bstP (bestP ltB pre)).2.1) ∧ W.frozen? ⟨w.heap.size + 1 + 1, 0, none⟩ = false) ∧ W.cell? ⟨w.heap.size + 1 + 1 + 1, 0, none⟩ = some (.bool (bstP (bestP ltB pre)).2.2) ∧ W.frozen? ⟨w.heap.size + 1 + 1 + 1, 0, none⟩ = false) ∧ Below w.heap.size w W)
    (fun _ _ _ => False)
    (OwnFrom.and (Own.from (fun s A B row hs hg hr => ⟨cell_kept hs.1 hg hr, ⟨cell_kept hs.2.1.1 hg hr, (frozen_kept hs.2.1.1 hg hr).trans hs.2.1.2⟩, ⟨cell_kept hs.2.2.1.1 hg hr, (frozen_kept hs.2.2.1.1 hg hr).trans hs.2.2.1.2⟩, cell_kept hs.2.2.2.1 hg hr, (frozen_kept hs.2.2.2.1 hg hr).trans hs.2.2.2.2⟩) _) (ownFrom_below (Nat.le_refl _) (by simp; omega)))
    (fun _ _ _ _ _ hs _ _ => hs)
    ⟨by refine ⟨?_, ⟨?_, ?_⟩, ⟨?_, ?_⟩, ?_, ?_⟩ <;> first | exact i0 | exact i1 | exact i2 | exact i3 | (simp; done) | (go_simp; done), hB0⟩
    (fun x => { tmps := #[.func (.func 102) #[] #[.pointer (some ⟨pS, 0, none⟩), .pointer (some ⟨pF, 0, none⟩)], .func (.func 71) #[] #[], undef, .pointer (some ⟨w.heap.size, 0, none⟩), .pointer (some ⟨w.heap.size + 1, 0, none⟩), .pointer (some ⟨w.heap.size + 1 + 1, 0, none⟩), .pointer (some ⟨w.heap.size + 1 + 1 + 1, 0, none⟩), .int .i64 x.1, .int .i64 x.2, .func (.func 102) #[] #[.pointer (some ⟨pS, 0, none⟩), .pointer (some ⟨pF, 0, none⟩)], .int .i64 x.1, .int .i64 x.2, undef, undef, undef, undef, undef, undef, undef, undef, undef, undef, undef, undef, undef], defers := [] }) ?assign ?body ?done ?stop
  case assign =>
    intro l x W K hK
    gi_wp2
    exact hK
  case body =>
    rintro l pre x W ⟨⟨c0, ⟨c1, z1⟩, ⟨c2, z2⟩, c3, z3⟩, hB⟩ _
    have hsn := bestP_snoc ltB pre x
    cases hs : bestP ltB pre with
    | none =>
      rw [hs] at c1 c2 c3 hsn
      simp only [bstP] at c1 c2 c3
      gi_wp2
      refine ⟨fun _ h => (by cases h), ?_⟩
      gi_wp2
      obtain ⟨g1, g2, g3⟩ := store3 (.int .i64 x.1) (.int .i64 x.2) (.bool true) c0 c1 z1 c2 z2 c3 z3 hB
      exact ⟨g1, fun _ => g2, by rw [hsn]; exact g3, g2⟩
    | some y =>
      rw [hs] at c1 c2 c3 hsn
      simp only [bstP] at c1 c2 c3
      have hd : 1 ≤ 9 - 1 - 1 := by omega
      cases hg : ltB x.2 y.2
      · simp only [hg] at hsn
        gi_wp2_with (refine ⟨trivial, ?_⟩; gi_at_call 71; refine (CallsIn.inRound l (callsIn_wide.2 (HGR.out _ _ _))).mono ?_; rintro e w' ⟨rfl, rfl⟩; rw [hg])
        exact ⟨KeepsOthers.refl _, fun h => h, by rw [hsn]; exact ⟨c0, ⟨c1, z1⟩, ⟨c2, z2⟩, c3, z3⟩, hB⟩
      · simp only [hg] at hsn
        gi_wp2_with (refine ⟨trivial, ?_⟩; gi_at_call 71; refine (CallsIn.inRound l (callsIn_wide.2 (HGR.out _ _ _))).mono ?_; rintro e w' ⟨rfl, rfl⟩; rw [hg])
        obtain ⟨g1, g2, g3⟩ := store3 (.int .i64 x.1) (.int .i64 x.2) (.bool true) c0 c1 z1 c2 z2 c3 z3 hB
        exact ⟨g1, fun _ => g2, by rw [hsn]; exact g3, g2⟩
  case done =>
    rintro D ys W hD rfl ⟨⟨c0, ⟨c1, z1⟩, ⟨c2, z2⟩, c3, z3⟩, hB⟩ hK
    gi_wp2
    gi_region
    all_goals
      gi_wp2
      obtain ⟨g1, g2, g3, ⟨g4, _⟩, ⟨g5, _⟩, g6, _⟩ := store3 (.int .i64 (bstP (bestP ltB ys)).1) (.int .i64 (bstP (bestP ltB ys)).2.1) (.bool (bstP (bestP ltB ys)).2.2) c0 c1 z1 c2 z2 c3 z3 hB
      have hK' := (g1.trans (KeepsOthers.drew _)).same D _ hK rfl
      have d4 : (((((W.setCell ⟨w.heap.size + 1, 0, none⟩ (.int .i64 (bstP (bestP ltB ys)).1)).setCell ⟨w.heap.size + 1 + 1, 0, none⟩ (.int .i64 (bstP (bestP ltB ys)).2.1)).setCell ⟨w.heap.size + 1 + 1 + 1, 0, none⟩ (.bool (bstP (bestP ltB ys)).2.2)).drew).putObj D (.deferred none)).cell? ⟨w.heap.size + 1, 0, none⟩ = some (.int .i64 (bstP (bestP ltB ys)).1) := cell_kept (W := ((((W.setCell ⟨w.heap.size + 1, 0, none⟩ (.int .i64 (bstP (bestP ltB ys)).1)).setCell ⟨w.heap.size + 1 + 1, 0, none⟩ (.int .i64 (bstP (bestP ltB ys)).2.1)).setCell ⟨w.heap.size + 1 + 1 + 1, 0, none⟩ (.bool (bstP (bestP ltB ys)).2.2)).drew)) (by simpa using g4) (grownBy_putObj' _ D (.deferred none)) (fun r e => by cases e; exact ⟨_, hK', rfl⟩)
      have d5 : (((((W.setCell ⟨w.heap.size + 1, 0, none⟩ (.int .i64 (bstP (bestP ltB ys)).1)).setCell ⟨w.heap.size + 1 + 1, 0, none⟩ (.int .i64 (bstP (bestP ltB ys)).2.1)).setCell ⟨w.heap.size + 1 + 1 + 1, 0, none⟩ (.bool (bstP (bestP ltB ys)).2.2)).drew).putObj D (.deferred none)).cell? ⟨w.heap.size + 1 + 1, 0, none⟩ = some (.int .i64 (bstP (bestP ltB ys)).2.1) := cell_kept (W := ((((W.setCell ⟨w.heap.size + 1, 0, none⟩ (.int .i64 (bstP (bestP ltB ys)).1)).setCell ⟨w.heap.size + 1 + 1, 0, none⟩ (.int .i64 (bstP (bestP ltB ys)).2.1)).setCell ⟨w.heap.size + 1 + 1 + 1, 0, none⟩ (.bool (bstP (bestP ltB ys)).2.2)).drew)) (by simpa using g5) (grownBy_putObj' _ D (.deferred none)) (fun r e => by cases e; exact ⟨_, hK', rfl⟩)
      have d6 : (((((W.setCell ⟨w.heap.size + 1, 0, none⟩ (.int .i64 (bstP (bestP ltB ys)).1)).setCell ⟨w.heap.size + 1 + 1, 0, none⟩ (.int .i64 (bstP (bestP ltB ys)).2.1)).setCell ⟨w.heap.size + 1 + 1 + 1, 0, none⟩ (.bool (bstP (bestP ltB ys)).2.2)).drew).putObj D (.deferred none)).cell? ⟨w.heap.size + 1 + 1 + 1, 0, none⟩ = some (.bool (bstP (bestP ltB ys)).2.2) := cell_kept (W := ((((W.setCell ⟨w.heap.size + 1, 0, none⟩ (.int .i64 (bstP (bestP ltB ys)).1)).setCell ⟨w.heap.size + 1 + 1, 0, none⟩ (.int .i64 (bstP (bestP ltB ys)).2.1)).setCell ⟨w.heap.size + 1 + 1 + 1, 0, none⟩ (.bool (bstP (bestP ltB ys)).2.2)).drew)) (by simpa using g6) (grownBy_putObj' _ D (.deferred none)) (fun r e => by cases e; exact ⟨_, hK', rfl⟩)
      refine ⟨by simp, .inl ⟨_, _, rfl, run_takeDeferred hK', ?_⟩⟩
      refine ⟨.tuple #[.int .i64 (bstP (bestP ltB ys)).1, .int .i64 (bstP (bestP ltB ys)).2.1, .bool (bstP (bestP ltB ys)).2.2], ?_, rfl, (g2.trans (by go_grown)).trans (belowK_b (w := w) (Nat.le_refl _) _ D _ _ (by simp at hD; omega) hK' rfl rfl)⟩
      simp [results, Tryz.f70, go_sem, d4, d5, d6]
  case stop =>
    rintro D c pre W hD hpre h hK
    exact h.elim

/-- Whether a crane can do a lift, and its time for it. -/
noncomputable def timF (ms : List Cr) (va vb vc vd : Int) (l : Lf) (j : Nat) : Bool × Int := match ms[j]? with | some k => (can9 k l, if can9 k l then liftN k va vb vc vd l else 0) | none => (false, 0)

theorem timF_at (T : List (Cr × Value)) (va vb vc vd : Int) (l : Lf) (j : Nat) (hj : j < T.length) : timF (T.map (·.1)) va vb vc vd l j = (can9 T[j].1 l, if can9 T[j].1 l then liftN T[j].1 va vb vc vd l else 0) := by
  simp [timF, hj]

/-- What FastestCrane returns. -/
noncomputable def fastL (ks : List (Cr × Value)) (va vb vc vd : Int) (l : Lf) : Int × Int × Int := if spB va vb vc vd && (siteB ks && fldB l) then hvR (bestP ltB (numsU (timF (ks.map (·.1)) va vb vc vd l) ks.length)) else (0, 0, 1)

theorem fastL_map {T ks : List (Cr × Value)} (h : T.map (·.1) = ks.map (·.1)) (va vb vc vd : Int) (l : Lf) : fastL T va vb vc vd l = fastL ks va vb vc vd l := by
  unfold fastL
  rw [siteB_map h, h, (map_at h).1]

/-- The times of a lift for the first j cranes; -1 where a crane cannot do it. -/
noncomputable def rowTL (T : List (Cr × Value)) (va vb vc vd : Int) (l : Lf) (j : Nat) : List Int := (T.take j).map fun p => if can9 p.1 l then liftN p.1 va vb vc vd l else -1

theorem rowTL_succ (T : List (Cr × Value)) (va vb vc vd : Int) (l : Lf) (j : Nat) (h : j < T.length) : rowTL T va vb vc vd l (j + 1) = rowTL T va vb vc vd l j ++ [if can9 T[j].1 l then liftN T[j].1 va vb vc vd l else -1] := by
  unfold rowTL
  rw [List.take_succ_eq_append_getElem h, List.map_append, List.map_cons, List.map_nil]

theorem rowTL_len (T : List (Cr × Value)) (va vb vc vd : Int) (l : Lf) (j : Nat) (h : j ≤ T.length) : (rowTL T va vb vc vd l j).length = j := by
  unfold rowTL
  simp
  omega

theorem info_ints : (Tryz.prog.info? 29).map (fun i => (i.zero, i.size, i.bytes)) = some (some (.slice none 0 0), 1, 24) := by kernel_rfl

/-- append of one slice of numbers to a row of the call's own. -/
theorem wp_appendV {ops : Array Oper} {rest : List Oper} {o : Oper} {a : Act} {Q : Exit → Act → World → Prop} {W wr : World} (hgd : o.guard = none) (s x : Operand)
    (ho : o.op = .call { callee := .builtin .append, args := #[s, x], argTypes := #[58, 58] })
    (lo : Nat) (v : Value) (vs : List Value) (B : Option Addr) (n c : Nat) (hs : a.eval s = v) (hrow : RowF 29 1 wr lo wr.heap.size v vs.length vs) (hx : a.eval x = .slice (some ⟨wr.heap.size, 0, none⟩) 1 1)
    (hW : Below W.heap.size W wr) (hlo : W.heap.size ≤ lo) (hlo2 : lo ≤ wr.heap.size) (hn : vs.length < 1000000000)
    (h : ∀ v' w', RowF 29 1 w' lo w'.heap.size v' (vs.length + 1) (vs ++ [.slice B n c]) → Below W.heap.size W w' → wr.heap.size ≤ w'.heap.size → (wr.alloc (.cells #[.slice B n c] 29)).grownBy w' v.ownBlock → wpList Tryz.prog ops Q rest (a.put o.dst v') w') :
    wpList Tryz.prog ops Q (o :: rest) a (wr.alloc (.cells #[.slice B n c] 29)) := by
  obtain ⟨i0, hi, hz0, hz1, hz2⟩ := info_parts info_ints
  refine wpList_append_own _ hgd s x _ ho lo 29 i0 (.slice none 0 0) 1 24 Tryz.underlying58 hi hz0 hz1 hz2 rfl (by decide) v vs.length _ hs (hrow.1.alloc _) ⟨wr.heap.size, 0, none⟩ 1 1 [.slice B n c] hx rfl ?_ ?_ ?_ ?_ ?_ ?_
  · intro j u hj
    match j with
    | 0 => simp at hj; subst hj; simp [Addr.add]
    | j + 1 => simp at hj
  · intro u hu; simp at hu; subst hu; rfl
  · unfold maxLen; omega
  · omega
  · simp; omega
  · intro v' w' hown hg _
    have hrow' : RowF 29 1 w' lo w'.heap.size v' (vs.length + 1) (vs ++ [.slice B n c]) := ⟨hown, hown.lt⟩
    refine h v' w' hrow' ?_ (Nat.le_trans (by simp) hg.size) hg
    refine grown_below (hW.alloc hW.size _) hg (fun g hg2 => ?_)
    have := (hrow.2 g hg2).1
    omega

theorem RowV_new (w : World) : RowF 29 1 (w.alloc (.cells #[] 29)) w.heap.size (w.alloc (.cells #[] 29)).heap.size (.slice (some ⟨w.heap.size, 0, none⟩) 0 0) 0 [] :=
  ⟨World.ownsRow_lit w #[] 0 (Nat.le_refl _) (by decide) (by rfl), fun g hg => by simp [Value.ownBlock] at hg; subst hg; simp⟩

set_option maxRecDepth 100000 in
set_option maxHeartbeats 4000000 in
theorem specTab1_any (bs bl : Nat) (c : Value) (T : List (Cr × Value)) (va vb vc vd : Int) (l : Lf) (d : Value) (w : World) (h : RdK w c T) (hs : BoxR w bs [c]) (hl : LfAt w bl 0 l d) (hb : siteB T = true) (hf : fldB l = true) (hv : spB va vb vc vd = true) :
    Calls Tryz.prog 55 #[.pointer (some ⟨bs, 0, none⟩), .agg #[.int .i64 va, .int .i64 vb, .int .i64 vc, .int .i64 vd], .slice (some ⟨bl, 0, none⟩) 1 1] w fun e w' => ∃ g cap v, e = .returned (.slice (some ⟨g, 0, none⟩) 1 cap) ∧ g < w'.heap.size ∧ w'.cell? ⟨g, 0, none⟩ = some v ∧ RdI w' v (rowTL T va vb vc vd l T.length) ∧ Below w.heap.size w w' := by
  obtain ⟨hn6, hcr⟩ := siteP_crane hb
  have hW1 : Below w.heap.size w (w.alloc (.cells #[.int .i64 va, .int .i64 vb, .int .i64 vc, .int .i64 vd] 41)) := by go_grown
  have KV := Lib.hid (BoxR_new' (u := w) (t := 41) (arr := #[.int .i64 va, .int .i64 vb, .int .i64 vc, .int .i64 vd]) (rfl : w.heap.size = w.heap.size))
  obtain ⟨A, cp, rfl, _, r⟩ := RdK_at h
  have R := Lib.hid r; clear r h
  have HC := Lib.hid (fun j hj => craneB_true (hcr j hj)); clear hb
  have HCR := Lib.hid hcr; clear hcr
  have HB := Lib.hid (BoxR_kept hs hW1)
  have HLF := Lib.hid hl
  have HW := Lib.hid hW1
  clear hs hl hW1
  go_enter Tryz.func55, Tryz.ntmps55
  go_wp2_with fail
  go_loopw [7, 8] (fun o i wr => ∃ k : Nat, k ≤ 1 ∧ i = .int .i64 (k : Int) ∧ Below (w.alloc (.cells #[.int .i64 va, .int .i64 vb, .int .i64 vc, .int .i64 vd] 41)).heap.size (w.alloc (.cells #[.int .i64 va, .int .i64 vb, .int .i64 vc, .int .i64 vd] 41)) wr ∧ ∃ vs : List Value, vs.length = k ∧ RowF 29 1 wr (w.alloc (.cells #[.int .i64 va, .int .i64 vb, .int .i64 vc, .int .i64 vd] 41)).heap.size wr.heap.size o k vs ∧ ∀ v, vs[0]? = some v → RdI wr v (rowTL T va vb vc vd l T.length)) (fun _ i _ => 1 - (intOf i).toNat)
  case atStart => exact ⟨0, by omega, rfl, by go_grown, [], rfl, (by have := RowV_new (w.alloc (.cells #[.int .i64 va, .int .i64 vb, .int .i64 vc, .int .i64 vd] 41)); simpa using this), fun v hv => by simp at hv⟩
  case round =>
    obtain ⟨k, hk, rfl, hb, vs, hvl, hrow, hrd⟩ := hrel
    rename World => wo
    have hsz := hb.size
    have KW := Lib.hid (kept_trans HW.out hb)
    by_cases hlt : k < 1
    · obtain rfl : k = 0 := by omega
      obtain rfl : vs = [] := List.eq_nil_of_length_eq_zero hvl
      have HROW := Lib.hid hrow; clear hrow hrd hvl
      have HBB := Lib.hid hb; clear hb
      rw [show (((0 : Nat) : Int)) = 0 from rfl]
      go_wp2_with fail
      go_loopw [9, 10] (fun o i wr => ∃ j : Nat, j ≤ T.length ∧ i = .int .i64 (j : Int) ∧ RowI wr wo.heap.size wr.heap.size o (rowTL T va vb vc vd l j) ∧ Below wo.heap.size wo wr) (fun _ i _ => T.length - (intOf i).toNat)
      case atStart => exact ⟨0, by omega, rfl, RowI_new wo, by go_grown⟩
      case round =>
        obtain ⟨j, hj, rfl, hrw, hbx⟩ := hrel
        have kb := kept_trans HBB.out hbx
        have kx := kept_trans HW.out kb
        have e0 := (BoxR_kept HB.out kb).2 0 _ rfl
        have hln := rowTL_len T va vb vc vd l j hj
        have hxs := hbx.size
        by_cases hlj : j < T.length
        · obtain ⟨b, off, rfl, q⟩ := R.out j hlj
          have hl := fun w4 (hw4 : Below wr.heap.size wr w4) => specCan9_any b (off + j * 7) bl 0 T[j].1 l T[j].2 d w4 (CrAt_kept q (kept_trans kx hw4)) (LfAt_kept HLF.out (kept_trans kx hw4)) (HCR.out j hlj) hf
          have hN := fun w4 (hw4 : Below wr.heap.size wr w4) => specLiftN_any b (off + j * 7) bl 0 T[j].1 va vb vc vd l T[j].2 d w4 (CrAt_kept q (kept_trans kx hw4)) (LfAt_kept HLF.out (kept_trans kx hw4)) (HC.out j hlj).1 hf hv
          have hst := rowTL_succ T va vb vc vd l j hlj
          have SOF := Lib.hid (show ∀ z, Below wr.heap.size wr z → (fun w' => w'.cell? ⟨bs, 0, none⟩ = some (.slice (some ⟨b, off, none⟩) T.length cp) ∧ w'.cell? ⟨w.heap.size, 0, none⟩ = some (.int .i64 va) ∧ w'.cell? ⟨w.heap.size, 1, none⟩ = some (.int .i64 vb) ∧ w'.cell? ⟨w.heap.size, 2, none⟩ = some (.int .i64 vc) ∧ w'.cell? ⟨w.heap.size, 3, none⟩ = some (.int .i64 vd)) z from fun z q => by have h := BoxR_kept KV.out (kept_trans kb q); exact ⟨(BoxR_kept HB.out (kept_trans kb q)).2 0 _ rfl, h.2 0 _ rfl, h.2 1 _ rfl, h.2 2 _ rfl, h.2 3 _ rfl⟩)
          have q0 := Below.refl wr.heap.size wr
          generalize rowTL T va vb vc vd l j = zs at *
          clear q kx
          have hbl := HLF.out.1
          generalize liftN T[j].1 va vb vc vd l = M at *
          cases hE : can9 T[j].1 l
          · simp only [hE, if_false, Bool.false_eq_true] at hl hst
            have HL := Lib.hid hl; clear hl hE hN
            have HST := Lib.hid hst; clear hst
            have HRW := Lib.hid hrw; clear hrw
            go_wp2_with fail
            go_region_held3 (fun w' => w'.cell? ⟨bs, 0, none⟩ = some (.slice (some ⟨b, off, none⟩) T.length cp) ∧ w'.cell? ⟨w.heap.size, 0, none⟩ = some (.int .i64 va) ∧ w'.cell? ⟨w.heap.size, 1, none⟩ = some (.int .i64 vb) ∧ w'.cell? ⟨w.heap.size, 2, none⟩ = some (.int .i64 vc) ∧ w'.cell? ⟨w.heap.size, 3, none⟩ = some (.int .i64 vd)) (first | (refine SOF.out _ ?_; assumption) | (refine SOF.out _ (kept_trans q0 ?_); go_grown) | (refine SOF.out _ ?_; go_grown)) (first | (go_at_call 73; refine (HL.out _ (kept_trans q0 (by go_grown))).mono ?_; rintro e v4 ⟨rfl, h4⟩; have q4 := kept_trans q0 (kept_trans (a := wr) (by go_grown) h4)))
            have hrow4 := RowI_lo (RowI_kept HRW.out q4) (Nat.le_refl _) q4.size
            have hb24 := kept_trans hbx q4
            go_wp2_with (at_builtin; refine wp_appendI rfl (.tmp 50) (.tmp 52) rfl wo.heap.size _ _ _ rfl hrow4 rfl hb24 (Nat.le_refl _) hb24.size (by omega) ?_; intro v' w' hrow' hb' _)
            go_roundw
            case rel => exact ⟨j + 1, by omega, by go_num, by rw [HST.out]; exact hrow', hb'⟩
            case measure => simp [intOf]; omega
          · simp only [hE, if_true] at hl hst
            have HL := Lib.hid hl; clear hl hE
            have HN := Lib.hid hN; clear hN
            have HST := Lib.hid hst; clear hst
            have HRW := Lib.hid hrw; clear hrw
            go_wp2_with fail
            go_region_held3 (fun w' => w'.cell? ⟨bs, 0, none⟩ = some (.slice (some ⟨b, off, none⟩) T.length cp) ∧ w'.cell? ⟨w.heap.size, 0, none⟩ = some (.int .i64 va) ∧ w'.cell? ⟨w.heap.size, 1, none⟩ = some (.int .i64 vb) ∧ w'.cell? ⟨w.heap.size, 2, none⟩ = some (.int .i64 vc) ∧ w'.cell? ⟨w.heap.size, 3, none⟩ = some (.int .i64 vd)) (first | (refine SOF.out _ ?_; assumption) | (refine SOF.out _ (kept_trans q0 ?_); go_grown) | (refine SOF.out _ ?_; go_grown)) (first | (go_at_call 73; refine (HL.out _ (kept_trans q0 (by go_grown))).mono ?_; rintro e v4 ⟨rfl, h4⟩; have q4 := kept_trans q0 (kept_trans (a := wr) (by go_grown) h4)))
            go_wp2_with fail
            go_region_held3 (fun w' => w'.cell? ⟨bs, 0, none⟩ = some (.slice (some ⟨b, off, none⟩) T.length cp) ∧ w'.cell? ⟨w.heap.size, 0, none⟩ = some (.int .i64 va) ∧ w'.cell? ⟨w.heap.size, 1, none⟩ = some (.int .i64 vb) ∧ w'.cell? ⟨w.heap.size, 2, none⟩ = some (.int .i64 vc) ∧ w'.cell? ⟨w.heap.size, 3, none⟩ = some (.int .i64 vd)) (first | (refine SOF.out _ ?_; assumption) | (refine SOF.out _ (kept_trans q4 ?_); go_grown) | (refine SOF.out _ ?_; go_grown)) (first | (go_at_call 37; refine (HN.out _ (kept_trans q4 (by go_grown))).mono ?_; rintro e v5 ⟨rfl, h5⟩; have q5 := kept_trans q4 (kept_trans (a := v4) (by go_grown) h5)))
            have hrow4 := RowI_lo (RowI_kept HRW.out q5) (Nat.le_refl _) q5.size
            have hb24 := kept_trans hbx q5
            go_wp2_with (at_builtin; refine wp_appendI rfl (.tmp 50) (.tmp 52) rfl wo.heap.size _ _ _ rfl hrow4 rfl hb24 (Nat.le_refl _) hb24.size (by omega) ?_; intro v' w' hrow' hb' _)
            go_roundw
            case rel => exact ⟨j + 1, by omega, by go_num, by rw [HST.out]; exact hrow', hb'⟩
            case measure => simp [intOf]; omega
        · have : j = T.length := by omega
          subst this
          obtain ⟨_, B, cB, rfl, _⟩ := RowI_rd hrw
          rw [hln] at hrw ⊢
          have hrowx := RowF_lo (RowF_kept HROW.out hbx) (Nat.le_refl _) hbx.size
          have HRW := Lib.hid hrw; clear hrw
          have HRX := Lib.hid hrowx
          go_wp2_with (at_builtin; refine wp_appendV rfl (.tmp 54) (.tmp 56) rfl (w.alloc (.cells #[.int .i64 va, .int .i64 vb, .int .i64 vc, .int .i64 vd] 41)).heap.size _ [] B _ cB rfl HRX.out rfl kb (Nat.le_refl _) kb.size (by simp) ?_; intro v' w' hrow' hb' hsz' hg')
          go_roundw
          case measure => simp [intOf]
          refine ⟨1, by omega, by go_num, hb', [_], rfl, hrow', fun v hv => ?_⟩
          simp at hv
          subst hv
          exact RowI_rd (RowI_far (RowI_kept HRW.out (by go_grown)) hg' (fun g hg => Or.inl (HROW.out.2 g hg).2))
    · obtain rfl : k = 1 := by omega
      obtain ⟨v0, rfl⟩ := List.length_eq_one_iff.1 hvl
      have hv0 := hrd v0 rfl
      rcases RowF_form hrow with ⟨h1, _⟩ | ⟨g, cap, rfl, _, _, hgl, _⟩
      · omega
      · have hc0 : wo.cell? ⟨g, 0, none⟩ = some v0 := by have := hrow.1.cellAt 0 (by simp); simpa using this
        go_wp2
        go_ret
        exact ⟨g, cap, v0, rfl, hgl, hc0, hv0, KW.out⟩

theorem fast_step (T : List (Cr × Value)) (va vb vc vd : Int) (l : Lf) (j : Nat) (hj : j < T.length) : bestP ltB (numsU (timF (T.map (·.1)) va vb vc vd l) (j + 1)) = if can9 T[j].1 l then (match bestP ltB (numsU (timF (T.map (·.1)) va vb vc vd l) j) with | none => some ((j : Int), liftN T[j].1 va vb vc vd l) | some y => if ltB (liftN T[j].1 va vb vc vd l) y.2 then some ((j : Int), liftN T[j].1 va vb vc vd l) else some y) else bestP ltB (numsU (timF (T.map (·.1)) va vb vc vd l) j) := by
  rw [numsU_succ, timF_at T va vb vc vd l j hj]
  cases can9 T[j].1 l
  · simp
  · simp [bestP_snoc]

theorem rowTL_at (T : List (Cr × Value)) (va vb vc vd : Int) (l : Lf) (j : Nat) (hj : j < T.length) (h : j < (rowTL T va vb vc vd l T.length).length) : (rowTL T va vb vc vd l T.length)[j] = if can9 T[j].1 l then liftN T[j].1 va vb vc vd l else -1 := by
  simp [rowTL]

theorem liftN_nn {k : Cr} (va vb vc vd : Int) {l : Lf} (hc : okP k.x k.y = true) (hf : fldB l = true) (hv : spB va vb vc vd = true) : 0 ≤ liftN k va vb vc vd l := by
  have g := spB_true hv
  have f := fldB_true hf
  have m2 := moveN_bd hc f.2.1 f.2.2.1 g.1 g.2.1
  have u2 := upL_bd (n := l.h + 30) (d := vc) (by omega) (by omega)
  unfold liftN
  omega

theorem hv_bstL (s : Option (Int × Int)) : hvR s = if (bstP s).2.2 then ((bstP s).1, (bstP s).2.1, 0) else (0, 0, 3) := by
  cases s <;> rfl

set_option maxRecDepth 100000 in
set_option maxHeartbeats 4000000 in
theorem specFC_any (c : Value) (T ks : List (Cr × Value)) (va vb vc vd : Int) (l : Lf) (d : Value) (w : World) (h : RdK w c T) (hd : RdI w d l.af) (hm : T.map (·.1) = ks.map (·.1)) (hn : ∀ p ∈ ks, p.1.nm.size ≤ 1000000) (hl : l.nm.size ≤ 1000000) :
    Calls Tryz.prog 32 #[.agg #[c], .agg #[.int .i64 va, .int .i64 vb, .int .i64 vc, .int .i64 vd], .agg #[.string l.nm, .int .i64 l.wt, .int .i64 l.fx, .int .i64 l.fy, .int .i64 l.tx, .int .i64 l.ty, .int .i64 l.h, .int .i64 l.dl, d]] w fun e w' => e = .returned (.tuple #[.int .i64 (fastL ks va vb vc vd l).1, .int .i64 (fastL ks va vb vc vd l).2.1, .int .i64 (fastL ks va vb vc vd l).2.2]) ∧ Below w.heap.size w w' := by
  have hn2 := names_map hm hn
  rw [← fastL_map hm]
  have KS : BoxR (((w.alloc (.cells #[c] 63)).alloc (.cells #[.int .i64 va, .int .i64 vb, .int .i64 vc, .int .i64 vd] 41)).alloc (.cells #[.string l.nm, .int .i64 l.wt, .int .i64 l.fx, .int .i64 l.fy, .int .i64 l.tx, .int .i64 l.ty, .int .i64 l.h, .int .i64 l.dl, d] 44)) w.heap.size [c] := BoxR_up (BoxR_up (BoxR_new' rfl))
  have KV : BoxR (((w.alloc (.cells #[c] 63)).alloc (.cells #[.int .i64 va, .int .i64 vb, .int .i64 vc, .int .i64 vd] 41)).alloc (.cells #[.string l.nm, .int .i64 l.wt, .int .i64 l.fx, .int .i64 l.fy, .int .i64 l.tx, .int .i64 l.ty, .int .i64 l.h, .int .i64 l.dl, d] 44)) (w.heap.size + 1) [.int .i64 va, .int .i64 vb, .int .i64 vc, .int .i64 vd] := BoxR_up (BoxR_new' (by simp))
  have KL : BoxR (((w.alloc (.cells #[c] 63)).alloc (.cells #[.int .i64 va, .int .i64 vb, .int .i64 vc, .int .i64 vd] 41)).alloc (.cells #[.string l.nm, .int .i64 l.wt, .int .i64 l.fx, .int .i64 l.fy, .int .i64 l.tx, .int .i64 l.ty, .int .i64 l.h, .int .i64 l.dl, d] 44)) (w.heap.size + 2) [.string l.nm, .int .i64 l.wt, .int .i64 l.fx, .int .i64 l.fy, .int .i64 l.tx, .int .i64 l.ty, .int .i64 l.h, .int .i64 l.dl, d] := BoxR_new' (by simp)
  have KL0 : LfAt (((w.alloc (.cells #[c] 63)).alloc (.cells #[.int .i64 va, .int .i64 vb, .int .i64 vc, .int .i64 vd] 41)).alloc (.cells #[.string l.nm, .int .i64 l.wt, .int .i64 l.fx, .int .i64 l.fy, .int .i64 l.tx, .int .i64 l.ty, .int .i64 l.h, .int .i64 l.dl, d] 44)) (w.heap.size + 2) 0 l d := by have := LfAt_box l.nm l.wt l.fx l.fy l.tx l.ty l.h l.dl l.af d ((w.alloc (.cells #[c] 63)).alloc (.cells #[.int .i64 va, .int .i64 vb, .int .i64 vc, .int .i64 vd] 41)) 44 (RdI_kept hd (by go_grown)); simpa using this
  have hKW : Below w.heap.size w (((w.alloc (.cells #[c] 63)).alloc (.cells #[.int .i64 va, .int .i64 vb, .int .i64 vc, .int .i64 vd] 41)).alloc (.cells #[.string l.nm, .int .i64 l.wt, .int .i64 l.fx, .int .i64 l.fy, .int .i64 l.tx, .int .i64 l.ty, .int .i64 l.h, .int .i64 l.dl, d] 44)) := by go_grown
  obtain ⟨A, cp, rfl, _, _⟩ := RdK_at h
  have HV := fun z => specSp_any va vb vc vd z
  have H0 := fun z (q : Below (((w.alloc (.cells #[.slice A T.length cp] 63)).alloc (.cells #[.int .i64 va, .int .i64 vb, .int .i64 vc, .int .i64 vd] 41)).alloc (.cells #[.string l.nm, .int .i64 l.wt, .int .i64 l.fx, .int .i64 l.fy, .int .i64 l.tx, .int .i64 l.ty, .int .i64 l.h, .int .i64 l.dl, d] 44)).heap.size (((w.alloc (.cells #[.slice A T.length cp] 63)).alloc (.cells #[.int .i64 va, .int .i64 vb, .int .i64 vc, .int .i64 vd] 41)).alloc (.cells #[.string l.nm, .int .i64 l.wt, .int .i64 l.fx, .int .i64 l.fy, .int .i64 l.tx, .int .i64 l.ty, .int .i64 l.h, .int .i64 l.dl, d] 44)) z) => specSite_any w.heap.size 0 A cp T z (RdK_kept h (kept_trans hKW q)) (BoxR_kept KS q).1 ((BoxR_kept KS q).2 0 _ rfl) hn2
  have H1 := fun z (q : Below (((w.alloc (.cells #[.slice A T.length cp] 63)).alloc (.cells #[.int .i64 va, .int .i64 vb, .int .i64 vc, .int .i64 vd] 41)).alloc (.cells #[.string l.nm, .int .i64 l.wt, .int .i64 l.fx, .int .i64 l.fy, .int .i64 l.tx, .int .i64 l.ty, .int .i64 l.h, .int .i64 l.dl, d] 44)).heap.size (((w.alloc (.cells #[.slice A T.length cp] 63)).alloc (.cells #[.int .i64 va, .int .i64 vb, .int .i64 vc, .int .i64 vd] 41)).alloc (.cells #[.string l.nm, .int .i64 l.wt, .int .i64 l.fx, .int .i64 l.fy, .int .i64 l.tx, .int .i64 l.ty, .int .i64 l.h, .int .i64 l.dl, d] 44)) z) => specPlain_any (w.heap.size + 2) 0 l d z (LfAt_kept KL0 q) hl
  have HT := fun hv hb hf bl z (q : Below (((w.alloc (.cells #[.slice A T.length cp] 63)).alloc (.cells #[.int .i64 va, .int .i64 vb, .int .i64 vc, .int .i64 vd] 41)).alloc (.cells #[.string l.nm, .int .i64 l.wt, .int .i64 l.fx, .int .i64 l.fy, .int .i64 l.tx, .int .i64 l.ty, .int .i64 l.h, .int .i64 l.dl, d] 44)).heap.size (((w.alloc (.cells #[.slice A T.length cp] 63)).alloc (.cells #[.int .i64 va, .int .i64 vb, .int .i64 vc, .int .i64 vd] 41)).alloc (.cells #[.string l.nm, .int .i64 l.wt, .int .i64 l.fx, .int .i64 l.fy, .int .i64 l.tx, .int .i64 l.ty, .int .i64 l.h, .int .i64 l.dl, d] 44)) z) (hx : LfAt z bl 0 l d) => specTab1_any w.heap.size bl (.slice A T.length cp) T va vb vc vd l d z (RdK_kept h (kept_trans hKW q)) (BoxR_kept KS q) hx hb hf hv
  have HLB := fun z (q : Below w.heap.size w z) => LfAt_box l.nm l.wt l.fx l.fy l.tx l.ty l.h l.dl l.af d z 44 (RdI_kept hd q)
  have HNN := fun (hb : siteB T = true) hf hv j (hj : j < T.length) => liftN_nn va vb vc vd (l := l) (craneB_true ((siteP_crane (T := T) hb).2 j hj)).1 hf hv
  have RF := Lib.hid (fun z (q : Below (((w.alloc (.cells #[.slice A T.length cp] 63)).alloc (.cells #[.int .i64 va, .int .i64 vb, .int .i64 vc, .int .i64 vd] 41)).alloc (.cells #[.string l.nm, .int .i64 l.wt, .int .i64 l.fx, .int .i64 l.fy, .int .i64 l.tx, .int .i64 l.ty, .int .i64 l.h, .int .i64 l.dl, d] 44)).heap.size (((w.alloc (.cells #[.slice A T.length cp] 63)).alloc (.cells #[.int .i64 va, .int .i64 vb, .int .i64 vc, .int .i64 vd] 41)).alloc (.cells #[.string l.nm, .int .i64 l.wt, .int .i64 l.fx, .int .i64 l.fy, .int .i64 l.tx, .int .i64 l.ty, .int .i64 l.h, .int .i64 l.dl, d] 44)) z) => And.intro (BoxR_kept KS q) (And.intro (BoxR_kept KV q) (BoxR_kept KL q).2))
  have HW0 := Lib.hid hKW
  have HRA := Lib.hid (fun j hj => rowTL_at T va vb vc vd l j hj)
  have hrl := rowTL_len T va vb vc vd l T.length (Nat.le_refl _)
  have HST := Lib.hid (fun j hj => fast_step T va vb vc vd l j hj)
  have hlen6 := fun hb => (siteP_crane (T := T) hb).1
  unfold fastL
  obtain ⟨A2, cp2, rfl, _, _⟩ := RdI_slice hd
  clear h hm hn hn2 hd KS KV KL KL0 hKW
  cases p0 : spB va vb vc vd <;> rw [p0] at HV
  · simp only [Bool.false_and, Bool.false_eq_true, if_false]
    have HV := Lib.hid HV
    clear H0 H1 HT HNN hlen6 HLB
    obtain ⟨ls, i1, i2, i3, i4, i5, i6, i7, us⟩ := l
    dsimp only at *
    go_enter Tryz.func32, Tryz.ntmps32
    have k0 := Below.refl (((w.alloc (.cells #[.slice A T.length cp] 63)).alloc (.cells #[.int .i64 va, .int .i64 vb, .int .i64 vc, .int .i64 vd] 41)).alloc (.cells #[.string ls, .int .i64 i1, .int .i64 i2, .int .i64 i3, .int .i64 i4, .int .i64 i5, .int .i64 i6, .int .i64 i7, .slice A2 us.length cp2] 44)).heap.size (((w.alloc (.cells #[.slice A T.length cp] 63)).alloc (.cells #[.int .i64 va, .int .i64 vb, .int .i64 vc, .int .i64 vd] 41)).alloc (.cells #[.string ls, .int .i64 i1, .int .i64 i2, .int .i64 i3, .int .i64 i4, .int .i64 i5, .int .i64 i6, .int .i64 i7, .slice A2 us.length cp2] 44))
    have y0 : (((w.alloc (.cells #[.slice A T.length cp] 63)).alloc (.cells #[.int .i64 va, .int .i64 vb, .int .i64 vc, .int .i64 vd] 41)).alloc (.cells #[.string ls, .int .i64 i1, .int .i64 i2, .int .i64 i3, .int .i64 i4, .int .i64 i5, .int .i64 i6, .int .i64 i7, .slice A2 us.length cp2] 44)).cell? ⟨w.heap.size + 1, 0, none⟩ = some (.int .i64 va) := (RF.out _ k0).2.1.2 0 _ rfl
    have y1 : (((w.alloc (.cells #[.slice A T.length cp] 63)).alloc (.cells #[.int .i64 va, .int .i64 vb, .int .i64 vc, .int .i64 vd] 41)).alloc (.cells #[.string ls, .int .i64 i1, .int .i64 i2, .int .i64 i3, .int .i64 i4, .int .i64 i5, .int .i64 i6, .int .i64 i7, .slice A2 us.length cp2] 44)).cell? ⟨w.heap.size + 1, 1, none⟩ = some (.int .i64 vb) := (RF.out _ k0).2.1.2 1 _ rfl
    have y2 : (((w.alloc (.cells #[.slice A T.length cp] 63)).alloc (.cells #[.int .i64 va, .int .i64 vb, .int .i64 vc, .int .i64 vd] 41)).alloc (.cells #[.string ls, .int .i64 i1, .int .i64 i2, .int .i64 i3, .int .i64 i4, .int .i64 i5, .int .i64 i6, .int .i64 i7, .slice A2 us.length cp2] 44)).cell? ⟨w.heap.size + 1, 2, none⟩ = some (.int .i64 vc) := (RF.out _ k0).2.1.2 2 _ rfl
    have y3 : (((w.alloc (.cells #[.slice A T.length cp] 63)).alloc (.cells #[.int .i64 va, .int .i64 vb, .int .i64 vc, .int .i64 vd] 41)).alloc (.cells #[.string ls, .int .i64 i1, .int .i64 i2, .int .i64 i3, .int .i64 i4, .int .i64 i5, .int .i64 i6, .int .i64 i7, .slice A2 us.length cp2] 44)).cell? ⟨w.heap.size + 1, 3, none⟩ = some (.int .i64 vd) := (RF.out _ k0).2.1.2 3 _ rfl
    go_wp2_with fail
    refine (HV.out _).mono ?_
    rintro e w1 ⟨rfl, k1⟩
    go_wp2
    go_ret3
    exact ⟨rfl, kept_trans HW0.out k1⟩
  cases p1 : siteB T <;> rw [p1] at H0
  · simp only [Bool.true_and, Bool.false_and, Bool.false_eq_true, if_false]
    have HV := Lib.hid HV
    have H0 := Lib.hid H0
    clear H1 HT HNN hlen6 HLB
    obtain ⟨ls, i1, i2, i3, i4, i5, i6, i7, us⟩ := l
    dsimp only at *
    go_enter Tryz.func32, Tryz.ntmps32
    have k0 := Below.refl (((w.alloc (.cells #[.slice A T.length cp] 63)).alloc (.cells #[.int .i64 va, .int .i64 vb, .int .i64 vc, .int .i64 vd] 41)).alloc (.cells #[.string ls, .int .i64 i1, .int .i64 i2, .int .i64 i3, .int .i64 i4, .int .i64 i5, .int .i64 i6, .int .i64 i7, .slice A2 us.length cp2] 44)).heap.size (((w.alloc (.cells #[.slice A T.length cp] 63)).alloc (.cells #[.int .i64 va, .int .i64 vb, .int .i64 vc, .int .i64 vd] 41)).alloc (.cells #[.string ls, .int .i64 i1, .int .i64 i2, .int .i64 i3, .int .i64 i4, .int .i64 i5, .int .i64 i6, .int .i64 i7, .slice A2 us.length cp2] 44))
    have y0 : (((w.alloc (.cells #[.slice A T.length cp] 63)).alloc (.cells #[.int .i64 va, .int .i64 vb, .int .i64 vc, .int .i64 vd] 41)).alloc (.cells #[.string ls, .int .i64 i1, .int .i64 i2, .int .i64 i3, .int .i64 i4, .int .i64 i5, .int .i64 i6, .int .i64 i7, .slice A2 us.length cp2] 44)).cell? ⟨w.heap.size + 1, 0, none⟩ = some (.int .i64 va) := (RF.out _ k0).2.1.2 0 _ rfl
    have y1 : (((w.alloc (.cells #[.slice A T.length cp] 63)).alloc (.cells #[.int .i64 va, .int .i64 vb, .int .i64 vc, .int .i64 vd] 41)).alloc (.cells #[.string ls, .int .i64 i1, .int .i64 i2, .int .i64 i3, .int .i64 i4, .int .i64 i5, .int .i64 i6, .int .i64 i7, .slice A2 us.length cp2] 44)).cell? ⟨w.heap.size + 1, 1, none⟩ = some (.int .i64 vb) := (RF.out _ k0).2.1.2 1 _ rfl
    have y2 : (((w.alloc (.cells #[.slice A T.length cp] 63)).alloc (.cells #[.int .i64 va, .int .i64 vb, .int .i64 vc, .int .i64 vd] 41)).alloc (.cells #[.string ls, .int .i64 i1, .int .i64 i2, .int .i64 i3, .int .i64 i4, .int .i64 i5, .int .i64 i6, .int .i64 i7, .slice A2 us.length cp2] 44)).cell? ⟨w.heap.size + 1, 2, none⟩ = some (.int .i64 vc) := (RF.out _ k0).2.1.2 2 _ rfl
    have y3 : (((w.alloc (.cells #[.slice A T.length cp] 63)).alloc (.cells #[.int .i64 va, .int .i64 vb, .int .i64 vc, .int .i64 vd] 41)).alloc (.cells #[.string ls, .int .i64 i1, .int .i64 i2, .int .i64 i3, .int .i64 i4, .int .i64 i5, .int .i64 i6, .int .i64 i7, .slice A2 us.length cp2] 44)).cell? ⟨w.heap.size + 1, 3, none⟩ = some (.int .i64 vd) := (RF.out _ k0).2.1.2 3 _ rfl
    go_wp2_with fail
    refine (HV.out _).mono ?_
    rintro e w1 ⟨rfl, k1⟩
    go_wp2_with fail
    refine (H0.out _ k1).mono ?_
    rintro e w2 ⟨rfl, hb2⟩
    have k2 := kept_trans (a := (((w.alloc (.cells #[.slice A T.length cp] 63)).alloc (.cells #[.int .i64 va, .int .i64 vb, .int .i64 vc, .int .i64 vd] 41)).alloc (.cells #[.string ls, .int .i64 i1, .int .i64 i2, .int .i64 i3, .int .i64 i4, .int .i64 i5, .int .i64 i6, .int .i64 i7, .slice A2 us.length cp2] 44))) k1 hb2
    go_wp2
    go_ret3
    exact ⟨rfl, kept_trans HW0.out k2⟩
  cases p2 : fldB l <;> rw [p2] at H1
  · simp only [Bool.true_and, Bool.false_eq_true, if_false]
    have HV := Lib.hid HV
    have H0 := Lib.hid H0
    have H1 := Lib.hid H1
    clear HT HNN hlen6 HLB
    obtain ⟨ls, i1, i2, i3, i4, i5, i6, i7, us⟩ := l
    dsimp only at *
    go_enter Tryz.func32, Tryz.ntmps32
    have k0 := Below.refl (((w.alloc (.cells #[.slice A T.length cp] 63)).alloc (.cells #[.int .i64 va, .int .i64 vb, .int .i64 vc, .int .i64 vd] 41)).alloc (.cells #[.string ls, .int .i64 i1, .int .i64 i2, .int .i64 i3, .int .i64 i4, .int .i64 i5, .int .i64 i6, .int .i64 i7, .slice A2 us.length cp2] 44)).heap.size (((w.alloc (.cells #[.slice A T.length cp] 63)).alloc (.cells #[.int .i64 va, .int .i64 vb, .int .i64 vc, .int .i64 vd] 41)).alloc (.cells #[.string ls, .int .i64 i1, .int .i64 i2, .int .i64 i3, .int .i64 i4, .int .i64 i5, .int .i64 i6, .int .i64 i7, .slice A2 us.length cp2] 44))
    have y0 : (((w.alloc (.cells #[.slice A T.length cp] 63)).alloc (.cells #[.int .i64 va, .int .i64 vb, .int .i64 vc, .int .i64 vd] 41)).alloc (.cells #[.string ls, .int .i64 i1, .int .i64 i2, .int .i64 i3, .int .i64 i4, .int .i64 i5, .int .i64 i6, .int .i64 i7, .slice A2 us.length cp2] 44)).cell? ⟨w.heap.size + 1, 0, none⟩ = some (.int .i64 va) := (RF.out _ k0).2.1.2 0 _ rfl
    have y1 : (((w.alloc (.cells #[.slice A T.length cp] 63)).alloc (.cells #[.int .i64 va, .int .i64 vb, .int .i64 vc, .int .i64 vd] 41)).alloc (.cells #[.string ls, .int .i64 i1, .int .i64 i2, .int .i64 i3, .int .i64 i4, .int .i64 i5, .int .i64 i6, .int .i64 i7, .slice A2 us.length cp2] 44)).cell? ⟨w.heap.size + 1, 1, none⟩ = some (.int .i64 vb) := (RF.out _ k0).2.1.2 1 _ rfl
    have y2 : (((w.alloc (.cells #[.slice A T.length cp] 63)).alloc (.cells #[.int .i64 va, .int .i64 vb, .int .i64 vc, .int .i64 vd] 41)).alloc (.cells #[.string ls, .int .i64 i1, .int .i64 i2, .int .i64 i3, .int .i64 i4, .int .i64 i5, .int .i64 i6, .int .i64 i7, .slice A2 us.length cp2] 44)).cell? ⟨w.heap.size + 1, 2, none⟩ = some (.int .i64 vc) := (RF.out _ k0).2.1.2 2 _ rfl
    have y3 : (((w.alloc (.cells #[.slice A T.length cp] 63)).alloc (.cells #[.int .i64 va, .int .i64 vb, .int .i64 vc, .int .i64 vd] 41)).alloc (.cells #[.string ls, .int .i64 i1, .int .i64 i2, .int .i64 i3, .int .i64 i4, .int .i64 i5, .int .i64 i6, .int .i64 i7, .slice A2 us.length cp2] 44)).cell? ⟨w.heap.size + 1, 3, none⟩ = some (.int .i64 vd) := (RF.out _ k0).2.1.2 3 _ rfl
    go_wp2_with fail
    refine (HV.out _).mono ?_
    rintro e w1 ⟨rfl, k1⟩
    go_wp2_with fail
    refine (H0.out _ k1).mono ?_
    rintro e w2 ⟨rfl, hb2⟩
    have k2 := kept_trans (a := (((w.alloc (.cells #[.slice A T.length cp] 63)).alloc (.cells #[.int .i64 va, .int .i64 vb, .int .i64 vc, .int .i64 vd] 41)).alloc (.cells #[.string ls, .int .i64 i1, .int .i64 i2, .int .i64 i3, .int .i64 i4, .int .i64 i5, .int .i64 i6, .int .i64 i7, .slice A2 us.length cp2] 44))) k1 hb2
    go_wp2_with fail
    refine (H1.out _ k2).mono ?_
    rintro e w3 ⟨rfl, hb3⟩
    have k3 := kept_trans (a := (((w.alloc (.cells #[.slice A T.length cp] 63)).alloc (.cells #[.int .i64 va, .int .i64 vb, .int .i64 vc, .int .i64 vd] 41)).alloc (.cells #[.string ls, .int .i64 i1, .int .i64 i2, .int .i64 i3, .int .i64 i4, .int .i64 i5, .int .i64 i6, .int .i64 i7, .slice A2 us.length cp2] 44))) k2 hb3
    go_wp2
    go_ret3
    exact ⟨rfl, kept_trans HW0.out k3⟩
  simp only [Bool.true_and, if_true]
  have HV := Lib.hid HV
  have H0 := Lib.hid H0
  have H1 := Lib.hid H1
  have HTX := Lib.hid (HT p0 p1 p2)
  have HNX := Lib.hid (HNN p1 p2 p0)
  have HLX := Lib.hid HLB
  have hl6 := hlen6 p1
  clear HT HNN hlen6 HLB p0 p1 p2
  obtain ⟨S, hS⟩ : ∃ S : Nat → Option (Int × Int), S = fun j => bestP ltB (numsU (timF (T.map (·.1)) va vb vc vd l) j) := ⟨_, rfl⟩
  have hSJ : ∀ j, bestP ltB (numsU (timF (T.map (·.1)) va vb vc vd l) j) = S j := fun j => by rw [hS]
  have HSJ := Lib.hid hSJ
  rw [hSJ T.length]
  have hS0 : S 0 = none := by rw [hS]; rfl
  obtain ⟨M, hM⟩ : ∃ M : Nat → Int, M = fun j => if h : j < T.length then liftN T[j].1 va vb vc vd l else 0 := ⟨_, rfl⟩
  obtain ⟨C, hC⟩ : ∃ C : Nat → Bool, C = fun j => if h : j < T.length then can9 T[j].1 l else false := ⟨_, rfl⟩
  have HS1 := Lib.hid (show ∀ j, j < T.length → S (j + 1) = if C j then (match S j with | none => some ((j : Int), M j) | some y => if ltB (M j) y.2 then some ((j : Int), M j) else some y) else S j from fun j hj => by rw [← HSJ.out (j + 1), ← HSJ.out j, HST.out j hj, hC, hM]; simp [hj])
  have HM0 := Lib.hid (show ∀ j, j < T.length → 0 ≤ M j from fun j hj => by rw [hM]; simp only [hj, dif_pos]; exact HNX.out j hj)
  have HRO := Lib.hid (show ∀ j, (hj : j < (rowTL T va vb vc vd l T.length).length) → (rowTL T va vb vc vd l T.length)[j] = if C j then M j else -1 from fun j hj => by rw [HRA.out j (by omega) hj, hC, hM]; simp only [show j < T.length by omega, dif_pos])
  clear hS hM hC hSJ HSJ HST HRA HNX
  generalize rowTL T va vb vc vd l T.length = zs at *
  obtain ⟨ls, i1, i2, i3, i4, i5, i6, i7, us⟩ := l
  dsimp only at *
  go_enter Tryz.func32, Tryz.ntmps32
  have k0 := Below.refl (((w.alloc (.cells #[.slice A T.length cp] 63)).alloc (.cells #[.int .i64 va, .int .i64 vb, .int .i64 vc, .int .i64 vd] 41)).alloc (.cells #[.string ls, .int .i64 i1, .int .i64 i2, .int .i64 i3, .int .i64 i4, .int .i64 i5, .int .i64 i6, .int .i64 i7, .slice A2 us.length cp2] 44)).heap.size (((w.alloc (.cells #[.slice A T.length cp] 63)).alloc (.cells #[.int .i64 va, .int .i64 vb, .int .i64 vc, .int .i64 vd] 41)).alloc (.cells #[.string ls, .int .i64 i1, .int .i64 i2, .int .i64 i3, .int .i64 i4, .int .i64 i5, .int .i64 i6, .int .i64 i7, .slice A2 us.length cp2] 44))
  have y0 : (((w.alloc (.cells #[.slice A T.length cp] 63)).alloc (.cells #[.int .i64 va, .int .i64 vb, .int .i64 vc, .int .i64 vd] 41)).alloc (.cells #[.string ls, .int .i64 i1, .int .i64 i2, .int .i64 i3, .int .i64 i4, .int .i64 i5, .int .i64 i6, .int .i64 i7, .slice A2 us.length cp2] 44)).cell? ⟨w.heap.size + 1, 0, none⟩ = some (.int .i64 va) := (RF.out _ k0).2.1.2 0 _ rfl
  have y1 : (((w.alloc (.cells #[.slice A T.length cp] 63)).alloc (.cells #[.int .i64 va, .int .i64 vb, .int .i64 vc, .int .i64 vd] 41)).alloc (.cells #[.string ls, .int .i64 i1, .int .i64 i2, .int .i64 i3, .int .i64 i4, .int .i64 i5, .int .i64 i6, .int .i64 i7, .slice A2 us.length cp2] 44)).cell? ⟨w.heap.size + 1, 1, none⟩ = some (.int .i64 vb) := (RF.out _ k0).2.1.2 1 _ rfl
  have y2 : (((w.alloc (.cells #[.slice A T.length cp] 63)).alloc (.cells #[.int .i64 va, .int .i64 vb, .int .i64 vc, .int .i64 vd] 41)).alloc (.cells #[.string ls, .int .i64 i1, .int .i64 i2, .int .i64 i3, .int .i64 i4, .int .i64 i5, .int .i64 i6, .int .i64 i7, .slice A2 us.length cp2] 44)).cell? ⟨w.heap.size + 1, 2, none⟩ = some (.int .i64 vc) := (RF.out _ k0).2.1.2 2 _ rfl
  have y3 : (((w.alloc (.cells #[.slice A T.length cp] 63)).alloc (.cells #[.int .i64 va, .int .i64 vb, .int .i64 vc, .int .i64 vd] 41)).alloc (.cells #[.string ls, .int .i64 i1, .int .i64 i2, .int .i64 i3, .int .i64 i4, .int .i64 i5, .int .i64 i6, .int .i64 i7, .slice A2 us.length cp2] 44)).cell? ⟨w.heap.size + 1, 3, none⟩ = some (.int .i64 vd) := (RF.out _ k0).2.1.2 3 _ rfl
  go_wp2_with fail
  refine (HV.out _).mono ?_
  rintro e w1 ⟨rfl, k1⟩
  go_wp2_with fail
  refine (H0.out _ k1).mono ?_
  rintro e w2 ⟨rfl, hb2⟩
  have k2 := kept_trans (a := (((w.alloc (.cells #[.slice A T.length cp] 63)).alloc (.cells #[.int .i64 va, .int .i64 vb, .int .i64 vc, .int .i64 vd] 41)).alloc (.cells #[.string ls, .int .i64 i1, .int .i64 i2, .int .i64 i3, .int .i64 i4, .int .i64 i5, .int .i64 i6, .int .i64 i7, .slice A2 us.length cp2] 44))) k1 hb2
  go_wp2_with fail
  refine (H1.out _ k2).mono ?_
  rintro e w3 ⟨rfl, hb3⟩
  have k3 := kept_trans (a := (((w.alloc (.cells #[.slice A T.length cp] 63)).alloc (.cells #[.int .i64 va, .int .i64 vb, .int .i64 vc, .int .i64 vd] 41)).alloc (.cells #[.string ls, .int .i64 i1, .int .i64 i2, .int .i64 i3, .int .i64 i4, .int .i64 i5, .int .i64 i6, .int .i64 i7, .slice A2 us.length cp2] 44))) k2 hb3
  clear y0 y1 y2 y3
  have y0 : w3.cell? ⟨w.heap.size + 1, 0, none⟩ = some (.int .i64 va) := (RF.out _ k3).2.1.2 0 _ rfl
  have y1 : w3.cell? ⟨w.heap.size + 1, 1, none⟩ = some (.int .i64 vb) := (RF.out _ k3).2.1.2 1 _ rfl
  have y2 : w3.cell? ⟨w.heap.size + 1, 2, none⟩ = some (.int .i64 vc) := (RF.out _ k3).2.1.2 2 _ rfl
  have y3 : w3.cell? ⟨w.heap.size + 1, 3, none⟩ = some (.int .i64 vd) := (RF.out _ k3).2.1.2 3 _ rfl
  have l0 : w3.cell? ⟨w.heap.size + 2, 0, none⟩ = some (.string ls) := (RF.out _ k3).2.2 0 _ rfl
  have l1 : w3.cell? ⟨w.heap.size + 2, 1, none⟩ = some (.int .i64 i1) := (RF.out _ k3).2.2 1 _ rfl
  have l2 : w3.cell? ⟨w.heap.size + 2, 2, none⟩ = some (.int .i64 i2) := (RF.out _ k3).2.2 2 _ rfl
  have l3 : w3.cell? ⟨w.heap.size + 2, 3, none⟩ = some (.int .i64 i3) := (RF.out _ k3).2.2 3 _ rfl
  have l4 : w3.cell? ⟨w.heap.size + 2, 4, none⟩ = some (.int .i64 i4) := (RF.out _ k3).2.2 4 _ rfl
  have l5 : w3.cell? ⟨w.heap.size + 2, 5, none⟩ = some (.int .i64 i5) := (RF.out _ k3).2.2 5 _ rfl
  have l6 : w3.cell? ⟨w.heap.size + 2, 6, none⟩ = some (.int .i64 i6) := (RF.out _ k3).2.2 6 _ rfl
  have l7 : w3.cell? ⟨w.heap.size + 2, 7, none⟩ = some (.int .i64 i7) := (RF.out _ k3).2.2 7 _ rfl
  have l8 : w3.cell? ⟨w.heap.size + 2, 8, none⟩ = some (.slice A2 us.length cp2) := (RF.out _ k3).2.2 8 _ rfl
  go_wp2_with fail
  refine (HTX.out w3.heap.size _ (kept_trans k3 (by go_grown)) (HLX.out _ (kept_trans HW0.out k3))).mono ?_
  rintro e w4 ⟨g, cap, tv, rfl, hgl, hgc, hrd, hb4⟩
  have k4 := kept_trans (a := (((w.alloc (.cells #[.slice A T.length cp] 63)).alloc (.cells #[.int .i64 va, .int .i64 vb, .int .i64 vc, .int .i64 vd] 41)).alloc (.cells #[.string ls, .int .i64 i1, .int .i64 i2, .int .i64 i3, .int .i64 i4, .int .i64 i5, .int .i64 i6, .int .i64 i7, .slice A2 us.length cp2] 44))) (kept_trans k3 (by go_grown)) hb4
  obtain ⟨_, B, cB, rfl, hrr⟩ := hrd
  rw [hrl] at hgc
  clear y0 y1 y2 y3 l0 l1 l2 l3 l4 l5 l6 l7 l8 H0 H1 HV HTX HLX RF hb4 hb3 hb2 k1 k2
  have hcell : ∀ j, (hj : j < T.length) → ∃ b off, B = some ⟨b, off, none⟩ ∧ b < w4.heap.size ∧ w4.cell? ⟨b, off + j, none⟩ = some (.int .i64 (if C j then M j else -1)) := fun j hj => by
    obtain ⟨b, off, e1, e2, e3⟩ := hrr j (by omega)
    exact ⟨b, off, e1, e2, by rw [e3, HRO.out j (by omega)]⟩
  have HCE := Lib.hid hcell; clear hcell hrr HRO
  go_wp2_with fail
  go_loopw [10, 11] (fun bst i wr => ∃ j : Nat, j ≤ T.length ∧ i = .int .i64 (j : Int) ∧ Below w4.heap.size w4 wr ∧ ((S j = none ∧ bst = .int .i64 (-1)) ∨ ∃ jb : Nat, jb < j ∧ C jb = true ∧ S j = some ((jb : Int), M jb) ∧ bst = .int .i64 (jb : Int))) (fun _ i _ => T.length - (intOf i).toNat)
  case atStart => exact ⟨0, by omega, rfl, by go_grown, Or.inl ⟨hS0, rfl⟩⟩
  case round =>
    obtain ⟨j, hj, rfl, hb, hbs⟩ := hrel
    by_cases hlt : j < T.length
    · obtain ⟨b, off, rfl, hbl, hcj⟩ := HCE.out j hlt
      have hs1 := HS1.out j hlt
      have hm0 := HM0.out j hlt
      have ej : ∀ z, Below wr.heap.size wr z → z.cell? ⟨b, off + j, none⟩ = some (.int .i64 (if C j then M j else -1)) := fun z q => (kept_cell (kept_trans hb q) _ _ hbl).trans hcj
      clear hcj
      have ec := ej _ (Below.refl _ _)
      clear ej
      cases hCj : C j
      · rw [hCj] at ec hs1
        simp only [Bool.false_eq_true, if_false] at ec hs1
        rcases hbs with ⟨hn, rfl⟩ | ⟨jb, hjb, hcb, hsb, rfl⟩
        · go_wp2_with fail
          go_quiet (fail)
          go_wp2
          go_roundw
          case rel => exact ⟨j + 1, by omega, by go_num, kept_drewN hb _, Or.inl ⟨by rw [hs1, hn], rfl⟩⟩
          case measure => simp [intOf]; omega
        · go_wp2_with fail
          go_quiet (fail)
          go_wp2
          go_roundw
          case rel => exact ⟨j + 1, by omega, by go_num, kept_drewN hb _, Or.inr ⟨jb, by omega, hcb, by rw [hs1, hsb], rfl⟩⟩
          case measure => simp [intOf]; omega
      · rw [hCj] at ec hs1
        simp only [if_true] at ec hs1
        have hd0 : decide (0 ≤ M j) = true := by simp; omega
        rcases hbs with ⟨hn, rfl⟩ | ⟨jb, hjb, hcb, hsb, rfl⟩
        · rw [hn] at hs1
          dsimp only at hs1
          go_wp2_with fail
          go_quiet (fail)
          go_wp2
          go_roundw
          case rel => exact ⟨j + 1, by omega, by go_num, kept_drewN hb _, Or.inr ⟨j, by omega, hCj, hs1, rfl⟩⟩
          case measure => simp [intOf]; omega
        · obtain ⟨b', off', e', hbl', hc'⟩ := HCE.out jb (by omega)
          injection e' with e'
          injection e' with e1 e2 _
          subst e1 e2
          rw [hcb] at hc'
          simp only [if_true] at hc'
          have eb : wr.cell? ⟨b, off + jb, none⟩ = some (.int .i64 (M jb)) := (kept_cell hb _ _ hbl').trans hc'
          rw [hsb] at hs1
          dsimp only at hs1
          have hjn : decide ((jb : Int) < 0) = false := by simp
          by_cases hmm : M j < M jb
          · have hd1 : decide (M j < M jb) = true := by simp [hmm]
            rw [show ltB (M j) (M jb) = true from hd1] at hs1
            simp only [if_true] at hs1
            go_wp2_with fail
            go_quiet (fail)
            go_wp2
            go_roundw
            case rel => exact ⟨j + 1, by omega, by go_num, kept_drewN hb _, Or.inr ⟨j, by omega, hCj, hs1, rfl⟩⟩
            case measure => simp [intOf]; omega
          · have hd1 : decide (M j < M jb) = false := by simp; omega
            rw [show ltB (M j) (M jb) = false from hd1] at hs1
            simp only [Bool.false_eq_true, if_false] at hs1
            go_wp2_with fail
            go_quiet (fail)
            go_wp2
            go_roundw
            case rel => exact ⟨j + 1, by omega, by go_num, kept_drewN hb _, Or.inr ⟨jb, by omega, hcb, hs1, rfl⟩⟩
            case measure => simp [intOf]; omega
    · have : j = T.length := by omega
      subst this
      rcases hbs with ⟨hn, rfl⟩ | ⟨jb, hjb, hcb, hsb, rfl⟩
      · go_wp2
        go_ret3
        exact ⟨by rw [hn]; rfl, kept_trans HW0.out (kept_trans k4 hb)⟩
      · obtain ⟨b, off, rfl, hbl, hcj⟩ := HCE.out jb hjb
        rw [hcb] at hcj
        simp only [if_true] at hcj
        have ec : wr.cell? ⟨b, off + jb, none⟩ = some (.int .i64 (M jb)) := (kept_cell hb _ _ hbl).trans hcj
        have hjn : decide ((jb : Int) < 0) = false := by simp
        clear hcj
        go_wp2_with fail
        go_quiet (fail)
        go_wp2
        go_ret3
        exact ⟨by rw [hsb]; rfl, kept_trans HW0.out (kept_trans k4 (kept_drewN hb _))⟩

theorem bestTime_any (c : Value) (T : List (Cr × Value)) (va vb vc vd : Int) (l : Lf) (d : Value) (w : World) (h : RdK w c T) (hd : RdI w d l.af) (hv : spB va vb vc vd = true) (hb : siteB T = true) (hf : fldB l = true) (hn : ∀ p ∈ T, p.1.nm.size ≤ 1000000) (ht : VecTab w) (pS pF : Nat) (z : World) (q : Below w.heap.size w z)
    (h1 : BoxR z pS [c]) (h2 : BoxR z pF [.func (.func 49) #[.agg #[.string l.nm, .int .i64 l.wt, .int .i64 l.fx, .int .i64 l.fy, .int .i64 l.tx, .int .i64 l.ty, .int .i64 l.h, .int .i64 l.dl, d, .int .i64 va, .int .i64 vb, .int .i64 vc, .int .i64 vd]] #[]]) :
    Calls Tryz.prog 70 #[.func (.func 102) #[] #[.pointer (some ⟨pS, 0, none⟩), .pointer (some ⟨pF, 0, none⟩)], .func (.func 71) #[] #[]] z fun e w' =>
      e = .returned (.tuple #[.int .i64 (bstP (bestP ltB (numsU (timF (T.map (·.1)) va vb vc vd l) T.length))).1, .int .i64 (bstP (bestP ltB (numsU (timF (T.map (·.1)) va vb vc vd l) T.length))).2.1, .bool (bstP (bestP ltB (numsU (timF (T.map (·.1)) va vb vc vd l) T.length))).2.2]) ∧ Below z.heap.size z w' := by
  obtain ⟨hn6, hcr⟩ := siteP_crane hb
  refine bestOfL_any pS pF _ T.length z (fun n hn2 => timeSeq_any (fun W => Below z.heap.size z W) pS pF _ c T (timF (T.map (·.1)) va vb vc vd l) n hn2 z (fun W h => h)
    (fun x hx => (BoxR_kept h1 hx).2 0 _ rfl) (fun x hx => (BoxR_kept h2 hx).2 0 _ rfl) (fun x hx => RdK_kept h (kept_trans q hx)) (fun x x' hx hx' => kept_trans hx hx')
    (fun x j b o hj hx hcx => ?_))
  rw [timF_at T va vb vc vd l j hj]
  exact timeOf_any b o T[j].1 va vb vc vd l T[j].2 d x hcx (RdI_kept hd (kept_trans q hx)) (hcr j hj) hf hv (hn _ (List.getElem_mem hj)) (VecTab_kept ht (kept_trans q hx))

def EVs (w : World) : Prop := Ers w ∧ VecTab w

theorem EVs_kept {W w1 : World} (h : EVs W) (hb : Below W.heap.size W w1) : EVs w1 := ⟨Ers_kept h.1 hb, VecTab_kept h.2 hb⟩

set_option maxRecDepth 100000 in
set_option maxHeartbeats 4000000 in
theorem implFC_any (c : Value) (T ks : List (Cr × Value)) (va vb vc vd : Int) (l : Lf) (d : Value) (w : World) (h : RdK w c T) (hd : RdI w d l.af) (hcap : ∃ A cp, c = .slice A T.length cp ∧ T.length ≤ cp) (hm : T.map (·.1) = ks.map (·.1)) (hn : ∀ p ∈ ks, p.1.nm.size ≤ 1000000) (hl : l.nm.size ≤ 1000000) (he : EVs w) :
    Calls Tryz.prog 33 #[.agg #[c], .agg #[.int .i64 va, .int .i64 vb, .int .i64 vc, .int .i64 vd], .agg #[.string l.nm, .int .i64 l.wt, .int .i64 l.fx, .int .i64 l.fy, .int .i64 l.tx, .int .i64 l.ty, .int .i64 l.h, .int .i64 l.dl, d]] w fun e w' => e = .returned (.tuple #[.int .i64 (fastL ks va vb vc vd l).1, .int .i64 (fastL ks va vb vc vd l).2.1, .int .i64 (fastL ks va vb vc vd l).2.2]) ∧ Below w.heap.size w w' := by
  rw [← fastL_map hm]
  have KS : BoxR (((w.alloc (.cells #[c] 63)).alloc (.cells #[.int .i64 va, .int .i64 vb, .int .i64 vc, .int .i64 vd] 41)).alloc (.cells #[.string l.nm, .int .i64 l.wt, .int .i64 l.fx, .int .i64 l.fy, .int .i64 l.tx, .int .i64 l.ty, .int .i64 l.h, .int .i64 l.dl, d] 44)) w.heap.size [c] := BoxR_up (BoxR_up (BoxR_new' rfl))
  have KV : BoxR (((w.alloc (.cells #[c] 63)).alloc (.cells #[.int .i64 va, .int .i64 vb, .int .i64 vc, .int .i64 vd] 41)).alloc (.cells #[.string l.nm, .int .i64 l.wt, .int .i64 l.fx, .int .i64 l.fy, .int .i64 l.tx, .int .i64 l.ty, .int .i64 l.h, .int .i64 l.dl, d] 44)) (w.heap.size + 1) [.int .i64 va, .int .i64 vb, .int .i64 vc, .int .i64 vd] := BoxR_up (BoxR_new' (by simp))
  have KL : BoxR (((w.alloc (.cells #[c] 63)).alloc (.cells #[.int .i64 va, .int .i64 vb, .int .i64 vc, .int .i64 vd] 41)).alloc (.cells #[.string l.nm, .int .i64 l.wt, .int .i64 l.fx, .int .i64 l.fy, .int .i64 l.tx, .int .i64 l.ty, .int .i64 l.h, .int .i64 l.dl, d] 44)) (w.heap.size + 2) [.string l.nm, .int .i64 l.wt, .int .i64 l.fx, .int .i64 l.fy, .int .i64 l.tx, .int .i64 l.ty, .int .i64 l.h, .int .i64 l.dl, d] := BoxR_new' (by simp)
  have hKW : Below w.heap.size w (((w.alloc (.cells #[c] 63)).alloc (.cells #[.int .i64 va, .int .i64 vb, .int .i64 vc, .int .i64 vd] 41)).alloc (.cells #[.string l.nm, .int .i64 l.wt, .int .i64 l.fx, .int .i64 l.fy, .int .i64 l.tx, .int .i64 l.ty, .int .i64 l.h, .int .i64 l.dl, d] 44)) := by go_grown
  have H0 := fun z (q : Below (((w.alloc (.cells #[c] 63)).alloc (.cells #[.int .i64 va, .int .i64 vb, .int .i64 vc, .int .i64 vd] 41)).alloc (.cells #[.string l.nm, .int .i64 l.wt, .int .i64 l.fx, .int .i64 l.fy, .int .i64 l.tx, .int .i64 l.ty, .int .i64 l.h, .int .i64 l.dl, d] 44)).heap.size (((w.alloc (.cells #[c] 63)).alloc (.cells #[.int .i64 va, .int .i64 vb, .int .i64 vc, .int .i64 vd] 41)).alloc (.cells #[.string l.nm, .int .i64 l.wt, .int .i64 l.fx, .int .i64 l.fy, .int .i64 l.tx, .int .i64 l.ty, .int .i64 l.h, .int .i64 l.dl, d] 44)) z) => implVS_any c T ks z (RdK_kept h (kept_trans hKW q)) hcap hm hn (Ers_kept he.1 (kept_trans hKW q))
  have HV := fun z => implVSp_any va vb vc vd z
  have H1 := fun z (q : Below (((w.alloc (.cells #[c] 63)).alloc (.cells #[.int .i64 va, .int .i64 vb, .int .i64 vc, .int .i64 vd] 41)).alloc (.cells #[.string l.nm, .int .i64 l.wt, .int .i64 l.fx, .int .i64 l.fy, .int .i64 l.tx, .int .i64 l.ty, .int .i64 l.h, .int .i64 l.dl, d] 44)).heap.size (((w.alloc (.cells #[c] 63)).alloc (.cells #[.int .i64 va, .int .i64 vb, .int .i64 vc, .int .i64 vd] 41)).alloc (.cells #[.string l.nm, .int .i64 l.wt, .int .i64 l.fx, .int .i64 l.fy, .int .i64 l.tx, .int .i64 l.ty, .int .i64 l.h, .int .i64 l.dl, d] 44)) z) => implPlain_any l d z (RdI_kept hd (kept_trans hKW q)) hl
  rw [← siteB_map hm] at H0
  have HBO := fun hv hb hf pS pF z (q : Below w.heap.size w z) h1 h2 => bestTime_any c T va vb vc vd l d w h hd hv hb hf (names_map hm hn) he.2 pS pF z q h1 h2
  have RF := Lib.hid (fun z (q : Below (((w.alloc (.cells #[c] 63)).alloc (.cells #[.int .i64 va, .int .i64 vb, .int .i64 vc, .int .i64 vd] 41)).alloc (.cells #[.string l.nm, .int .i64 l.wt, .int .i64 l.fx, .int .i64 l.fy, .int .i64 l.tx, .int .i64 l.ty, .int .i64 l.h, .int .i64 l.dl, d] 44)).heap.size (((w.alloc (.cells #[c] 63)).alloc (.cells #[.int .i64 va, .int .i64 vb, .int .i64 vc, .int .i64 vd] 41)).alloc (.cells #[.string l.nm, .int .i64 l.wt, .int .i64 l.fx, .int .i64 l.fy, .int .i64 l.tx, .int .i64 l.ty, .int .i64 l.h, .int .i64 l.dl, d] 44)) z) => And.intro (BoxR_kept KS q) (And.intro (BoxR_kept KV q) (BoxR_kept KL q).2))
  have HW0 := Lib.hid hKW
  unfold fastL
  obtain ⟨A, cp, rfl, _⟩ := hcap
  have HNO := Lib.hid (fun fn first cap z => implNumbersOf_any (.slice A T.length cp) fn first cap ⟨_, _, _, rfl⟩ z)
  have hmf : ∀ (fn : Fn) (first cap : Array Value) (w : World), (Instr.makeFunc fn first cap).run Tryz.prog w = .ok (.func fn first cap) w := fun _ _ _ _ => rfl
  obtain ⟨A2, cp2, rfl, _, _⟩ := RdI_slice hd
  clear h hm hn he KS KV KL hKW hd
  cases p1 : siteB T <;> rw [p1] at H0
  · simp only [Bool.false_and, Bool.and_false, Bool.false_eq_true, if_false]
    have H0 := Lib.hid H0
    clear H1 HBO HV
    obtain ⟨ls, i1, i2, i3, i4, i5, i6, i7, us⟩ := l
    dsimp only at *
    go_enter Tryz.func33, Tryz.ntmps33
    go_wp2_with fail
    refine (H0.out _ (Below.refl _ _)).mono ?_
    rintro e w1 ⟨rfl, k1⟩
    go_wp2
    go_ret3
    exact ⟨rfl, kept_trans HW0.out k1⟩
  cases p0 : spB va vb vc vd <;> rw [p0] at HV
  · simp only [Bool.false_and, Bool.false_eq_true, if_false]
    have H0 := Lib.hid H0
    have HV := Lib.hid HV
    clear H1 HBO
    obtain ⟨ls, i1, i2, i3, i4, i5, i6, i7, us⟩ := l
    dsimp only at *
    go_enter Tryz.func33, Tryz.ntmps33
    go_wp2_with fail
    refine (H0.out _ (Below.refl _ _)).mono ?_
    rintro e w1 ⟨rfl, k1⟩
    have y0 : w1.cell? ⟨w.heap.size + 1, 0, none⟩ = some (.int .i64 va) := (RF.out _ k1).2.1.2 0 _ rfl
    have y1 : w1.cell? ⟨w.heap.size + 1, 1, none⟩ = some (.int .i64 vb) := (RF.out _ k1).2.1.2 1 _ rfl
    have y2 : w1.cell? ⟨w.heap.size + 1, 2, none⟩ = some (.int .i64 vc) := (RF.out _ k1).2.1.2 2 _ rfl
    have y3 : w1.cell? ⟨w.heap.size + 1, 3, none⟩ = some (.int .i64 vd) := (RF.out _ k1).2.1.2 3 _ rfl
    go_wp2_with fail
    refine (HV.out _).mono ?_
    rintro e w2 ⟨rfl, hb2⟩
    have k2 := kept_trans (a := (((w.alloc (.cells #[.slice A T.length cp] 63)).alloc (.cells #[.int .i64 va, .int .i64 vb, .int .i64 vc, .int .i64 vd] 41)).alloc (.cells #[.string ls, .int .i64 i1, .int .i64 i2, .int .i64 i3, .int .i64 i4, .int .i64 i5, .int .i64 i6, .int .i64 i7, .slice A2 us.length cp2] 44))) k1 hb2
    go_wp2
    go_ret3
    exact ⟨rfl, kept_trans HW0.out k2⟩
  cases p2 : fldB l <;> rw [p2] at H1
  · simp only [Bool.true_and, Bool.false_eq_true, if_false]
    have H0 := Lib.hid H0
    have HV := Lib.hid HV
    have H1 := Lib.hid H1
    clear HBO
    obtain ⟨ls, i1, i2, i3, i4, i5, i6, i7, us⟩ := l
    dsimp only at *
    go_enter Tryz.func33, Tryz.ntmps33
    go_wp2_with fail
    refine (H0.out _ (Below.refl _ _)).mono ?_
    rintro e w1 ⟨rfl, k1⟩
    have y0 : w1.cell? ⟨w.heap.size + 1, 0, none⟩ = some (.int .i64 va) := (RF.out _ k1).2.1.2 0 _ rfl
    have y1 : w1.cell? ⟨w.heap.size + 1, 1, none⟩ = some (.int .i64 vb) := (RF.out _ k1).2.1.2 1 _ rfl
    have y2 : w1.cell? ⟨w.heap.size + 1, 2, none⟩ = some (.int .i64 vc) := (RF.out _ k1).2.1.2 2 _ rfl
    have y3 : w1.cell? ⟨w.heap.size + 1, 3, none⟩ = some (.int .i64 vd) := (RF.out _ k1).2.1.2 3 _ rfl
    go_wp2_with fail
    refine (HV.out _).mono ?_
    rintro e w2 ⟨rfl, hb2⟩
    have k2 := kept_trans (a := (((w.alloc (.cells #[.slice A T.length cp] 63)).alloc (.cells #[.int .i64 va, .int .i64 vb, .int .i64 vc, .int .i64 vd] 41)).alloc (.cells #[.string ls, .int .i64 i1, .int .i64 i2, .int .i64 i3, .int .i64 i4, .int .i64 i5, .int .i64 i6, .int .i64 i7, .slice A2 us.length cp2] 44))) k1 hb2
    clear y0 y1 y2 y3
    have l0 : w2.cell? ⟨w.heap.size + 2, 0, none⟩ = some (.string ls) := (RF.out _ k2).2.2 0 _ rfl
    have l1 : w2.cell? ⟨w.heap.size + 2, 1, none⟩ = some (.int .i64 i1) := (RF.out _ k2).2.2 1 _ rfl
    have l2 : w2.cell? ⟨w.heap.size + 2, 2, none⟩ = some (.int .i64 i2) := (RF.out _ k2).2.2 2 _ rfl
    have l3 : w2.cell? ⟨w.heap.size + 2, 3, none⟩ = some (.int .i64 i3) := (RF.out _ k2).2.2 3 _ rfl
    have l4 : w2.cell? ⟨w.heap.size + 2, 4, none⟩ = some (.int .i64 i4) := (RF.out _ k2).2.2 4 _ rfl
    have l5 : w2.cell? ⟨w.heap.size + 2, 5, none⟩ = some (.int .i64 i5) := (RF.out _ k2).2.2 5 _ rfl
    have l6 : w2.cell? ⟨w.heap.size + 2, 6, none⟩ = some (.int .i64 i6) := (RF.out _ k2).2.2 6 _ rfl
    have l7 : w2.cell? ⟨w.heap.size + 2, 7, none⟩ = some (.int .i64 i7) := (RF.out _ k2).2.2 7 _ rfl
    have l8 : w2.cell? ⟨w.heap.size + 2, 8, none⟩ = some (.slice A2 us.length cp2) := (RF.out _ k2).2.2 8 _ rfl
    go_wp2_with fail
    refine (H1.out _ k2).mono ?_
    rintro e w3 ⟨rfl, hb3⟩
    have k3 := kept_trans (a := (((w.alloc (.cells #[.slice A T.length cp] 63)).alloc (.cells #[.int .i64 va, .int .i64 vb, .int .i64 vc, .int .i64 vd] 41)).alloc (.cells #[.string ls, .int .i64 i1, .int .i64 i2, .int .i64 i3, .int .i64 i4, .int .i64 i5, .int .i64 i6, .int .i64 i7, .slice A2 us.length cp2] 44))) k2 hb3
    go_wp2
    go_ret3
    exact ⟨rfl, kept_trans HW0.out k3⟩
  simp only [Bool.true_and, if_true]
  have hBO := HBO p0 p1 p2
  rw [hv_bstL]
  generalize bstP (bestP ltB (numsU (timF (T.map (·.1)) va vb vc vd l) T.length)) = bp at *
  obtain ⟨bi, bv, bo⟩ := bp
  dsimp only at *
  have HBX := Lib.hid hBO
  have H0 := Lib.hid H0
  have HV := Lib.hid HV
  have H1 := Lib.hid H1
  clear HBO hBO p0 p1 p2
  obtain ⟨ls, i1, i2, i3, i4, i5, i6, i7, us⟩ := l
  dsimp only at *
  cases bo
  all_goals
    go_enter Tryz.func33, Tryz.ntmps33
    go_wp2_with fail
    refine (H0.out _ (Below.refl _ _)).mono ?_
    rintro e w1 ⟨rfl, k1⟩
    have y0 : w1.cell? ⟨w.heap.size + 1, 0, none⟩ = some (.int .i64 va) := (RF.out _ k1).2.1.2 0 _ rfl
    have y1 : w1.cell? ⟨w.heap.size + 1, 1, none⟩ = some (.int .i64 vb) := (RF.out _ k1).2.1.2 1 _ rfl
    have y2 : w1.cell? ⟨w.heap.size + 1, 2, none⟩ = some (.int .i64 vc) := (RF.out _ k1).2.1.2 2 _ rfl
    have y3 : w1.cell? ⟨w.heap.size + 1, 3, none⟩ = some (.int .i64 vd) := (RF.out _ k1).2.1.2 3 _ rfl
    go_wp2_with fail
    refine (HV.out _).mono ?_
    rintro e w2 ⟨rfl, hb2⟩
    have k2 := kept_trans (a := (((w.alloc (.cells #[.slice A T.length cp] 63)).alloc (.cells #[.int .i64 va, .int .i64 vb, .int .i64 vc, .int .i64 vd] 41)).alloc (.cells #[.string ls, .int .i64 i1, .int .i64 i2, .int .i64 i3, .int .i64 i4, .int .i64 i5, .int .i64 i6, .int .i64 i7, .slice A2 us.length cp2] 44))) k1 hb2
    clear y0 y1 y2 y3
    have l0 : w2.cell? ⟨w.heap.size + 2, 0, none⟩ = some (.string ls) := (RF.out _ k2).2.2 0 _ rfl
    have l1 : w2.cell? ⟨w.heap.size + 2, 1, none⟩ = some (.int .i64 i1) := (RF.out _ k2).2.2 1 _ rfl
    have l2 : w2.cell? ⟨w.heap.size + 2, 2, none⟩ = some (.int .i64 i2) := (RF.out _ k2).2.2 2 _ rfl
    have l3 : w2.cell? ⟨w.heap.size + 2, 3, none⟩ = some (.int .i64 i3) := (RF.out _ k2).2.2 3 _ rfl
    have l4 : w2.cell? ⟨w.heap.size + 2, 4, none⟩ = some (.int .i64 i4) := (RF.out _ k2).2.2 4 _ rfl
    have l5 : w2.cell? ⟨w.heap.size + 2, 5, none⟩ = some (.int .i64 i5) := (RF.out _ k2).2.2 5 _ rfl
    have l6 : w2.cell? ⟨w.heap.size + 2, 6, none⟩ = some (.int .i64 i6) := (RF.out _ k2).2.2 6 _ rfl
    have l7 : w2.cell? ⟨w.heap.size + 2, 7, none⟩ = some (.int .i64 i7) := (RF.out _ k2).2.2 7 _ rfl
    have l8 : w2.cell? ⟨w.heap.size + 2, 8, none⟩ = some (.slice A2 us.length cp2) := (RF.out _ k2).2.2 8 _ rfl
    go_wp2_with fail
    refine (H1.out _ k2).mono ?_
    rintro e w3 ⟨rfl, hb3⟩
    have k3 := kept_trans (a := (((w.alloc (.cells #[.slice A T.length cp] 63)).alloc (.cells #[.int .i64 va, .int .i64 vb, .int .i64 vc, .int .i64 vd] 41)).alloc (.cells #[.string ls, .int .i64 i1, .int .i64 i2, .int .i64 i3, .int .i64 i4, .int .i64 i5, .int .i64 i6, .int .i64 i7, .slice A2 us.length cp2] 44))) k2 hb3
    clear l0 l1 l2 l3 l4 l5 l6 l7 l8
    have y0 : w3.cell? ⟨w.heap.size + 1, 0, none⟩ = some (.int .i64 va) := (RF.out _ k3).2.1.2 0 _ rfl
    have y1 : w3.cell? ⟨w.heap.size + 1, 1, none⟩ = some (.int .i64 vb) := (RF.out _ k3).2.1.2 1 _ rfl
    have y2 : w3.cell? ⟨w.heap.size + 1, 2, none⟩ = some (.int .i64 vc) := (RF.out _ k3).2.1.2 2 _ rfl
    have y3 : w3.cell? ⟨w.heap.size + 1, 3, none⟩ = some (.int .i64 vd) := (RF.out _ k3).2.1.2 3 _ rfl
    have l0 : w3.cell? ⟨w.heap.size + 2, 0, none⟩ = some (.string ls) := (RF.out _ k3).2.2 0 _ rfl
    have l1 : w3.cell? ⟨w.heap.size + 2, 1, none⟩ = some (.int .i64 i1) := (RF.out _ k3).2.2 1 _ rfl
    have l2 : w3.cell? ⟨w.heap.size + 2, 2, none⟩ = some (.int .i64 i2) := (RF.out _ k3).2.2 2 _ rfl
    have l3 : w3.cell? ⟨w.heap.size + 2, 3, none⟩ = some (.int .i64 i3) := (RF.out _ k3).2.2 3 _ rfl
    have l4 : w3.cell? ⟨w.heap.size + 2, 4, none⟩ = some (.int .i64 i4) := (RF.out _ k3).2.2 4 _ rfl
    have l5 : w3.cell? ⟨w.heap.size + 2, 5, none⟩ = some (.int .i64 i5) := (RF.out _ k3).2.2 5 _ rfl
    have l6 : w3.cell? ⟨w.heap.size + 2, 6, none⟩ = some (.int .i64 i6) := (RF.out _ k3).2.2 6 _ rfl
    have l7 : w3.cell? ⟨w.heap.size + 2, 7, none⟩ = some (.int .i64 i7) := (RF.out _ k3).2.2 7 _ rfl
    have l8 : w3.cell? ⟨w.heap.size + 2, 8, none⟩ = some (.slice A2 us.length cp2) := (RF.out _ k3).2.2 8 _ rfl
    have s0 := (RF.out _ k3).1.2 0 _ rfl
    go_wp2_with fail
    refine (HNO.out _ _ _ _).mono ?_
    rintro e w4 ⟨pS, pF, rfl, hS, hF, hb4⟩
    have k4 := kept_trans (a := (((w.alloc (.cells #[.slice A T.length cp] 63)).alloc (.cells #[.int .i64 va, .int .i64 vb, .int .i64 vc, .int .i64 vd] 41)).alloc (.cells #[.string ls, .int .i64 i1, .int .i64 i2, .int .i64 i3, .int .i64 i4, .int .i64 i5, .int .i64 i6, .int .i64 i7, .slice A2 us.length cp2] 44))) k3 hb4
    go_wp2_with fail
    refine (HBX.out pS pF _ (kept_trans HW0.out k4) hS hF).mono ?_
    rintro e w5 ⟨rfl, hb5⟩
    have k5 := kept_trans (a := (((w.alloc (.cells #[.slice A T.length cp] 63)).alloc (.cells #[.int .i64 va, .int .i64 vb, .int .i64 vc, .int .i64 vd] 41)).alloc (.cells #[.string ls, .int .i64 i1, .int .i64 i2, .int .i64 i3, .int .i64 i4, .int .i64 i5, .int .i64 i6, .int .i64 i7, .slice A2 us.length cp2] 44))) k4 hb5
    go_wp2
    go_ret3
    exact ⟨by simp, kept_trans HW0.out k5⟩

end Go.Proofs.YtnflaeimiegepacGreatDoor
