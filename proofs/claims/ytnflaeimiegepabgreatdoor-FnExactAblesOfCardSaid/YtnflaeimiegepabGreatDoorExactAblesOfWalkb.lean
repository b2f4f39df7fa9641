import Derived.Test.YtnflaeimiegepabGreatDoorRows
import Derived.WalkKit
import Derived.ProofKit
import Derived.OpenShut
import Derived.Lib.Hide
import Derived.Handy
import Derived.BigQuiet
import Derived.Carry
import Derived.Deep.DeepCutAuto
import Derived.Deep.QuietTactic
import Derived.Deep.RegionHeld3
import Derived.Deep.SlicePairs
import Derived.Laws.RangeAny
import Derived.Lib.ItoaLen
import Derived.Lib.ItoaNum
import Derived.Lib.LaidU8
import Derived.Lib.SmallJoins
import Derived.LoopIn
import Derived.LoopNIn
import Derived.Maps.AppendAt
import Derived.Maps.OwnIn
import Derived.OwnWalk
import Derived.OwnWalkIn
import Derived.RangeFuncBound
import Derived.RangeFuncBox
import Derived.RangeFuncCalls
import Derived.RangeFuncFrom
import Derived.RangeFuncLeaves
import Derived.RangeFuncNested
import Derived.Shelf.Abstract
import Derived.Shelf.RegionOpen
import Derived.TacticsInMore
import Derived.Test.YtnflaeimiegepabGreatDoorCards
import Derived.Test.YtnflaeimiegepabGreatDoorTie
import Derived.Lib.SmallJoins
import Derived.ChangeMaps5
import Derived.Deep.DeepHandedRow
import Derived.Deep.DeepWitnessRowRef
import Derived.Lib.LaidTab
import Derived.SevenTiedAt
import Derived.Test.YtnflaeimiegepabGreatDoorExactAblesOfWalka
namespace Go.Proofs.YtnflaeimiegepabGreatDoor
open Go.ChangeShapes Go.WideShapes Go.ChangeAt Go.RowKit
set_option linter.unusedVariables false
set_option linter.unusedSimpArgs false


def copyQ (w : World) (lo hi : Nat) (k : Cr) (c : Value) : Prop := CopyC w lo hi c k.ch

theorem copyQ_ok : ChartQ copyQ where
  set := fun b o u h hb => CopyC_set h hb
  kept := fun h hb => CopyC_kept h hb
  wide := fun h hl hh => CopyC_lo h hl hh
  form := fun h => by obtain ⟨_, g, e, _⟩ := h; exact ⟨_, _, _, e⟩

def rowQ (w : World) (lo hi : Nat) (k : Cr) (c : Value) : Prop := RowF 130 2 w lo hi c k.ch.length (flatP k.ch)

theorem rowQ_ok : ChartQ rowQ where
  set := fun b o u h hb => RowF_set h hb
  kept := fun h hb => RowF_kept h hb
  wide := fun h hl hh => RowF_lo h hl hh
  form := fun h => by obtain ⟨A, c, e, _⟩ := RdP_slice (RowF_rd h); exact ⟨_, _, _, e⟩

def blkLt (c c' : Value) : Prop := blkOf c < blkOf c'

theorem copyQ_blk {w : World} {lo hi : Nat} {k : Cr} {c : Value} (h : copyQ w lo hi k c) : lo ≤ blkOf c ∧ blkOf c < hi := by
  obtain ⟨_, g, rfl, hr⟩ := h
  exact hr.2 g rfl

theorem SiteQ_kept {Q : World → Nat → Nat → Cr → Value → Prop} {ρ : Value → Value → Prop} (q : ChartQ Q) {W w1 : World} {lo hi : Nat} {v : Value} {ks : List Cr} (h : SiteQ Q ρ W lo hi v ks) (hb : Below W.heap.size W w1) : SiteQ Q ρ w1 lo hi v ks := by
  obtain ⟨hn, g, T, S, hv, hg, hT, hS, hr, hq, hf, hp⟩ := h
  exact ⟨hn, g, T, S, hv, hg, hT, hS, RowF_kept hr hb, fun p hp => q.kept (hq p hp) hb, fun p hp => RowF_kept (hf p hp) hb, hp⟩

theorem SiteQ_set {Q : World → Nat → Nat → Cr → Value → Prop} {ρ : Value → Value → Prop} (q : ChartQ Q) {w : World} {lo hi : Nat} {v : Value} {ks : List Cr} (b o : Nat) (u : Value) (h : SiteQ Q ρ w lo hi v ks) (hb : b < lo) : SiteQ Q ρ (w.setCell ⟨b, o, none⟩ u) lo hi v ks := by
  obtain ⟨hn, g, T, S, hv, hg, hT, hS, hr, hq, hf, hp⟩ := h
  exact ⟨hn, g, T, S, hv, hg, hT, hS, RowF_set hr hb, fun p hp => q.set b o u (hq p hp) (by omega), fun p hp => RowF_set (hf p hp) (by omega), hp⟩

theorem SiteQ_wide {Q : World → Nat → Nat → Cr → Value → Prop} {ρ : Value → Value → Prop} (q : ChartQ Q) {w : World} {lo lo' hi hi' : Nat} {v : Value} {ks : List Cr} (h : SiteQ Q ρ w lo hi v ks) (hl : lo' ≤ lo) (hh : hi ≤ hi') : SiteQ Q ρ w lo' hi' v ks := by
  obtain ⟨hn, g, T, S, hv, hg, hT, hS, hr, hq, hf, hp⟩ := h
  exact ⟨hn, g, T, S, hv, by omega, hT, hS, RowF_lo hr hl hh, fun p hp => q.wide (hq p hp) (Nat.le_refl _) hh, fun p hp => RowF_lo (hf p hp) (Nat.le_refl _) hh, hp⟩

theorem flatK_take (T S : List (Cr × Value)) : (flatK (T ++ S)).take (T.length * 7) = flatK T := by
  rw [show flatK (T ++ S) = flatK T ++ flatK S by simp [flatK], ← flatK_len, List.take_left]

theorem SiteQ_rd {Q : World → Nat → Nat → Cr → Value → Prop} {ρ : Value → Value → Prop} (qrd : ∀ (w : World) (lo hi : Nat) (k : Cr) (c : Value), Q w lo hi k c → RdP w c k.ch) {w : World} {lo hi : Nat} {v : Value} {ks : List Cr} (h : SiteQ Q ρ w lo hi v ks) : ∃ T : List (Cr × Value), RdK w v T ∧ T.map (·.1) = ks := by
  obtain ⟨hn, g, T, S, rfl, hg, hT, hS, hr, hq, hf, hp⟩ := h
  have hTl : T.length = ks.length := by rw [← hT]; simp
  refine ⟨T, ⟨?_, fun p hp => qrd _ _ _ _ _ (hq p hp)⟩, hT⟩
  have := RowF_short hr (n := T.length) (by simp)
  rw [flatK_take, hTl] at this
  rw [hTl]
  exact RowF_rd this

/-- A site's cranes, copied by the law with room behind them. -/
def SiteC (w : World) (lo hi : Nat) (v : Value) (ks : List Cr) : Prop := SiteQ copyQ blkLt w lo hi v ks

theorem SiteC_rd {w : World} {lo hi : Nat} {v : Value} {ks : List Cr} (h : SiteC w lo hi v ks) : ∃ T : List (Cr × Value), RdK w v T ∧ T.map (·.1) = ks := SiteQ_rd (fun _ _ _ _ _ h => CopyC_rd h) h

theorem SiteC_kept {W w1 : World} {lo hi : Nat} {v : Value} {ks : List Cr} (h : SiteC W lo hi v ks) (hb : Below W.heap.size W w1) : SiteC w1 lo hi v ks := SiteQ_kept copyQ_ok h hb

theorem toKs_false (v : Value) (ks : List (Cr × Value)) (w : World) (h : RdK w v ks) (hn : ks.length ≤ 1000000) (hch : ∀ p ∈ ks, p.1.ch.length ≤ 1000000) :
    Calls Tryz.prog 35 #[v, .bool false] w fun e w' => ∃ v', e = .returned v' ∧ SiteC w' w.heap.size w'.heap.size v' (ks.map (·.1)) ∧ Below w.heap.size w w' :=
  toKs_gen false copyQ blkLt copyQ_ok (fun w w' lo hi lo' hi' k k' c c' h h' hl => by have := copyQ_blk h; have := copyQ_blk h'; unfold blkLt; omega)
    (fun k c u q l => toK_false k c u q l) v ks w h hn (Or.inl rfl) hch

theorem toKs_true (v : Value) (ks : List (Cr × Value)) (w : World) (h : RdK w v ks) (hn : ks.length ≤ 1000000) (hch : ∀ p ∈ ks, p.1.ch.length ≤ 1000000) :
    Calls Tryz.prog 35 #[v, .bool true] w fun e w' => ∃ v', e = .returned v' ∧ (v' = .slice none 0 0 ∧ ks = [] ∨ SiteQ rowQ (fun _ _ => True) w' w.heap.size w'.heap.size v' (ks.map (·.1))) ∧ Below w.heap.size w w' := by
  by_cases hz : ks = []
  · subst hz
    obtain ⟨A, c, rfl, _, _⟩ := RdK_at h
    clear h
    go_enter Tryz.func35, Tryz.ntmps35
    go_wp2
    go_ret
    exact ⟨_, rfl, Or.inl (by simp), Below.refl _ _⟩
  · exact (toKs_gen true rowQ (fun _ _ => True) rowQ_ok (fun _ _ _ _ _ _ _ _ _ _ _ _ _ => trivial) (fun k c u q l => toK_true k c u q l) v ks w h hn (Or.inr hz) hch).mono fun e w' ⟨v', he, hs, hb⟩ => ⟨v', he, Or.inr hs, hb⟩

set_option maxHeartbeats 1000000 in
theorem toS_false (c : Value) (ks : List (Cr × Value)) (w : World) (h : RdK w c ks) (hn : ks.length ≤ 1000000) (hch : ∀ p ∈ ks, p.1.ch.length ≤ 1000000) :
    Calls Tryz.prog 9 #[.agg #[c], .bool false] w fun e w' => ∃ c', e = .returned (.agg #[c']) ∧ SiteC w' w.heap.size w'.heap.size c' (ks.map (·.1)) ∧ Below w.heap.size w w' := by
  obtain ⟨A0, cp0, rfl, _, _⟩ := RdK_at h
  have H := Lib.hid h; clear h
  have HQ := Lib.hid (fun u q => toKs_false (.slice A0 ks.length cp0) ks u q hn hch)
  generalize ks.map (·.1) = ms at *
  go_enter Tryz.func9, Tryz.ntmps9
  go_wp2_with fail
  refine (HQ.out _ (RdK_kept H.out (by go_grown))).mono ?_
  rintro e w1 ⟨c', rfl, hc, hb1⟩
  obtain ⟨g, T, S, hv, hrest⟩ := hc.2
  have hc := hc
  rw [hv] at hc ⊢
  clear hv hrest
  have HC := Lib.hid hc; clear hc
  refine kept_at hb1 (w.heap.size + 1) (by go_size) fun c1_1 z1_1 s1_1 => ?_
  refine kept_at hb1 (w.heap.size + 2) (by go_size) fun c1_2 z1_2 s1_2 => ?_
  have b1 := kept_trans (a := w) (by go_grown) hb1
  go_wp2
  (try simp only [Exit.inBlock, Exit.then])
  refine bodyPost_ret (v := .agg #[.slice (some ⟨g, 0, none⟩) ms.length (T ++ S).length]) ?_ rfl ⟨_, rfl, ?_, ?_⟩
  · rw [results_cell1 rfl]
    go_simp
  · have h := HC.out
    simp only [World.size_alloc] at h
    refine SiteQ_wide copyQ_ok (lo := w.heap.size + 1 + 1 + 1) (hi := w1.heap.size) (SiteQ_set copyQ_ok _ _ _ (SiteQ_set copyQ_ok _ _ _ h (by omega)) (by omega)) (by omega) (by simp)
  · go_grown

set_option maxHeartbeats 1000000 in
theorem toS_true (c : Value) (ks : List (Cr × Value)) (w : World) (h : RdK w c ks) (hn : ks.length ≤ 1000000) (hch : ∀ p ∈ ks, p.1.ch.length ≤ 1000000) :
    Calls Tryz.prog 9 #[.agg #[c], .bool true] w fun e w' => ∃ c' T, e = .returned (.agg #[c']) ∧ RdK w' c' T ∧ (∃ A cp, c' = .slice A T.length cp ∧ T.length ≤ cp) ∧ T.map (·.1) = ks.map (·.1) ∧ Below w.heap.size w w' := by
  obtain ⟨A0, cp0, rfl, _, _⟩ := RdK_at h
  have H := Lib.hid h; clear h
  have HQ := Lib.hid (fun u q => toKs_true (.slice A0 ks.length cp0) ks u q hn hch)
  go_enter Tryz.func9, Tryz.ntmps9
  go_wp2_with fail
  refine (HQ.out _ (RdK_kept H.out (by go_grown))).mono ?_
  rintro e w1 ⟨c', rfl, hc, hb1⟩
  have hf : ∃ A n cp, c' = .slice A n cp := by
    rcases hc with ⟨rfl, _⟩ | hc
    · exact ⟨_, _, _, rfl⟩
    · obtain ⟨g, T, S, hv, _⟩ := hc.2
      exact ⟨_, _, _, hv⟩
  obtain ⟨A1, n1, cp1, rfl⟩ := hf
  have HC := Lib.hid hc; clear hc
  refine kept_at hb1 (w.heap.size + 1) (by go_size) fun c1_1 z1_1 s1_1 => ?_
  refine kept_at hb1 (w.heap.size + 2) (by go_size) fun c1_2 z1_2 s1_2 => ?_
  have b1 := kept_trans (a := w) (by go_grown) hb1
  go_wp2
  (try simp only [Exit.inBlock, Exit.then])
  rcases HC.out with ⟨h1, h2⟩ | h
  · refine bodyPost_ret (v := .agg #[.slice A1 n1 cp1]) ?_ rfl ⟨_, [], rfl, ?_, ⟨none, 0, h1, Nat.le_refl _⟩, by rw [h2], ?_⟩
    · rw [results_cell1 rfl]
      go_simp
    · rw [h1]
      exact ⟨⟨by simp, rfl, none, 0, rfl, fun i hi => by simp at hi⟩, fun p hp => by cases hp⟩
    · go_grown
  · simp only [World.size_alloc] at h
    have h2 := SiteQ_set rowQ_ok (w.heap.size + 1) 0 (.slice A1 n1 cp1) (SiteQ_set rowQ_ok (w.heap.size + 1 + 1) 0 (.slice A1 n1 cp1) h (by omega)) (by omega)
    have hcap : ∃ A cp, Value.slice A1 n1 cp1 = .slice A (ks.map (·.1)).length cp ∧ (ks.map (·.1)).length ≤ cp := by
      obtain ⟨_, g, T0, S0, hv, _, hT0, _⟩ := h2
      exact ⟨_, _, hv, by rw [← hT0]; simp⟩
    obtain ⟨T, hT, hm⟩ := SiteQ_rd (fun _ _ _ _ _ h => RowF_rd h) h2
    have hTl : T.length = (ks.map (·.1)).length := by rw [← hm]; simp
    rw [← hTl] at hcap
    refine bodyPost_ret (v := .agg #[.slice A1 n1 cp1]) ?_ rfl ⟨_, T, rfl, hT, hcap, hm, ?_⟩
    · rw [results_cell1 rfl]
      go_simp
    · go_grown

theorem eqK_same (k : Cr) (c1 c2 : Value) (w : World) (h1 : RdP w c1 k.ch) (h2 : RdP w c2 k.ch) :
    Calls Tryz.prog 99 #[.agg #[.string k.nm, .int .i64 k.x, .int .i64 k.y, .int .i64 k.h, .int .i64 k.j, .int .i64 k.b, c1], .agg #[.string k.nm, .int .i64 k.x, .int .i64 k.y, .int .i64 k.h, .int .i64 k.j, .int .i64 k.b, c2]] w fun e w' => e = .returned (.bool true) ∧ Below w.heap.size w w' := by
  obtain ⟨A1, cp1, rfl, _, _⟩ := RdP_slice h1
  obtain ⟨A2, cp2, rfl, _, _⟩ := RdP_slice h2
  have H1 := Lib.hid h1; clear h1
  have H2 := Lib.hid h2; clear h2
  obtain ⟨s, x, y, hh, j, b, zs⟩ := k
  dsimp only at *
  go_enter Tryz.func99, Tryz.ntmps99
  go_wp2_with fail
  refine (eqPoint_same _ _ _).mono ?_
  rintro e w1 ⟨rfl, b1⟩
  refine kept_at b1 (w.heap.size) (by go_size) fun c1_0 z1_0 s1_0 => ?_
  refine kept_at b1 (w.heap.size + 1) (by go_size) fun c1_1 z1_1 s1_1 => ?_
  replace b1 := kept_trans (a := w) (by go_grown) b1
  have l1 := kept_cell b1
  have zz1 := b1.size
  go_wp2_with fail
  refine (eqC_same _ _ zs _ (RdP_kept H1.out (by go_grown)) (RdP_kept H2.out (by go_grown))).mono ?_
  rintro e w2 ⟨rfl, hb2⟩
  have b2 := kept_trans (a := w) (by go_grown) hb2
  go_wp2
  go_ret
  exact ⟨rfl, b2⟩

set_option maxHeartbeats 1000000 in
theorem eqKs_same (v1 v2 : Value) (k1 k2 : List (Cr × Value)) (w : World) (h1 : RdK w v1 k1) (h2 : RdK w v2 k2) (hm : k1.map (·.1) = k2.map (·.1)) :
    Calls Tryz.prog 71 #[v1, v2] w fun e w' => e = .returned (.bool true) ∧ Below w.heap.size w w' := by
  obtain ⟨A1, cp1, rfl, hl1, r1⟩ := RdK_at h1
  obtain ⟨A2, cp2, rfl, hl2, r2⟩ := RdK_at h2
  clear h1 h2
  have hlen : k1.length = k2.length := by have := congrArg List.length hm; simpa using this
  have hel : ∀ i (h1 : i < k1.length) (h2 : i < k2.length), k1[i].1 = k2[i].1 := by
    intro i h1 h2
    have := congrArg (·[i]?) hm
    simpa [h1, h2] using this
  have R1 := Lib.hid r1; clear r1
  have R2 := Lib.hid r2; clear r2
  have HEL := Lib.hid hel; clear hel hm
  rw [← hlen]
  have HLEN := Lib.hid hlen
  clear hlen hl2
  go_enter Tryz.func71, Tryz.ntmps71
  go_wp2_with fail
  go_loopw [5] (fun i wr => ∃ j : Nat, j ≤ k1.length ∧ i = .int .i64 j ∧ Below w.heap.size w wr) (fun i _ => k1.length - (intOf i).toNat)
  case atStart => exact ⟨0, by omega, rfl, Below.refl _ _⟩
  case round =>
    obtain ⟨j, hj, rfl, hb⟩ := hrel
    by_cases hlt : j < k1.length
    · obtain ⟨b, off, rfl, hk⟩ := R1.out j hlt
      obtain ⟨b2, off2, rfl, hk2⟩ := R2.out j (by have := HLEN.out; omega)
      rw [← HEL.out j hlt (by have := HLEN.out; omega)] at hk2
      have hk := CrAt_kept hk hb
      have hk2 := CrAt_kept hk2 hb
      generalize k1[j].1 = k at *
      generalize k1[j].2 = cv at *
      generalize k2[j].2 = cv2 at *
      obtain ⟨hlb, ⟨c0, c1, c2, c3, c4, c5, c6⟩, hrc⟩ := hk
      obtain ⟨hlb2, ⟨d0, d1, d2, d3, d4, d5, d6⟩, hrd⟩ := hk2
      obtain ⟨A3, cp3, rfl, _, _⟩ := RdP_slice hrc
      obtain ⟨A4, cp4, rfl, _, _⟩ := RdP_slice hrd
      have HE := Lib.hid (fun (m : Nat) => eqK_same k _ _ (wr.drewN m) (RdP_kept hrc (kept_drewN (Below.refl _ _) m)) (RdP_kept hrd (kept_drewN (Below.refl _ _) m)))
      clear hrc hrd
      go_wp2_with fail
      go_cut [26] (fun s26 w' => s26 = .bool false ∧ Below w.heap.size w w')
      case first =>
        go_region_with ((go_at_call 99; refine (HE.out 1).mono ?_; rintro e w1 ⟨rfl, hb1⟩; have b1 := kept_trans (a := w) (kept_drewN hb 1) hb1))
        all_goals
          go_wp2_with fail
          go_meet
          case rel => exact ⟨rfl, b1⟩
      case rest =>
      obtain ⟨rfl, hbc⟩ := hcut
      go_wp2
      go_roundw
      case rel => exact ⟨j + 1, by omega, by go_num, hbc⟩
      case measure => simp [intOf]; omega
    · have : j = k1.length := by omega
      subst this
      go_wp2
      go_ret
      exact ⟨rfl, hb⟩

theorem RdK_tail {w : World} {lo hi g c N : Nat} {T S : List (Cr × Value)} (h : RowF 88 7 w lo hi (.slice (some ⟨g, 0, none⟩) N N) N (flatK (T ++ S))) (hc : ∀ p ∈ S, RdP w p.2 p.1.ch) (hl : S.length ≤ 9223372036854775807) :
    RdK w (.slice (some ⟨g, T.length * 7, none⟩) S.length c) S := by
  have hN : (flatK (T ++ S)).length = N * 7 := h.1.1
  rw [flatK_len, List.length_append] at hN
  refine ⟨⟨hl, flatK_len S, some ⟨g, T.length * 7, none⟩, c, rfl, fun i hi => ⟨g, T.length * 7, rfl, (h.1.lt g rfl).2, ?_⟩⟩, hc⟩
  rw [h.1.cellAt (T.length * 7 + i) (by omega), show flatK (T ++ S) = flatK T ++ flatK S by simp [flatK], List.getElem?_append_right (by rw [flatK_len]; omega), flatK_len]
  congr 1
  omega

theorem SiteC_open {w : World} {lo hi : Nat} {v : Value} {ks : List Cr} (h : SiteC w lo hi v ks) : ∃ (g : Nat) (T S : List (Cr × Value)), v = .slice (some ⟨g, 0, none⟩) ks.length (ks.length + roomL ks.length) ∧ ks.length ≤ 1000000 ∧ T.length = ks.length ∧ S.length = roomL ks.length ∧ g < w.heap.size ∧
    (∀ i (h1 : i < T.length) (h2 : i < ks.length), T[i].1 = ks[i] ∧ CopyC w (g + 1) hi T[i].2 ks[i].ch ∧ CrAt w g (i * 7) ks[i] T[i].2) ∧ S.map (·.1) = List.replicate (roomL ks.length) fillK ∧ (∀ c, RdK w (.slice (some ⟨g, ks.length * 7, none⟩) S.length c) S) := by
  obtain ⟨T', hR, hT'⟩ := SiteC_rd h
  obtain ⟨hn, g, T, S, rfl, hg, hT, hS, hr, hq, hf, hp⟩ := h
  have hTl : T.length = ks.length := by rw [← hT]; simp
  have hSl : S.length = roomL ks.length := by have := congrArg List.length hS; simpa using this
  have hlt : g < w.heap.size := (hr.1.lt g rfl).2
  have hsl : (T ++ S).length = ks.length + roomL ks.length := by simp [hTl, hSl]
  have hrm := roomL_le ks.length
  refine ⟨g, T, S, by rw [hsl], hn, hTl, hSl, hlt, fun i h1 h2 => ?_, hS, fun c => ?_⟩
  · have e : T[i].1 = ks[i] := by
      have := congrArg (·[i]?) hT
      simpa [h1, h2] using this
    have hc := hq T[i] (List.getElem_mem h1)
    have hc' : CopyC w (g + 1) hi T[i].2 ks[i].ch := by rw [← e]; exact hc
    refine ⟨e, hc', hlt, ?_, CopyC_rd hc'⟩
    have at_ : ∀ j, j < 7 → w.cell? ⟨g, i * 7 + j, none⟩ = (encK T[i])[j]? := by
      intro j hj
      rw [hr.1.cellAt (i * 7 + j) (by rw [hsl]; omega), flatK_at (T ++ S) i j (by rw [List.length_append]; omega) hj, List.getElem_append_left h1]
    rw [← e]
    exact ⟨at_ 0 (by omega), at_ 1 (by omega), at_ 2 (by omega), at_ 3 (by omega), at_ 4 (by omega), at_ 5 (by omega), at_ 6 (by omega)⟩
  · rw [← hTl]
    refine RdK_tail hr (fun p hp => ?_) (by omega)
    have e : p.1 = fillK := by
      have : p.1 ∈ S.map (·.1) := List.mem_map.2 ⟨p, hp, rfl⟩
      rw [hS] at this
      exact (List.mem_replicate.1 this).2
    rw [e]
    exact RowF_rd (hf p hp)

set_option maxHeartbeats 2000000 in
theorem intactKs_same (v1 v2 : Value) (ks : List Cr) (lo1 hi1 lo2 hi2 : Nat) (w : World) (h1 : SiteC w lo1 hi1 v1 ks) (h2 : SiteC w lo2 hi2 v2 ks) :
    Calls Tryz.prog 42 #[v1, v2] w fun e w' => e = .returned (.bool true) ∧ Below w.heap.size w w' := by
  have H1 := Lib.hid h1
  have H2 := Lib.hid h2
  obtain ⟨g1, T1, S1, rfl, hn, _, _, _, _, _, _⟩ := SiteC_open h1
  obtain ⟨g2, T2, S2, rfl, _, _, _, _, _, _, _⟩ := SiteC_open h2
  clear h1 h2
  have hr := roomL_le ks.length
  have HE := Lib.hid (fun (u : World) (q1 : SiteC u lo1 hi1 (.slice (some ⟨g1, 0, none⟩) ks.length (ks.length + roomL ks.length)) ks) (q2 : SiteC u lo2 hi2 (.slice (some ⟨g2, 0, none⟩) ks.length (ks.length + roomL ks.length)) ks) => (by
    obtain ⟨g1', T1, S1, e1, _, _, hS1, _, _, hm1, hR1⟩ := SiteC_open q1
    obtain ⟨g2', T2, S2, e2, _, _, hS2, _, _, hm2, hR2⟩ := SiteC_open q2
    cases e1
    cases e2
    have hA : ∀ (g : Nat) (S : List (Cr × Value)), S.length = roomL ks.length → RdK u (.slice (some ⟨g, ks.length * 7, none⟩) S.length (roomL ks.length)) S → RdK u (.slice (if roomL ks.length = 0 then some ⟨g, 0, none⟩ else some ⟨g, ks.length * 7, none⟩) (roomL ks.length) (roomL ks.length)) S := by
      intro g S hS h
      by_cases h0 : roomL ks.length = 0
      · have hS0 := List.eq_nil_of_length_eq_zero (hS.trans h0)
        subst hS0
        rw [if_pos h0, h0]
        exact ⟨⟨by simp, rfl, _, _, rfl, fun i hi => by simp at hi⟩, fun p hp => by cases hp⟩
      · rw [if_neg h0]
        rw [hS] at h
        exact h
    exact eqKs_same _ _ S1 S2 u (hA g1 S1 hS1 (hR1 (roomL ks.length))) (hA g2 S2 hS2 (hR2 (roomL ks.length))) (hm1.trans hm2.symm) : Calls Tryz.prog 71 #[.slice (if roomL ks.length = 0 then some ⟨g1, 0, none⟩ else some ⟨g1, ks.length * 7, none⟩) (roomL ks.length) (roomL ks.length), .slice (if roomL ks.length = 0 then some ⟨g2, 0, none⟩ else some ⟨g2, ks.length * 7, none⟩) (roomL ks.length) (roomL ks.length)] u fun e w' => e = .returned (.bool true) ∧ Below u.heap.size u w'))
  have HX := Lib.hid (fun (u : World) (q1 : SiteC u lo1 hi1 (.slice (some ⟨g1, 0, none⟩) ks.length (ks.length + roomL ks.length)) ks) (q2 : SiteC u lo2 hi2 (.slice (some ⟨g2, 0, none⟩) ks.length (ks.length + roomL ks.length)) ks) (i : Nat) (hi : i < ks.length) => (by
    obtain ⟨g1', T1, S1, e1, _, hl1, _, _, ha1, _, _⟩ := SiteC_open q1
    obtain ⟨g2', T2, S2, e2, _, hl2, _, _, ha2, _, _⟩ := SiteC_open q2
    cases e1
    cases e2
    obtain ⟨_, hc1, hk1⟩ := ha1 i (by omega) hi
    obtain ⟨_, hc2, hk2⟩ := ha2 i (by omega) hi
    exact ⟨_, _, hc1, hk1, hc2, hk2⟩ : ∃ c1 c2, CopyC u (g1 + 1) hi1 c1 ks[i].ch ∧ CrAt u g1 (i * 7) ks[i] c1 ∧ CopyC u (g2 + 1) hi2 c2 ks[i].ch ∧ CrAt u g2 (i * 7) ks[i] c2))
  go_enter Tryz.func42, Tryz.ntmps42
  go_wp2_with (go_at_call 48; refine (room_any _ (by omega) _).mono ?_; rintro e w1 ⟨rfl, rfl⟩)
  go_loopw [6] (fun i wr => ∃ j : Nat, j ≤ ks.length ∧ i = .int .i64 j ∧ Below w.heap.size w wr) (fun i _ => ks.length - (intOf i).toNat)
  case atStart => exact ⟨0, by omega, rfl, Below.refl _ _⟩
  case round =>
    obtain ⟨j, hj, rfl, hb⟩ := hrel
    by_cases hlt : j < ks.length
    · obtain ⟨cv, cv2, hcv, ⟨hlb, ⟨c0, c1, c2, c3, c4, c5, c6⟩, hrc⟩, hcv2, ⟨hlb2, ⟨d0, d1, d2, d3, d4, d5, d6⟩, hrd⟩⟩ := HX.out wr (SiteC_kept H1.out hb) (SiteC_kept H2.out hb) j hlt
      generalize ks[j] = k at *
      obtain ⟨A3, cp3, rfl, _, _⟩ := RdP_slice hrc
      obtain ⟨A4, cp4, rfl, _, _⟩ := RdP_slice hrd
      have HI := Lib.hid (fun (m : Nat) => intactK_same k _ _ _ _ _ _ (wr.drewN m) (CopyC_kept hcv (kept_drewN (Below.refl _ _) m)) (CopyC_kept hcv2 (kept_drewN (Below.refl _ _) m)))
      clear hrc hrd hcv hcv2
      go_wp2_with fail
      go_cut [33] (fun s33 w' => s33 = .bool false ∧ Below w.heap.size w w')
      case first =>
        go_region_with ((go_at_call 70; refine (HI.out 1).mono ?_; rintro e w1 ⟨rfl, hb1⟩; have b1 := kept_trans (a := w) (kept_drewN hb 1) hb1))
        all_goals
          go_wp2_with fail
          go_meet
          case rel => exact ⟨rfl, b1⟩
      case rest =>
      obtain ⟨rfl, hbc⟩ := hcut
      go_wp2
      go_roundw
      case rel => exact ⟨j + 1, by omega, by go_num, hbc⟩
      case measure => simp [intOf]; omega
    · have : j = ks.length := by omega
      subst this
      have hee := fun (m : Nat) => HE.out (wr.drewN m) (SiteC_kept H1.out (kept_drewN hb m)) (SiteC_kept H2.out (kept_drewN hb m))
      have hx1 : ¬ (ks.length + roomL ks.length < ks.length) := by omega
      have hx3 : (ks.length : Int) ≤ (ks.length : Int) + (roomL ks.length : Int) := by omega
      have hx4 : (0 : Int) ≤ (ks.length : Int) + (roomL ks.length : Int) := by omega
      have hx5 : ((ks.length : Int) + (roomL ks.length : Int)).toNat = ks.length + roomL ks.length := by omega
      have hx6 : ks.length ≤ ks.length + roomL ks.length := by omega
      have hx7 : ks.length + roomL ks.length - ks.length = roomL ks.length := by omega
      by_cases h0 : roomL ks.length = 0
      case pos =>
        simp only [h0, if_true] at hee
        have HEE := Lib.hid hee; clear hee
        go_wp2_with fail
        go_region_with ((go_at_call 71; refine (HEE.out 1).mono ?_; rintro e w1 ⟨rfl, hb1⟩; have b1 := kept_trans (a := w) (kept_drewN hb 1) hb1))
        all_goals
          go_wp2
          go_ret
          exact ⟨rfl, b1⟩
      case neg =>
        simp only [if_neg h0] at hee
        have HEE := Lib.hid hee; clear hee
        go_wp2_with fail
        go_region_with ((go_at_call 71; refine (HEE.out 1).mono ?_; rintro e w1 ⟨rfl, hb1⟩; have b1 := kept_trans (a := w) (kept_drewN hb 1) hb1))
        all_goals
          go_wp2
          go_ret
          exact ⟨rfl, b1⟩

theorem min_any (x y : Int) (w : World) :
    Calls Tryz.prog 100 #[.int .i64 x, .int .i64 y] w fun e w' => e = .returned (.int .i64 (min x y)) ∧ w = w' := by
  by_cases h : x < y
  · rw [show min x y = x by omega]
    go_enter Tryz.func100, Tryz.ntmps100
    go_wp2
    go_ret
    exact ⟨rfl, rfl⟩
  · rw [show min x y = y by omega]
    go_enter Tryz.func100, Tryz.ntmps100
    go_wp2
    go_ret
    exact ⟨rfl, rfl⟩

/-- The square of the distance of two points. -/
def sqD (x y u v : Int) : Int := (x - u) * (x - u) + (y - v) * (y - v)

theorem far_any (x y u v n : Int) (hp : okP x y = true) (hq : okP u v = true) (hn : 0 ≤ n ∧ n ≤ 2000) (w : World) :
    Calls Tryz.prog 59 #[.agg #[.int .i64 x, .int .i64 y], .agg #[.int .i64 u, .int .i64 v], .int .i64 n] w fun e w' => e = .returned (.bool (decide (n * n < sqD x y u v))) ∧ Below w.heap.size w w' := by
  have g1 := okP_true hp
  have g2 := okP_true hq
  have hQ := fun W => l02Square_any x y u v (by omega) (by omega) (by omega) (by omega) W
  rw [sq_wrap (x - u) (y - v) (by omega) (by omega)] at hQ
  have hb := sq_bd n 2000 (by omega) hn.2
  have hw : IntKind.i64.wrap (n * n) = n * n := IntWalk.i64_in _ (by omega)
  unfold sqD
  generalize (x - u) * (x - u) + (y - v) * (y - v) = D at *
  have HQ := Lib.hid hQ; clear hQ g1 g2 hp hq
  go_enter Tryz.func59, Tryz.ntmps59
  go_wp2_with (go_at_call 83; refine (HQ.out _).mono ?_; rintro e w1 ⟨rfl, hb⟩; have hs := hb.size; (try simp at hs); (try (refine kept_at hb (w.heap.size) ?_ (fun hc0 hz0 hs0 => ?_); focus go_size)); (try (refine kept_at hb (w.heap.size + 1) ?_ (fun hc1 hz1 hs1 => ?_); focus go_size)); (try (refine kept_at hb (w.heap.size + 2) ?_ (fun hc2 hz2 hs2 => ?_); focus go_size)); (try (refine kept_at hb (w.heap.size + 3) ?_ (fun hc3 hz3 hs3 => ?_); focus go_size)); (try (refine kept_at hb (w.heap.size + 4) ?_ (fun hc4 hz4 hs4 => ?_); focus go_size)); (try (refine kept_at hb (w.heap.size + 5) ?_ (fun hc5 hz5 hs5 => ?_); focus go_size)); replace hb := kept_trans (a := w) (by go_grown) hb; have hcl := kept_cell hb; have hzl := kept_frozen hb)
  go_ret
  exact ⟨by simp [hw, IntWalk.wrap64_in (n * n) (by omega)], by go_grown⟩

theorem near_any (x y u v n : Int) (hp : okP x y = true) (hq : okP u v = true) (hn : 0 ≤ n ∧ n ≤ 2000) (w : World) :
    Calls Tryz.prog 92 #[.agg #[.int .i64 x, .int .i64 y], .agg #[.int .i64 u, .int .i64 v], .int .i64 n] w fun e w' => e = .returned (.bool (decide (sqD x y u v ≤ n * n))) ∧ Below w.heap.size w w' := by
  have g1 := okP_true hp
  have g2 := okP_true hq
  have E := sq_wrap (u - x) (v - y) (by omega) (by omega)
  have hb := sq_bd n 2000 (by omega) hn.2
  have hw : IntKind.i64.wrap (n * n) = n * n := IntWalk.i64_in _ (by omega)
  have hM := fun W => minus_any u v x y (by omega) (by omega) (by omega) (by omega) W
  have hS := fun W => scalar_any (u - x) (v - y) (u - x) (v - y) W
  rw [E] at hS
  unfold sqD
  rw [sq_sym x u, sq_sym y v]
  generalize (u - x) * (u - x) + (v - y) * (v - y) = D at *
  generalize u - x = a at *
  generalize v - y = c at *
  have HM := Lib.hid hM; clear hM
  have HS := Lib.hid hS; clear hS g1 g2 hp hq E
  go_enter Tryz.func92, Tryz.ntmps92
  go_wp2_with (first | (go_at_call 107; refine (HM.out _).mono ?_; rintro e w1 ⟨rfl, hb⟩; have hs := hb.size; (try simp at hs); (try (refine kept_at hb (w.heap.size) ?_ (fun hc0 hz0 hs0 => ?_); focus go_size)); (try (refine kept_at hb (w.heap.size + 1) ?_ (fun hc1 hz1 hs1 => ?_); focus go_size)); (try (refine kept_at hb (w.heap.size + 2) ?_ (fun hc2 hz2 hs2 => ?_); focus go_size)); (try (refine kept_at hb (w.heap.size + 3) ?_ (fun hc3 hz3 hs3 => ?_); focus go_size)); (try (refine kept_at hb (w.heap.size + 4) ?_ (fun hc4 hz4 hs4 => ?_); focus go_size)); (try (refine kept_at hb (w.heap.size + 5) ?_ (fun hc5 hz5 hs5 => ?_); focus go_size)); replace hb := kept_trans (a := w) (by go_grown) hb; have hcl := kept_cell hb; have hzl := kept_frozen hb) | (go_at_call 108; refine (HS.out _).mono ?_; rintro e w1 ⟨rfl, hb⟩; have hs := hb.size; (try simp at hs); (try (refine kept_at hb (w.heap.size) ?_ (fun hc0 hz0 hs0 => ?_); focus go_size)); (try (refine kept_at hb (w.heap.size + 1) ?_ (fun hc1 hz1 hs1 => ?_); focus go_size)); (try (refine kept_at hb (w.heap.size + 2) ?_ (fun hc2 hz2 hs2 => ?_); focus go_size)); (try (refine kept_at hb (w.heap.size + 3) ?_ (fun hc3 hz3 hs3 => ?_); focus go_size)); (try (refine kept_at hb (w.heap.size + 4) ?_ (fun hc4 hz4 hs4 => ?_); focus go_size)); (try (refine kept_at hb (w.heap.size + 5) ?_ (fun hc5 hz5 hs5 => ?_); focus go_size)); replace hb := kept_trans (a := w) (by go_grown) hb; have hcl := kept_cell hb; have hzl := kept_frozen hb))
  go_ret
  exact ⟨by simp [hw, IntWalk.wrap64_in (n * n) (by omega)], by go_grown⟩

/-- The place of the first crane with a name; behind the last one if there is none. -/
def idxK (ks : List (Cr × Value)) (s : ByteArray) : Nat := ks.findIdx fun p => decide (p.1.nm = s)

theorem idxK_is {ks : List (Cr × Value)} {s : ByteArray} {k : Nat} (h : k < ks.length) (hk : ks[k].1.nm = s) (hb : ∀ j (hj : j < ks.length), j < k → ¬ ks[j].1.nm = s) : idxK ks s = k := by
  unfold idxK
  rw [List.findIdx_eq h]
  exact ⟨by simp [hk], fun j hj => by simpa using hb j (by omega) hj⟩

theorem idxK_none {ks : List (Cr × Value)} {s : ByteArray} (hb : ∀ j (hj : j < ks.length), ¬ ks[j].1.nm = s) : idxK ks s = ks.length := by
  unfold idxK
  rw [List.findIdx_eq_length]
  intro p hp
  obtain ⟨i, hi, rfl⟩ := List.mem_iff_getElem.1 hp
  simpa using hb i hi

theorem indexNamed_any (v : Value) (ks : List (Cr × Value)) (s : ByteArray) (w : World) (h : RdK w v ks) :
    Calls Tryz.prog 91 #[v, .string s] w fun e w' => e = .returned (.int .i64 (if idxK ks s < ks.length then (idxK ks s : Int) else -1)) ∧ w = w' := by
  obtain ⟨A, c, rfl, hl, r⟩ := RdK_at h
  clear h
  have R := Lib.hid r; clear r
  have HIS := Lib.hid (fun k (h : k < ks.length) => @idxK_is ks s k h)
  have HNO := Lib.hid (@idxK_none ks s)
  generalize hG : (if idxK ks s < ks.length then (idxK ks s : Int) else -1) = G
  have HG := Lib.hid hG; clear hG
  go_enter Tryz.func91, Tryz.ntmps91
  go_wp2_with fail
  go_loop [8] (fun i => ∃ k : Nat, k ≤ ks.length ∧ i = .int .i64 (k : Int) ∧ ∀ j (hj : j < ks.length), j < k → ¬ ks[j].1.nm = s) (fun i => ks.length - (intOf i).toNat)
  case atStart => exact ⟨0, by omega, rfl, fun j _ h => by omega⟩
  case round =>
    obtain ⟨k, hk, rfl, hall⟩ := hrel
    by_cases hlt : k < ks.length
    · obtain ⟨b, off, rfl, hkk⟩ := R.out k hlt
      obtain ⟨_, ⟨c0, _, _, _, _, _, _⟩, _⟩ := hkk
      by_cases he : ks[k].1.nm = s
      · have hi := HIS.out k hlt he hall
        have hE : G = (k : Int) := by rw [← HG.out, hi, if_pos hlt]
        rw [he] at c0
        have HE := Lib.hid hE; clear hE hi hall he
        go_wp2
        go_ret
        exact ⟨by rw [HE.out]; rfl, rfl⟩
      · have hne := str_ne he
        have hall2 : ∀ j (hj : j < ks.length), j < k + 1 → ¬ ks[j].1.nm = s := fun j hj hlt2 => by
          rcases Nat.lt_or_ge j k with h1 | h1
          · exact hall j hj h1
          · have : j = k := by omega
            subst this
            exact he
        have HA := Lib.hid hall2; clear hall2 hall
        generalize ks[k].1.nm = t at *
        clear he
        go_wp2
        go_round
        case rel => exact ⟨k + 1, by omega, by go_num, HA.out⟩
        case measure => simp [intOf]; omega
    · have : k = ks.length := by omega
      subst this
      have hi := HNO.out (fun j hj => hall j hj hj)
      have hE : G = -1 := by rw [← HG.out, hi, if_neg (by omega)]
      have HE := Lib.hid hE; clear hE hi hall
      go_wp2
      go_ret
      exact ⟨by rw [HE.out]; rfl, rfl⟩

/-- One of the cranes stands at most 10 from the crane k. -/
def nearK (ks : List (Cr × Value)) (k : Cr) : Bool := ks.any fun p => decide (sqD p.1.x p.1.y k.x k.y ≤ 100)

/-- Why the crane k can not be added: 0: it can, 1: its name is taken, 2: the site is full, 3: another crane stands too near. -/
def roomN (ks : List (Cr × Value)) (k : Cr) : Nat := if idxK ks k.nm < ks.length then 1 else if 6 ≤ ks.length then 2 else if nearK ks k then 3 else 0

/-- What the three variables hold. -/
def errAt (w : World) (r1 r2 r3 : Value) : Prop :=
  (0 < w.heap.size ∧ w.cell? ⟨0, 0, none⟩ = some r1) ∧ (1 < w.heap.size ∧ w.cell? ⟨1, 0, none⟩ = some r2) ∧ 2 < w.heap.size ∧ w.cell? ⟨2, 0, none⟩ = some r3

theorem errAt_kept {W w1 : World} {r1 r2 r3 : Value} (h : errAt W r1 r2 r3) (hb : Below W.heap.size W w1) : errAt w1 r1 r2 r3 := by
  obtain ⟨⟨g1, c1⟩, ⟨g2, c2⟩, g3, c3⟩ := h
  have hs := hb.size
  exact ⟨⟨by omega, by rw [kept_cell hb _ 0 g1]; exact c1⟩, ⟨by omega, by rw [kept_cell hb _ 0 g2]; exact c2⟩, by omega, by rw [kept_cell hb _ 0 g3]; exact c3⟩

def roomV (r1 r2 r3 : Value) : Nat → Value
  | 0 => .nilIface
  | 1 => r1
  | 2 => r2
  | _ => r3

theorem near_step (ks : List (Cr × Value)) (k : Cr) (i : Nat) (h : i < ks.length) : nearK (ks.take (i + 1)) k = (nearK (ks.take i) k || decide (sqD ks[i].1.x ks[i].1.y k.x k.y ≤ 100)) := by
  rw [nearK, ← List.take_append_getElem h, List.any_append]
  simp [nearK]

theorem near_hit (ks : List (Cr × Value)) (k : Cr) (i : Nat) (h : i < ks.length) (hd : sqD ks[i].1.x ks[i].1.y k.x k.y ≤ 100) : nearK ks k = true := by
  rw [nearK, List.any_eq_true]
  exact ⟨ks[i], List.getElem_mem h, by simpa using hd⟩

set_option maxHeartbeats 2000000 in
theorem roomFor_any (v : Value) (ks : List (Cr × Value)) (b o : Nat) (k : Cr) (c : Value) (r1 r2 r3 : Value) (w : World) (h : RdK w v ks) (hk : CrAt w b o k c) (hok : ∀ p ∈ ks, okP p.1.x p.1.y = true) (hkp : okP k.x k.y = true) (he : errAt w r1 r2 r3) :
    Calls Tryz.prog 65 #[v, .pointer (some ⟨b, o, none⟩)] w fun e w' => e = .returned (roomV r1 r2 r3 (roomN ks k)) ∧ Below w.heap.size w w' := by
  have HX := Lib.hid (indexNamed_any v ks k.nm w h)
  have HE := Lib.hid he
  obtain ⟨⟨g1, e1⟩, ⟨g2, e2⟩, g3, e3⟩ := he
  obtain ⟨A, cp, rfl, hl, r⟩ := RdK_at h
  obtain ⟨hlb, ⟨c0, c1, c2, c3, c4, c5, c6⟩, hrc⟩ := hk
  clear h hrc c3 c4 c5 c6
  have R := Lib.hid r; clear r
  have HOK := Lib.hid hok; clear hok
  by_cases h1 : idxK ks k.nm < ks.length
  · have hN : roomN ks k = 1 := by rw [roomN, if_pos h1]
    rw [hN, if_pos h1] at *
    generalize idxK ks k.nm = m at *
    clear hN
    go_enter Tryz.func65, Tryz.ntmps65
    go_wp2_with fail
    refine HX.out.mono ?_
    rintro e w1 ⟨rfl, rfl⟩
    go_wp2
    go_ret
    exact ⟨rfl, Below.refl _ _⟩
  by_cases h2 : 6 ≤ ks.length
  · have hN : roomN ks k = 2 := by rw [roomN, if_neg h1, if_pos h2]
    rw [hN, if_neg h1] at *
    clear hN h1
    go_enter Tryz.func65, Tryz.ntmps65
    go_wp2_with fail
    refine HX.out.mono ?_
    rintro e w1 ⟨rfl, rfl⟩
    go_wp2
    go_ret
    exact ⟨rfl, Below.refl _ _⟩
  have hN : roomN ks k = if nearK ks k then 3 else 0 := by rw [roomN, if_neg h1, if_neg h2]
  rw [hN, if_neg h1] at *
  clear hN h1
  have HS := Lib.hid (fun i (hi : i < ks.length) => near_step ks k i hi)
  have HH := Lib.hid (fun i (hi : i < ks.length) => near_hit ks k i hi)
  generalize hG : (if nearK ks k = true then 3 else 0) = G
  have HG := Lib.hid hG; clear hG
  go_enter Tryz.func65, Tryz.ntmps65
  go_wp2_with fail
  refine HX.out.mono ?_
  rintro e w1 ⟨rfl, rfl⟩
  go_wp2_with fail
  go_loopw [20] (fun i wr => ∃ j : Nat, j ≤ ks.length ∧ i = .int .i64 (j : Int) ∧ nearK (ks.take j) k = false ∧ Below w.heap.size w wr) (fun i _ => ks.length - (intOf i).toNat)
  case atStart => exact ⟨0, by omega, rfl, rfl, Below.refl _ _⟩
  case round =>
    obtain ⟨j, hj, rfl, hnf, hb⟩ := hrel
    have hsz := hb.size
    by_cases hlt : j < ks.length
    · obtain ⟨b2, off, rfl, hkk⟩ := R.out j hlt
      have hokj := HOK.out ks[j] (List.getElem_mem hlt)
      have hst := HS.out j hlt
      have hht := HH.out j hlt
      obtain ⟨hlb2, ⟨d0, d1, d2, d3, d4, d5, d6⟩, hrd⟩ := CrAt_kept hkk hb
      clear hrd hkk d0 d3 d4 d5 d6
      generalize ks[j].1 = kj at *
      have f1 : wr.cell? ⟨b, o + 1, none⟩ = some (.int .i64 k.x) := by rw [kept_cell hb b _ hlb]; exact c1
      have f2 : wr.cell? ⟨b, o + 2, none⟩ = some (.int .i64 k.y) := by rw [kept_cell hb b _ hlb]; exact c2
      have hna := fun m => near_any kj.x kj.y k.x k.y 10 hokj hkp (by omega) (wr.drewN m)
      rw [hnf, Bool.false_or] at hst
      cases hd : decide (sqD kj.x kj.y k.x k.y ≤ 10 * 10)
      · rw [hd] at hna
        have hd2 : decide (sqD kj.x kj.y k.x k.y ≤ 100) = false := hd
        rw [hd2] at hst
        have HST := Lib.hid hst; clear hst hht
        have HNA := Lib.hid hna; clear hna hd hd2
        go_wp2_with fail
        go_cut [32] (fun s32 w' => s32 = .bool false ∧ Below w.heap.size w w')
        case first =>
          go_region_with ((go_at_call 92; refine (HNA.out 1).mono ?_; rintro e w2 ⟨rfl, hb2⟩; have b2' := kept_trans (a := w) (kept_drewN hb 1) hb2))
          all_goals
            go_wp2_with fail
            go_meet
            case rel => exact ⟨rfl, b2'⟩
        case rest =>
        obtain ⟨rfl, hbc⟩ := hcut
        go_wp2
        go_roundw
        case rel => exact ⟨j + 1, by omega, by go_num, HST.out, hbc⟩
        case measure => simp [intOf]; omega
      · rw [hd] at hna
        have hd2 := of_decide_eq_true hd
        have hnk : nearK ks k = true := hht (by omega)
        have hg : G = 3 := by rw [← HG.out, if_pos hnk]
        have HNK := Lib.hid hg; clear hg hnk hht hst
        have HNA := Lib.hid hna; clear hna hd hd2
        go_wp2_with fail
        go_cut [32] (fun s32 w' => s32 = .bool true ∧ Below w.heap.size w w')
        case first =>
          go_region_with ((go_at_call 92; refine (HNA.out 1).mono ?_; rintro e w2 ⟨rfl, hb2⟩; have b2' := kept_trans (a := w) (kept_drewN hb 1) hb2))
          all_goals
            go_wp2_with fail
            go_meet
            case rel => exact ⟨rfl, b2'⟩
        case rest =>
        obtain ⟨rfl, hbc⟩ := hcut
        obtain ⟨_, _, _, e3'⟩ := errAt_kept HE.out hbc
        go_wp2
        go_ret
        exact ⟨by rw [HNK.out]; rfl, hbc⟩
    · have : j = ks.length := by omega
      subst this
      rw [List.take_length] at hnf
      have hg : G = 0 := by rw [← HG.out, hnf]; rfl
      have HNF := Lib.hid hg; clear hg hnf
      go_wp2
      go_ret
      exact ⟨by rw [HNF.out]; rfl, hb⟩

/-- The first n cranes of a site are valid, have different names and stand more than 10 apart. -/
def siteOk (ks : List (Cr × Value)) (n : Nat) : Prop := ∀ i (hi : i < ks.length), i < n → craneB ks[i].1 = true ∧ ∀ j (hj : j < ks.length), j < i → ¬ ks[j].1.nm = ks[i].1.nm ∧ 100 < sqD ks[j].1.x ks[j].1.y ks[i].1.x ks[i].1.y

def SiteP (ks : List (Cr × Value)) : Prop := siteOk ks ks.length ∧ 1 ≤ ks.length ∧ ks.length ≤ 6

open Classical in
/-- The site is valid. -/
noncomputable def siteB (ks : List (Cr × Value)) : Bool := decide (SiteP ks)

theorem siteB_true {ks : List (Cr × Value)} (h : SiteP ks) : siteB ks = true := by simp [siteB, h]

theorem siteB_false {ks : List (Cr × Value)} (h : ¬ SiteP ks) : siteB ks = false := by simp [siteB, h]

theorem siteOk_step {ks : List (Cr × Value)} {n : Nat} (h : siteOk ks n) (hn : n < ks.length) (h1 : craneB ks[n].1 = true) (h2 : ∀ j (hj : j < ks.length), j < n → ¬ ks[j].1.nm = ks[n].1.nm ∧ 100 < sqD ks[j].1.x ks[j].1.y ks[n].1.x ks[n].1.y) : siteOk ks (n + 1) := by
  intro i hi hlt
  rcases Nat.lt_or_ge i n with h3 | h3
  · exact h i hi h3
  · obtain rfl : i = n := by omega
    exact ⟨h1, h2⟩

theorem room_zero (ks : List (Cr × Value)) (i : Nat) (hi : i < ks.length) :
    roomN (ks.take i) ks[i].1 = 0 ↔ (∀ j (hj : j < ks.length), j < i → ¬ ks[j].1.nm = ks[i].1.nm ∧ 100 < sqD ks[j].1.x ks[j].1.y ks[i].1.x ks[i].1.y) ∧ i < 6 := by
  have hlen : (ks.take i).length = i := by simp; omega
  have hidx : idxK (ks.take i) ks[i].1.nm < (ks.take i).length ↔ ∃ j, ∃ (hj : j < ks.length), j < i ∧ ks[j].1.nm = ks[i].1.nm := by
    unfold idxK
    rw [List.findIdx_lt_length]
    constructor
    · rintro ⟨p, hp, he⟩
      obtain ⟨j, hj, rfl⟩ := List.mem_iff_getElem.1 hp
      rw [hlen] at hj
      refine ⟨j, by omega, hj, ?_⟩
      simpa using he
    · rintro ⟨j, hj, hji, he⟩
      exact ⟨ks[j], List.mem_iff_getElem.2 ⟨j, by rw [hlen]; exact hji, by simp⟩, by simpa using he⟩
  have hnear : nearK (ks.take i) ks[i].1 = true ↔ ∃ j, ∃ (hj : j < ks.length), j < i ∧ sqD ks[j].1.x ks[j].1.y ks[i].1.x ks[i].1.y ≤ 100 := by
    rw [nearK, List.any_eq_true]
    constructor
    · rintro ⟨p, hp, he⟩
      obtain ⟨j, hj, rfl⟩ := List.mem_iff_getElem.1 hp
      rw [hlen] at hj
      refine ⟨j, by omega, hj, ?_⟩
      simpa using he
    · rintro ⟨j, hj, hji, he⟩
      exact ⟨ks[j], List.mem_iff_getElem.2 ⟨j, by rw [hlen]; exact hji, by simp⟩, by simpa using he⟩
  unfold roomN
  rw [hlen] at hidx ⊢
  constructor
  · intro h
    split at h
    · cases h
    · next h1 =>
      split at h
      · cases h
      · next h2 =>
        split at h
        · cases h
        · next h3 =>
          refine ⟨fun j hj hji => ⟨fun he => h1 (hidx.2 ⟨j, hj, hji, he⟩), ?_⟩, by omega⟩
          by_cases h4 : sqD ks[j].1.x ks[j].1.y ks[i].1.x ks[i].1.y ≤ 100
          · exact absurd (hnear.2 ⟨j, hj, hji, h4⟩) h3
          · omega
  · rintro ⟨h, h6⟩
    rw [if_neg (fun hq => by obtain ⟨j, hj, hji, he⟩ := hidx.1 hq; exact (h j hj hji).1 he), if_neg (by omega), if_neg (fun hq => by obtain ⟨j, hj, hji, he⟩ := hnear.1 hq; have := (h j hj hji).2; omega)]

theorem RdK_take {w : World} {A : Option Addr} {c : Nat} {ks : List (Cr × Value)} (h : RdK w (.slice A ks.length c) ks) (i : Nat) (hi : i ≤ ks.length) : RdK w (.slice A i c) (ks.take i) := by
  obtain ⟨⟨hl, hx, A', c', e, hr⟩, hcs⟩ := h
  cases e
  have hlen : (ks.take i).length = i := by simp; omega
  refine ⟨⟨by omega, flatK_len _, A, c, by rw [hlen], fun k hk => ?_⟩, fun p hp => hcs p (List.mem_of_mem_take hp)⟩
  rw [hlen] at hk
  obtain ⟨b, off, e, hlt, hc⟩ := hr k (by omega)
  refine ⟨b, off, e, hlt, ?_⟩
  rw [hc, ← flatK_take (ks.take i) (ks.drop i), List.take_append_drop, hlen, List.getElem?_take, if_pos hk]

set_option maxHeartbeats 2000000 in
theorem implSite_any (A : Option Addr) (c : Nat) (ks : List (Cr × Value)) (r1 r2 r3 : Value) (w : World) (h : RdK w (.slice A ks.length c) ks) (hc : ks.length ≤ c) (hn : ∀ p ∈ ks, p.1.nm.size ≤ 1000000) (he : errAt w r1 r2 r3)
    (hi1 : ∃ t p, r1 = .iface t p) (hi2 : ∃ t p, r2 = .iface t p) (hi3 : ∃ t p, r3 = .iface t p) :
    Calls Tryz.prog 38 #[.agg #[.slice A ks.length c]] w fun e w' => e = .returned (.bool (siteB ks)) ∧ Below w.heap.size w w' := by
  have HE := Lib.hid he; clear he
  have hV : ∀ n, n ≠ 0 → ∃ t p, roomV r1 r2 r3 n = .iface t p := by
    intro n hn
    match n, hn with
    | 1, _ => exact hi1
    | 2, _ => exact hi2
    | n + 3, _ => exact hi3
  have HV := Lib.hid hV; clear hV hi1 hi2 hi3
  obtain ⟨A', c', e, hl, r⟩ := RdK_at h
  cases e
  have H := Lib.hid h; clear h
  have R := Lib.hid r; clear r
  have HN := Lib.hid hn; clear hn
  have HZ := Lib.hid (fun i (hi : i < ks.length) => room_zero ks i hi)
  have hbad : ∀ i (hi : i < ks.length), ¬ (craneB ks[i].1 = true ∧ roomN (ks.take i) ks[i].1 = 0) → siteB ks = false := by
    intro i hi hno
    refine siteB_false fun hs => hno ?_
    have := hs.1 i hi hi
    exact ⟨this.1, (room_zero ks i hi).2 ⟨this.2, by have := hs.2; omega⟩⟩
  have HBAD := Lib.hid hbad; clear hbad
  generalize hG : siteB ks = G at *
  have HG := Lib.hid hG; clear hG
  go_enter Tryz.func38, Tryz.ntmps38
  go_wp2_with fail
  go_loopw [8] (fun i wr => ∃ j : Nat, j ≤ ks.length ∧ i = .int .i64 (j : Int) ∧ siteOk ks j ∧ j ≤ 6 ∧ wr.cell? ⟨w.heap.size, 0, none⟩ = some (.slice A ks.length c) ∧ w.heap.size < wr.heap.size ∧ Below w.heap.size w wr) (fun i _ => ks.length - (intOf i).toNat)
  case atStart => exact ⟨0, by omega, rfl, fun i _ h => by omega, by omega, by simp, by simp, by go_grown⟩
  case round =>
    obtain ⟨j, hj, rfl, hok, hj6, hbox, hlw, hb⟩ := hrel
    have hsz := hb.size
    by_cases hlt : j < ks.length
    · obtain ⟨b, off, rfl, hkk⟩ := R.out j hlt
      have hkk := CrAt_kept hkk hb
      have HKK := Lib.hid hkk
      have hz := HZ.out j hlt
      have hbd := HBAD.out j hlt
      have hnm := HN.out ks[j] (List.getElem_mem hlt)
      have hstep := @siteOk_step ks j hok hlt
      have hokp : ∀ p ∈ ks.take j, okP p.1.x p.1.y = true := by
        intro p hp
        obtain ⟨i, hi, rfl⟩ := List.mem_iff_getElem.1 hp
        have hi2 : i < j := by simpa using (by simp at hi; omega : i < j)
        rw [List.getElem_take]
        exact (craneB_true (hok i (by omega) hi2).1).1
      obtain ⟨hlb, ⟨c0, c1, c2, c3, c4, c5, c6⟩, hrc⟩ := hkk
      generalize ks[j].1 = k at *
      generalize ks[j].2 = cv at *
      obtain ⟨A2, cp2, rfl, _, _⟩ := RdP_slice hrc
      have HC := Lib.hid (implCrane_any k _ wr hrc hnm)
      clear hrc
      cases hcr : craneB k
      · have hg := hbd (by rw [hcr]; simp)
        rw [hcr] at HC
        have HGG := Lib.hid hg; clear hg hbd hz hstep hokp
        go_wp2_with fail
        refine HC.out.mono ?_
        rintro e w1 ⟨rfl, hb1⟩
        go_wp2
        go_ret
        exact ⟨by rw [HGG.out]; rfl, kept_trans hb hb1⟩
      · rw [hcr] at HC
        have hkp := (craneB_true hcr).1
        have HRF := Lib.hid (fun u (q : RdK u (.slice (some ⟨b, off, none⟩) j c) (ks.take j)) (q2 : CrAt u b (off + j * 7) k (.slice A2 k.ch.length cp2)) (q3 : errAt u r1 r2 r3) => roomFor_any _ (ks.take j) _ _ k _ r1 r2 r3 u q q2 hokp hkp q3)
        generalize hm : roomN (ks.take j) k = m at *
        have hjc : j ≤ c := by omega
        by_cases h0 : m = 0
        · subst h0
          have hz1 := hz.1 rfl
          have hst := hstep hcr hz1.1
          have HST := Lib.hid hst; clear hst hstep hz hbd hokp
          go_wp2_with fail
          refine HC.out.mono ?_
          rintro e w1 ⟨rfl, hb1⟩
          have b1 := kept_trans hb hb1
          have hbox1 : w1.cell? ⟨w.heap.size, 0, none⟩ = some (.slice (some ⟨b, off, none⟩) ks.length c) := by rw [kept_cell hb1 _ 0 hlw]; exact hbox
          go_wp2_with fail
          refine (HRF.out w1 (RdK_take (RdK_kept H.out b1) j hj) (CrAt_kept HKK.out hb1) (errAt_kept HE.out b1)).mono ?_
          rintro e w2 ⟨rfl, hb2⟩
          have b2 := kept_trans b1 hb2
          have hlw1 := Nat.lt_of_lt_of_le hlw hb1.size
          have hbox2 : w2.cell? ⟨w.heap.size, 0, none⟩ = some (.slice (some ⟨b, off, none⟩) ks.length c) := by rw [kept_cell hb2 _ 0 hlw1]; exact hbox1
          have hlw2 := Nat.lt_of_lt_of_le hlw1 hb2.size
          simp only [roomV]
          go_wp2
          go_roundw
          case rel => exact ⟨j + 1, by omega, by go_num, HST.out, by omega, hbox2, hlw2, b2⟩
          case measure => simp [intOf]; omega
        · have hg := hbd (fun hq => h0 hq.2)
          obtain ⟨te, pe, hre⟩ := HV.out m h0
          rw [hre] at HRF
          have HGG := Lib.hid hg; clear hg hbd hz hstep hokp hre
          go_wp2_with fail
          refine HC.out.mono ?_
          rintro e w1 ⟨rfl, hb1⟩
          have b1 := kept_trans hb hb1
          have hbox1 : w1.cell? ⟨w.heap.size, 0, none⟩ = some (.slice (some ⟨b, off, none⟩) ks.length c) := by rw [kept_cell hb1 _ 0 hlw]; exact hbox
          go_wp2_with fail
          refine (HRF.out w1 (RdK_take (RdK_kept H.out b1) j hj) (CrAt_kept HKK.out hb1) (errAt_kept HE.out b1)).mono ?_
          rintro e w2 ⟨rfl, hb2⟩
          have b2 := kept_trans b1 hb2
          go_wp2
          go_ret
          exact ⟨by rw [HGG.out]; rfl, b2⟩
    · have : j = ks.length := by omega
      subst this
      have hE : G = decide (0 < ks.length) := by
        rw [← HG.out]
        by_cases h0 : 0 < ks.length
        · rw [siteB_true ⟨hok, by omega, hj6⟩]; simp [h0]
        · rw [siteB_false (fun h => by have := h.2; omega)]; simp [h0]
      have HEE := Lib.hid hE; clear hE hok
      go_wp2
      go_ret
      exact ⟨by rw [HEE.out]; simp, hb⟩

set_option maxHeartbeats 4000000 in
theorem specSite_any (b0 o0 : Nat) (A : Option Addr) (c : Nat) (ks : List (Cr × Value)) (w : World) (h : RdK w (.slice A ks.length c) ks) (hlt0 : b0 < w.heap.size) (hv : w.cell? ⟨b0, o0, none⟩ = some (.slice A ks.length c)) (hn : ∀ p ∈ ks, p.1.nm.size ≤ 1000000) :
    Calls Tryz.prog 32 #[.pointer (some ⟨b0, o0, none⟩)] w fun e w' => e = .returned (.bool (siteB ks)) ∧ Below w.heap.size w w' := by
  obtain ⟨A', c', e, hl, r⟩ := RdK_at h
  cases e
  clear h
  have R := Lib.hid r; clear r
  have HN := Lib.hid hn; clear hn
  have hbad1 : ∀ i (hi : i < ks.length), ¬ craneB ks[i].1 = true → siteB ks = false := fun i hi hno => siteB_false fun hs => hno (hs.1 i hi hi).1
  have hbad2 : ∀ i (hi : i < ks.length) j (hj : j < ks.length), j < i → ¬ (¬ ks[j].1.nm = ks[i].1.nm ∧ 100 < sqD ks[j].1.x ks[j].1.y ks[i].1.x ks[i].1.y) → siteB ks = false := fun i hi j hj hji hno => siteB_false fun hs => hno ((hs.1 i hi hi).2 j hj hji)
  have hend : siteOk ks ks.length → siteB ks = inB (ks.length : Int) 1 6 := by
    intro hok
    by_cases h6 : 1 ≤ ks.length ∧ ks.length ≤ 6
    · rw [siteB_true ⟨hok, h6⟩]; simp [inB]; omega
    · rw [siteB_false (fun hs => h6 hs.2)]; simp [inB]; omega
  have HB1 := Lib.hid hbad1; clear hbad1
  have HB2 := Lib.hid hbad2; clear hbad2
  have HEND := Lib.hid hend; clear hend
  generalize hG : siteB ks = G at *
  clear hG
  go_enter Tryz.func32, Tryz.ntmps32
  go_wp2_with fail
  go_loopw [3] (fun i wr => ∃ n : Nat, n ≤ ks.length ∧ i = .int .i64 (n : Int) ∧ siteOk ks n ∧ Below w.heap.size w wr) (fun i _ => ks.length - (intOf i).toNat)
  case atStart => exact ⟨0, by omega, rfl, fun i _ h => by omega, Below.refl _ _⟩
  case round =>
    obtain ⟨n, hnl, rfl, hok, hb⟩ := hrel
    have hbox : _ := hv
    rw [← kept_cell hb b0 _ hlt0] at hbox
    by_cases hlt : n < ks.length
    · obtain ⟨b, off, rfl, hkk⟩ := R.out n hlt
      have hHC := specCrane_any b (off + n * 7) ks[n].1 ks[n].2 wr (CrAt_kept hkk hb) (HN.out ks[n] (List.getElem_mem hlt))
      cases hcr : craneB ks[n].1
      · have hg := HB1.out n hlt (by rw [hcr]; simp)
        rw [hcr] at hHC
        have HC := Lib.hid hHC; clear hHC hok
        go_wp2_with fail
        refine HC.out.mono ?_
        rintro e w1 ⟨rfl, hb1⟩
        go_wp2
        go_ret
        exact ⟨by rw [hg]; rfl, kept_trans hb hb1⟩
      · rw [hcr] at hHC
        have HC := Lib.hid hHC; clear hHC
        have HOK := Lib.hid hok; clear hok
        have hkp := (craneB_true hcr).1
        go_wp2_with fail
        refine HC.out.mono ?_
        rintro e w1 ⟨rfl, hb1⟩
        have b1 := kept_trans hb hb1
        go_wp2_with fail
        go_loopw [4] (fun i wr => ∃ m : Nat, m ≤ n ∧ i = .int .i64 (m : Int) ∧ (∀ j (hj : j < ks.length), j < m → ¬ ks[j].1.nm = ks[n].1.nm ∧ 100 < sqD ks[j].1.x ks[j].1.y ks[n].1.x ks[n].1.y) ∧ Below w.heap.size w wr) (fun i _ => n - (intOf i).toNat)
        case atStart => exact ⟨0, by omega, rfl, fun j _ h => by omega, b1⟩
        case round =>
          obtain ⟨m, hm, rfl, hall, hb⟩ := hrel
          have hbox2 : _ := hv
          rw [← kept_cell hb b0 _ hlt0] at hbox2
          by_cases hm2 : m < n
          · have hml : m < ks.length := by omega
            obtain ⟨b', off', e', hkm⟩ := R.out m hml
            cases e'
            have hg2 := HB2.out n hlt m hml hm2
            have hokm := (craneB_true (HOK.out m hml hm2).1).1
            have hstep : (¬ ks[m].1.nm = ks[n].1.nm ∧ 100 < sqD ks[m].1.x ks[m].1.y ks[n].1.x ks[n].1.y) → ∀ j (hj : j < ks.length), j < m + 1 → ¬ ks[j].1.nm = ks[n].1.nm ∧ 100 < sqD ks[j].1.x ks[j].1.y ks[n].1.x ks[n].1.y := by
              intro hx j hj hjm
              rcases Nat.lt_or_ge j m with h3 | h3
              · exact hall j hj h3
              · obtain rfl : j = m := by omega
                exact hx
            have HALL := Lib.hid hall; clear hall
            obtain ⟨hlbw, ⟨c0, c1, c2, c3, c4, c5, c6⟩, _⟩ := CrAt_kept hkm hb
            have hb0w : b0 < wr.heap.size := Nat.lt_of_lt_of_le hlt0 hb.size
            obtain ⟨_, ⟨d0, d1, d2, d3, d4, d5, d6⟩, _⟩ := CrAt_kept hkk hb
            clear c3 c4 c5 c6 d3 d4 d5 d6
            have hfar := fun u => far_any ks[m].1.x ks[m].1.y ks[n].1.x ks[n].1.y 10 hokm hkp (by omega) u
            have HSTEP := Lib.hid hstep; clear hstep
            have HKM := Lib.hid hkm; clear hkm
            have HKP := Lib.hid hkp
            have HC0 := Lib.hid hkk
            by_cases hnm : ks[m].1.nm = ks[n].1.nm
            · have hg := hg2 (fun hx => hx.1 hnm)
              rw [hnm] at c0
              clear hfar hg2 hnm hokm hkp hcr
              generalize ks[m].1 = km at *
              generalize ks[n].1 = kn at *
              go_wp2_with fail
              go_quiet (fail)
              go_wp2
              go_ret
              exact ⟨by rw [hg]; rfl, kept_drewN hb _⟩
            · have hne := str_ne hnm
              by_cases hd : 100 < sqD ks[m].1.x ks[m].1.y ks[n].1.x ks[n].1.y
              · have hdd : decide (10 * 10 < sqD ks[m].1.x ks[m].1.y ks[n].1.x ks[n].1.y) = true := by simp; omega
                rw [hdd] at hfar
                have HNX := Lib.hid (HSTEP.out ⟨hnm, hd⟩)
                have HF := Lib.hid hfar; clear hfar hdd hd hnm hg2 hokm hkp hcr
                generalize ks[m].1 = km at *
                generalize ks[n].1 = kn at *
                go_wp2_with fail
                go_region_held3 (fun w' => w'.cell? ⟨b0, o0, none⟩ = some (.slice (some ⟨b, off, none⟩) ks.length c) ∧ w'.cell? ⟨b, off + m * 7, none⟩ = some (.string km.nm) ∧ w'.cell? ⟨b, off + m * 7 + 1, none⟩ = some (.int .i64 km.x) ∧ w'.cell? ⟨b, off + m * 7 + 2, none⟩ = some (.int .i64 km.y) ∧ w'.cell? ⟨b, off + n * 7, none⟩ = some (.string kn.nm) ∧ w'.cell? ⟨b, off + n * 7 + 1, none⟩ = some (.int .i64 kn.x) ∧ w'.cell? ⟨b, off + n * 7 + 2, none⟩ = some (.int .i64 kn.y) ∧ Below w.heap.size w w') (first | (refine ⟨?_, ?_, ?_, ?_, ?_, ?_, ?_, ?_⟩ <;> first | (go_grown; done) | (go_keep; done)) | (exact ⟨(kept_cell hb1 b0 _ hb0w).trans hbox2, (kept_cell hb1 b _ hlbw).trans c0, (kept_cell hb1 b _ hlbw).trans c1, (kept_cell hb1 b _ hlbw).trans c2, (kept_cell hb1 b _ hlbw).trans d0, (kept_cell hb1 b _ hlbw).trans d1, (kept_cell hb1 b _ hlbw).trans d2, hbw⟩))
                  ((go_at_call 59; refine (HF.out _).mono ?_; rintro e w1 ⟨rfl, hb1⟩; have hcl := kept_cell hb1; have hbw := kept_trans (a := w) (kept_drewN hb 1) hb1))
                go_wp2
                go_roundw
                case rel => exact ⟨m + 1, by omega, by go_num, HNX.out, by assumption⟩
                case measure => simp [intOf]; omega
              · have hdd : decide (10 * 10 < sqD ks[m].1.x ks[m].1.y ks[n].1.x ks[n].1.y) = false := by simp; omega
                rw [hdd] at hfar
                have hg := hg2 (fun hx => hd hx.2)
                have HF := Lib.hid hfar; clear hfar hdd hd hnm hg2 hokm hkp hcr
                generalize ks[m].1 = km at *
                generalize ks[n].1 = kn at *
                go_wp2_with fail
                go_region_held3 (fun w' => w'.cell? ⟨b0, o0, none⟩ = some (.slice (some ⟨b, off, none⟩) ks.length c) ∧ w'.cell? ⟨b, off + m * 7, none⟩ = some (.string km.nm) ∧ w'.cell? ⟨b, off + m * 7 + 1, none⟩ = some (.int .i64 km.x) ∧ w'.cell? ⟨b, off + m * 7 + 2, none⟩ = some (.int .i64 km.y) ∧ w'.cell? ⟨b, off + n * 7, none⟩ = some (.string kn.nm) ∧ w'.cell? ⟨b, off + n * 7 + 1, none⟩ = some (.int .i64 kn.x) ∧ w'.cell? ⟨b, off + n * 7 + 2, none⟩ = some (.int .i64 kn.y) ∧ Below w.heap.size w w') (first | (refine ⟨?_, ?_, ?_, ?_, ?_, ?_, ?_, ?_⟩ <;> first | (go_grown; done) | (go_keep; done)) | (exact ⟨(kept_cell hb1 b0 _ hb0w).trans hbox2, (kept_cell hb1 b _ hlbw).trans c0, (kept_cell hb1 b _ hlbw).trans c1, (kept_cell hb1 b _ hlbw).trans c2, (kept_cell hb1 b _ hlbw).trans d0, (kept_cell hb1 b _ hlbw).trans d1, (kept_cell hb1 b _ hlbw).trans d2, hbw⟩))
                  ((go_at_call 59; refine (HF.out _).mono ?_; rintro e w1 ⟨rfl, hb1⟩; have hcl := kept_cell hb1; have hbw := kept_trans (a := w) (kept_drewN hb 1) hb1))
                go_wp2
                go_ret
                exact ⟨by rw [hg]; rfl, by assumption⟩
          · have : m = n := by omega
            subst this
            have hst := siteOk_step HOK.out hlt hcr hall
            have HST := Lib.hid hst; clear hst hall
            go_wp2
            go_roundw
            case rel => exact ⟨m + 1, by omega, by go_num, HST.out, hb⟩
            case measure => simp [intOf]; omega
    · have : n = ks.length := by omega
      subst this
      have hE := HEND.out hok
      clear hok
      go_wp2_with (go_at_call 60; refine (in_any _ _ _ _).mono ?_; rintro e w1 ⟨rfl, rfl⟩)
      go_ret
      exact ⟨by rw [hE]; rfl, hb⟩

/-- The first place at which p holds; -1 if there is none. -/
def idxL {α : Type} (p : α → Bool) (zs : List α) : Int := if zs.findIdx p < zs.length then (zs.findIdx p : Int) else -1

theorem idxL_is {α : Type} {p : α → Bool} {zs : List α} {k : Nat} (h : k < zs.length) (hk : p zs[k] = true) (hb : ∀ j (hj : j < zs.length), j < k → p zs[j] = false) : idxL p zs = (k : Int) := by
  unfold idxL
  have e : zs.findIdx p = k := by
    rw [List.findIdx_eq h]
    exact ⟨hk, fun j hj => hb j (by omega) hj⟩
  rw [e, if_pos h]

theorem idxL_none {α : Type} {p : α → Bool} {zs : List α} (hb : ∀ j (hj : j < zs.length), p zs[j] = false) : idxL p zs = -1 := by
  unfold idxL
  have e : zs.findIdx p = zs.length := by
    rw [List.findIdx_eq_length]
    intro x hx
    obtain ⟨i, hi, rfl⟩ := List.mem_iff_getElem.1 hx
    exact hb i hi
  rw [e, if_neg (by omega)]

theorem idxL_any {α : Type} (p : α → Bool) (zs : List α) : decide (0 ≤ idxL p zs) = zs.any p := by
  unfold idxL
  by_cases h : zs.findIdx p < zs.length
  · rw [if_pos h]
    have := List.findIdx_lt_length.1 h
    simp
    obtain ⟨x, hx, hp⟩ := this
    exact ⟨x, hx, hp⟩
  · rw [if_neg h]
    have : ¬ ∃ x ∈ zs, p x = true := fun hx => h (List.findIdx_lt_length.2 hx)
    simp at this ⊢
    exact this

theorem idxL_bd {α : Type} (p : α → Bool) (zs : List α) : -1 ≤ idxL p zs ∧ idxL p zs ≤ zs.length := by
  unfold idxL
  split <;> omega

theorem validHeight_any (h : Int) (w : World) :
    Calls Tryz.prog 94 #[.int .i64 h] w fun e w' => e = .returned (.bool (inB h 0 2000)) ∧ w = w' := by
  unfold inB
  by_cases h1 : 0 ≤ h <;> by_cases h2 : h ≤ 2000 <;>
  · go_enter Tryz.func94, Tryz.ntmps94
    go_wp2
    go_ret
    exact ⟨by simp [*], rfl⟩

theorem totK_mem {ks : List (Cr × Value)} {p : Cr × Value} (h : p ∈ ks) : p.1.nm.size + p.1.ch.length ≤ totK ks := by
  induction ks with
  | nil => cases h
  | cons q ks ih =>
    simp only [totK]
    rcases List.mem_cons.1 h with rfl | h
    · omega
    · have := ih h
      omega

theorem szS_any (c : Value) (ks : List (Cr × Value)) (left : Int) (w : World) (h : RdK w c ks) (hl : 0 ≤ left ∧ left ≤ 1000000) (hw : ∀ p ∈ ks, wfK p.1) :
    Calls Tryz.prog 6 #[.agg #[c], .int .i64 left] w fun e w' => e = .returned (.int .i64 (if (ks.length : Int) + totK ks ≤ left then left - ks.length - totK ks else -1)) ∧ Below w.heap.size w w' := by
  obtain ⟨A, cp, rfl, _, _⟩ := RdK_at h
  have H := Lib.hid h; clear h
  have HQ := Lib.hid (fun u q => szKs_any (.slice A ks.length cp) ks left u q hl hw)
  by_cases h1 : (ks.length : Int) + totK ks ≤ left
  all_goals
    simp only [h1, if_true, if_false] at HQ ⊢
    have hle : 0 ≤ left - (ks.length : Int) - (totK ks : Nat) ∨ True := Or.inr trivial
    generalize (totK ks : Int) = tk at *
    go_enter Tryz.func6, Tryz.ntmps6
    go_wp2_with fail
    refine (HQ.out _ (RdK_kept H.out (by go_grown))).mono ?_
    rintro e w1 ⟨rfl, hb1⟩
    have b1 := kept_trans (a := w) (by go_grown) hb1
    go_wp2
    go_ret
    exact ⟨rfl, b1⟩

theorem intactS_same (ks : List Cr) (c1 c2 : Value) (lo1 hi1 lo2 hi2 : Nat) (w : World) (h1 : SiteC w lo1 hi1 c1 ks) (h2 : SiteC w lo2 hi2 c2 ks) :
    Calls Tryz.prog 13 #[.agg #[c1], .agg #[c2]] w fun e w' => e = .returned (.bool true) ∧ Below w.heap.size w w' := by
  obtain ⟨T1, r1, _⟩ := SiteC_rd h1
  obtain ⟨T2, r2, _⟩ := SiteC_rd h2
  obtain ⟨A1, cp1, rfl, _, _⟩ := RdK_at r1
  obtain ⟨A2, cp2, rfl, _, _⟩ := RdK_at r2
  clear r1 r2
  have H1 := Lib.hid h1; clear h1
  have H2 := Lib.hid h2; clear h2
  go_enter Tryz.func13, Tryz.ntmps13
  go_wp2_with fail
  refine (intactKs_same _ _ ks _ _ _ _ _ (SiteC_kept H1.out (by go_grown)) (SiteC_kept H2.out (by go_grown))).mono ?_
  rintro e w1 ⟨rfl, hb1⟩
  have b1 := kept_trans (a := w) (by go_grown) hb1
  go_wp2
  go_ret
  exact ⟨rfl, b1⟩

theorem map_at {T ks : List (Cr × Value)} (h : T.map (·.1) = ks.map (·.1)) : T.length = ks.length ∧ ∀ i (h1 : i < T.length) (h2 : i < ks.length), T[i].1 = ks[i].1 := by
  refine ⟨by have := congrArg List.length h; simpa using this, fun i h1 h2 => ?_⟩
  have := congrArg (·[i]?) h
  simpa [h1, h2] using this

theorem siteP_map {T ks : List (Cr × Value)} (h : T.map (·.1) = ks.map (·.1)) (hp : SiteP T) : SiteP ks := by
  obtain ⟨hl, he⟩ := map_at h
  obtain ⟨h1, h2, h3⟩ := hp
  refine ⟨fun i hi hn => ?_, by omega, by omega⟩
  have g := h1 i (by omega) (by omega)
  rw [he i (by omega) hi] at g
  refine ⟨g.1, fun j hj hji => ?_⟩
  have := g.2 j (by omega) hji
  rw [he j (by omega) hj] at this
  exact this

theorem siteB_map {T ks : List (Cr × Value)} (h : T.map (·.1) = ks.map (·.1)) : siteB T = siteB ks := by
  unfold siteB
  congr 1
  exact propext ⟨siteP_map h, siteP_map h.symm⟩

theorem names_map {T ks : List (Cr × Value)} (h : T.map (·.1) = ks.map (·.1)) (hn : ∀ p ∈ ks, p.1.nm.size ≤ 1000000) : ∀ p ∈ T, p.1.nm.size ≤ 1000000 := by
  intro p hp
  have : p.1 ∈ T.map (·.1) := List.mem_map.2 ⟨p, hp, rfl⟩
  rw [h] at this
  obtain ⟨q, hq, e⟩ := List.mem_map.1 this
  rw [← e]
  exact hn q hq

/-- The three variables hold errors. -/
def Ers (w : World) : Prop := ErrVar w 0 ∧ ErrVar w 1 ∧ ErrVar w 2

theorem Ers_kept {W w1 : World} (h : Ers W) (hb : Below W.heap.size W w1) : Ers w1 := ⟨ErrVar_kept h.1 hb, ErrVar_kept h.2.1 hb, ErrVar_kept h.2.2 hb⟩

theorem implVS_any (c : Value) (T ks : List (Cr × Value)) (w : World) (h : RdK w c T) (hcap : ∃ A cp, c = .slice A T.length cp ∧ T.length ≤ cp) (hm : T.map (·.1) = ks.map (·.1)) (hn : ∀ p ∈ ks, p.1.nm.size ≤ 1000000) (he : Ers w) :
    Calls Tryz.prog 38 #[.agg #[c]] w fun e w' => e = .returned (.bool (siteB ks)) ∧ Below w.heap.size w w' := by
  rw [← siteB_map hm]
  obtain ⟨A, cp, rfl, hc⟩ := hcap
  obtain ⟨⟨g1, t1, p1, c1⟩, ⟨g2, t2, p2, c2⟩, g3, t3, p3, c3⟩ := he
  exact implSite_any A cp T _ _ _ w h hc (names_map hm hn) ⟨⟨g1, c1⟩, ⟨g2, c2⟩, g3, c3⟩ ⟨_, _, rfl⟩ ⟨_, _, rfl⟩ ⟨_, _, rfl⟩

theorem SiteC_use {w : World} {lo hi : Nat} {v : Value} {ks : List Cr} (h : SiteC w lo hi v ks) : ∃ T : List (Cr × Value), RdK w v T ∧ (∃ A cp, v = .slice A T.length cp ∧ T.length ≤ cp) ∧ T.map (·.1) = ks := by
  obtain ⟨T, hR, hT⟩ := SiteC_rd h
  obtain ⟨g, _, _, e, _, _, _, _⟩ := SiteC_open h
  have hl : T.length = ks.length := by rw [← hT]; simp
  exact ⟨T, hR, ⟨_, _, by rw [e, hl], by omega⟩, hT⟩

/-- Nothing that lay before is otherwise, but in the blocks from lo up to hi. -/
structure Within (lo hi : Nat) (w w' : World) : Prop where
  os : w'.os = w.os
  tape : w'.tape = w.tape
  output : w'.output = w.output
  size : w.heap.size ≤ w'.heap.size
  block : ∀ k, k < w.heap.size → (k < lo ∨ hi ≤ k) → w'.heap[k]? = w.heap[k]?

theorem Within_refl (lo hi : Nat) (w : World) : Within lo hi w w := ⟨rfl, rfl, rfl, Nat.le_refl _, fun _ _ _ => rfl⟩

theorem Within_trans {lo hi : Nat} {a b c : World} (h : Within lo hi a b) (k : Within lo hi b c) : Within lo hi a c :=
  ⟨k.os.trans h.os, k.tape.trans h.tape, k.output.trans h.output, Nat.le_trans h.size k.size, fun i hi hn => (k.block i (Nat.lt_of_lt_of_le hi h.size) hn).trans (h.block i hi hn)⟩

theorem Within_below {lo hi : Nat} {a b : World} (h : Below a.heap.size a b) : Within lo hi a b := ⟨h.os, h.tape, h.output, h.size, fun i hi _ => h.block i hi⟩

theorem Within_grown {lo hi : Nat} {a b : World} {row : Option Nat} (h : a.grownBy b row) (hr : ∀ g, row = some g → lo ≤ g ∧ g < hi) : Within lo hi a b :=
  ⟨h.os, h.tape, h.output, h.size, fun i hi' hn => h.block i hi' (fun e => by have := hr i e.symm; omega)⟩

/-- What lay before a point is as it was. -/
theorem Below_within {lo hi B : Nat} {a b c : World} (h : Below B a b) (k : Within lo hi b c) (hB : B ≤ lo) (hs : B ≤ a.heap.size) : Below B a c :=
  ⟨k.os.trans h.os, k.tape.trans h.tape, k.output.trans h.output, Nat.le_trans h.size k.size, fun i hi => (k.block i (by have := h.size; omega) (by omega)).trans (h.block i hi)⟩

theorem own_within {W w1 : World} {lo hi base : Nat} {e : TypeId} {size : Nat} {v : Value} {n : Nat} {xs : List Value} (h : W.ownsRow base e size v n xs) (k : Within lo hi W w1) (hd : ∀ g, v.ownBlock = some g → g < lo ∨ hi ≤ g) : w1.ownsRow base e size v n xs := by
  refine ⟨h.1, ?_⟩
  rcases h.2 with h2 | ⟨g, cap, cur, hv, hg, hh, r⟩
  · exact Or.inl h2
  · refine Or.inr ⟨g, cap, cur, hv, hg, ?_, r⟩
    rw [k.block g (h.lt g (by rw [hv]; rfl)).2 (hd g (by rw [hv]; rfl))]
    exact hh

theorem RowI_within {W w1 : World} {lo hi lo' hi' : Nat} {v : Value} {zs : List Int} (h : RowI W lo' hi' v zs) (k : Within lo hi W w1) (hd : hi' ≤ lo ∨ hi ≤ lo') : RowI w1 lo' hi' v zs :=
  ⟨own_within h.1 k (fun g hg => by have := h.2 g hg; omega), h.2⟩

theorem CopyC_far {W w1 : World} {lo hi : Nat} {v : Value} {zs : List (Int × Int)} {row : Option Nat} (h : CopyC W lo hi v zs) (hg : W.grownBy w1 row) (hr : row ≠ some (blkOf v)) : CopyC w1 lo hi v zs := by
  obtain ⟨hl, g, rfl, hr'⟩ := h
  refine ⟨hl, g, rfl, hr'.1.kept hg (Or.inr fun e => hr ?_), hr'.2⟩
  rw [← e]
  rfl

/-- How many steps the charts of cranes have. -/
def chS : List Cr → Nat
  | [] => 0
  | k :: ks => k.ch.length + chS ks

theorem chS_step (ks : List Cr) (i : Nat) (h : i < ks.length) : chS (ks.drop i) = ks[i].ch.length + chS (ks.drop (i + 1)) := by
  rw [List.drop_eq_getElem_cons h]
  rfl

theorem chS_tot (ks : List (Cr × Value)) : chS (ks.map (·.1)) ≤ totK ks := by
  induction ks with
  | nil => simp [chS, totK]
  | cons p ks ih =>
    simp only [List.map_cons, chS, totK]
    omega

theorem chS_mem {ks : List Cr} {k : Cr} (h : k ∈ ks) : k.ch.length ≤ chS ks := by
  induction ks with
  | nil => cases h
  | cons q ks ih =>
    simp only [chS]
    rcases List.mem_cons.1 h with rfl | h
    · omega
    · have := ih h
      omega

/-- Six cells of a crane are stored anew. -/
abbrev set6 (w : World) (g o : Nat) (u0 u1 u2 u3 u4 u5 : Value) : World := (((((w.setCell ⟨g, o, none⟩ u0).setCell ⟨g, o + 1, none⟩ u1).setCell ⟨g, o + 2, none⟩ u2).setCell ⟨g, o + 3, none⟩ u3).setCell ⟨g, o + 4, none⟩ u4).setCell ⟨g, o + 5, none⟩ u5

theorem set6_own {w : World} {lo e g n cap : Nat} {xs : List Value} (h : w.ownsRow lo e 7 (.slice (some ⟨g, 0, none⟩) n cap) n xs) (o : Nat) (u0 u1 u2 u3 u4 u5 : Value) :
    ∃ xs', (set6 w g o u0 u1 u2 u3 u4 u5).ownsRow lo e 7 (.slice (some ⟨g, 0, none⟩) n cap) n xs' ∧ (∀ i, i < o ∨ o + 6 ≤ i → xs'[i]? = xs[i]?) ∧ w.grownBy (set6 w g o u0 u1 u2 u3 u4 u5) (some g) := by
  have s0 := h.stored o u0
  have s1 := s0.1.stored (o + 1) u1
  have s2 := s1.1.stored (o + 2) u2
  have s3 := s2.1.stored (o + 3) u3
  have s4 := s3.1.stored (o + 4) u4
  have s5 := s4.1.stored (o + 5) u5
  refine ⟨_, s5.1, fun i hi => ?_, grown_step (grown_step (grown_step (grown_step (grown_step s0.2 s1.2) s2.2) s3.2) s4.2) s5.2⟩
  rw [List.getElem?_set_ne (by omega), List.getElem?_set_ne (by omega), List.getElem?_set_ne (by omega), List.getElem?_set_ne (by omega), List.getElem?_set_ne (by omega), List.getElem?_set_ne (by omega)]

theorem set6_copy {w : World} {lo hi g o : Nat} {u0 u1 u2 u3 u4 u5 v : Value} {zs : List (Int × Int)} (h : CopyC w lo hi v zs) (hb : g < lo) : CopyC (set6 w g o u0 u1 u2 u3 u4 u5) lo hi v zs :=
  CopyC_set (CopyC_set (CopyC_set (CopyC_set (CopyC_set (CopyC_set h hb) hb) hb) hb) hb) hb

/-- What holds ahead of each round of marking. -/
def MarkI (ks : List Cr) (T : List (Cr × Value)) (g cap lo hi : Nat) (w : World) (j m : Nat) (wr : World) : Prop :=
  (1 ≤ m ∧ m + 6 * (ks.length - j) + 2 * chS (ks.drop j) ≤ 9000000) ∧ (∃ xs, wr.ownsRow lo 88 7 (.slice (some ⟨g, 0, none⟩) ks.length cap) ks.length xs ∧ ∀ i (h : i < T.length), xs[i * 7 + 6]? = some T[i].2) ∧
  (∀ i (h1 : i < T.length) (h2 : i < ks.length), j ≤ i → CopyC wr (g + 1) hi T[i].2 ks[i].ch) ∧ Within lo hi w wr

theorem MarkI_step {ks : List Cr} {T : List (Cr × Value)} {g cap lo hi : Nat} {w : World} {j m : Nat} {wr w1 w2 : World} {u0 u1 u2 u3 u4 u5 : Value} (hT : T.length = ks.length) (hg : lo ≤ g ∧ g < hi) (hp : T.Pairwise (fun p q => blkLt p.2 q.2)) (hj : j < ks.length) (h : MarkI ks T g cap lo hi w j m wr) (hb : Below wr.heap.size wr w1)
    (h2 : (set6 w1 g (j * 7) u0 u1 u2 u3 u4 u5).grownBy w2 (some (blkOf (T[j]'(by omega)).2))) : MarkI ks T g cap lo hi w (j + 1) (m + 6 + ks[j].ch.length * 2) w2 := by
  obtain ⟨⟨hm1, hm2⟩, ⟨xs, ho, hx⟩, hc, hw⟩ := h
  have hcj := hc j (by omega) hj (Nat.le_refl _)
  have hblk : g + 1 ≤ blkOf (T[j]'(by omega)).2 ∧ blkOf (T[j]'(by omega)).2 < hi := by
    obtain ⟨_, gj, e, hr⟩ := hcj
    rw [e]
    exact hr.2 gj rfl
  obtain ⟨xs', ho', hx', hg'⟩ := set6_own (own_kept ho hb) (j * 7) u0 u1 u2 u3 u4 u5
  rw [chS_step ks j hj] at hm2
  refine ⟨⟨by omega, by omega⟩, ⟨xs', ho'.kept h2 (Or.inr ?_), fun i hi => ?_⟩, fun i h1 h3 hji => ?_, ?_⟩
  · simp only [Value.ownBlock, ne_eq, Option.some.injEq]
    omega
  · rw [hx' _ (by omega)]
    exact hx i hi
  · refine CopyC_far (set6_copy (CopyC_kept (hc i h1 h3 (by omega)) hb) (by omega)) h2 ?_
    have := (List.pairwise_iff_getElem.1 hp) j i (by omega) h1 (by omega)
    simp only [blkLt] at this
    simp only [ne_eq, Option.some.injEq]
    omega
  · exact Within_trans hw (Within_trans (Within_below hb) (Within_trans (Within_grown hg' (fun g' e => by simp at e; omega)) (Within_grown h2 (fun g' e => by simp at e; omega))))

/-- The indices below n that are wanted. -/
def idxsL (p : Nat → Bool) : Nat → List Int
  | 0 => []
  | n + 1 => if p n then idxsL p n ++ [(n : Int)] else idxsL p n

theorem idxsL_len (p : Nat → Bool) (n : Nat) : (idxsL p n).length ≤ n := by
  induction n with
  | zero => simp [idxsL]
  | succ n ih =>
    unfold idxsL
    split
    · simp; omega
    · omega

theorem RowI_lo {w : World} {lo lo' hi hi' : Nat} {v : Value} {zs : List Int} (h : RowI w lo hi v zs) (hl : lo' ≤ lo) (hh : hi ≤ hi') : RowI w lo' hi' v zs :=
  ⟨Joins.ownsRow_le h.1 hl, fun g hg => ⟨by have := (h.2 g hg).1; omega, by have := (h.2 g hg).2; omega⟩⟩

theorem RowI_new (w : World) : RowI (w.alloc (.cells #[] 2)) w.heap.size (w.alloc (.cells #[] 2)).heap.size (.slice (some ⟨w.heap.size, 0, none⟩) 0 0) [] :=
  ⟨World.ownsRow_lit w #[] 0 (Nat.le_refl _) (by decide) (by rfl), fun g hg => by simp [Value.ownBlock] at hg; subst hg; simp⟩

theorem siteP_crane {T : List (Cr × Value)} (h : siteB T = true) : T.length ≤ 6 ∧ ∀ j (hj : j < T.length), craneB T[j].1 = true := by
  simp only [siteB, decide_eq_true_eq] at h
  exact ⟨h.2.2, fun j hj => (h.1 j hj hj).1⟩

theorem loadL_reach {k : Cr} {u v : Int} (hc : craneB k = true) (h : reachB k u v = true) : 0 ≤ loadL k.ch (distL k u v) := by
  have hk := (craneB_true hc).2.2.2.2.1
  simp only [reachB, decide_eq_true_eq] at h
  exact (loadL_bd hk ((find_last hk _).2 h)).1

theorem three (p0 p1 p2 : Bool) : p0 = false ∨ (p0 = true ∧ p1 = false) ∨ (p0 = true ∧ p1 = true ∧ p2 = false) ∨ (p0 = true ∧ p1 = true ∧ p2 = true) := by
  cases p0 <;> cases p1 <;> cases p2 <;> simp

theorem RdI_of (w : World) (g c : Nat) (zs : List Int) (hl : zs.length ≤ 9223372036854775807) (hg : g < w.heap.size) (hc : ∀ k, (hk : k < zs.length) → w.cell? ⟨g, k, none⟩ = some (.int .i64 zs[k])) : RdI w (.slice (some ⟨g, 0, none⟩) zs.length c) zs :=
  ⟨hl, _, _, rfl, fun k hk => ⟨g, 0, rfl, hg, by rw [Nat.zero_add]; exact hc k hk⟩⟩

theorem rdI1 {w : World} {g c : Nat} {x : Int} (hg : g < w.heap.size) (h0 : w.cell? ⟨g, 0, none⟩ = some (.int .i64 x)) : RdI w (.slice (some ⟨g, 0, none⟩) 1 c) [x] :=
  RdI_of w g c [x] (by simp) hg (fun k hk => by simp at hk; subst hk; exact h0)

set_option maxRecDepth 100000 in
theorem indexFuncI_any (v : Value) (zs : List Int) (g : FuncId) (he : Enters Tryz.prog g) (cap : Array Value) (p : Int → Bool) (w : World) (h : RdI w v zs)
    (hf : ∀ k (hk : k < zs.length) w1, Below w.heap.size w w1 → Calls Tryz.prog g (#[.int .i64 zs[k]] ++ cap) w1 fun e w2 => e = .returned (.bool (p zs[k])) ∧ Below w1.heap.size w1 w2) :
    Calls Tryz.prog 116 #[v, .func (.func g) #[] cap] w fun e w' => e = .returned (.int .i64 (idxL p zs)) ∧ Below w.heap.size w w' := by
  obtain ⟨hl, A, c, rfl, r1⟩ := h
  have R := Lib.hid r1; clear r1
  have Hf := Lib.hid hf; clear hf
  have HIS := Lib.hid (fun k (h : k < zs.length) => @idxL_is _ p zs k h)
  have HNO := Lib.hid (@idxL_none _ p zs)
  generalize idxL p zs = G at *
  go_enter Tryz.func116, Tryz.ntmps116
  go_wp2_with fail
  go_loopw [8] (fun i wr => ∃ k : Nat, k ≤ zs.length ∧ i = .int .i64 k ∧ (∀ j (hj : j < zs.length), j < k → p zs[j] = false) ∧ Below w.heap.size w wr) (fun i _ => zs.length - (intOf i).toNat)
  case atStart => exact ⟨0, by omega, rfl, fun j _ h => by omega, Below.refl _ _⟩
  case round =>
    obtain ⟨k, hk, rfl, hall, hb⟩ := hrel
    by_cases hlt : k < zs.length
    · obtain ⟨b, off, rfl, hbl, hc0⟩ := R.out k hlt
      rw [← kept_cell hb b _ hbl] at hc0
      have hc := Hf.out k hlt wr hb
      cases hp : p zs[k]
      · have hnx : ∀ j (hj : j < zs.length), j < k + 1 → p zs[j] = false := fun j hj hjk => by
          rcases Nat.lt_or_ge j k with h1 | h1
          · exact hall j hj h1
          · obtain rfl : j = k := by omega
            exact hp
        rw [hp] at hc
        have HNX := Lib.hid hnx; clear hnx hall hp
        have Hc := Lib.hid hc; clear hc
        generalize zs[k] = x at *
        go_wp2_with fail
        rw [he, Oper.upon_enter]
        refine Hc.out.mono ?_
        rintro e w1 ⟨rfl, hb1⟩
        go_wp2
        go_roundw
        case rel => exact ⟨k + 1, by omega, by go_num, HNX.out, kept_trans hb hb1⟩
        case measure => simp [intOf]; omega
      · have hE := HIS.out k hlt hp hall
        subst hE
        rw [hp] at hc
        have Hc := Lib.hid hc; clear hc hall hp
        generalize zs[k] = x at *
        go_wp2_with fail
        rw [he, Oper.upon_enter]
        refine Hc.out.mono ?_
        rintro e w1 ⟨rfl, hb1⟩
        go_wp2
        go_ret
        exact ⟨rfl, kept_trans hb hb1⟩
    · have : k = zs.length := by omega
      subst this
      have hE := HNO.out (fun j hj => hall j hj hj)
      clear hall
      subst hE
      go_wp2
      go_ret
      exact ⟨rfl, hb⟩

theorem containsFuncI_any (v : Value) (zs : List Int) (g : FuncId) (he : Enters Tryz.prog g) (cap : Array Value) (p : Int → Bool) (w : World) (h : RdI w v zs)
    (hf : ∀ k (hk : k < zs.length) w1, Below w.heap.size w w1 → Calls Tryz.prog g (#[.int .i64 zs[k]] ++ cap) w1 fun e w2 => e = .returned (.bool (p zs[k])) ∧ Below w1.heap.size w1 w2) :
    Calls Tryz.prog 109 #[v, .func (.func g) #[] cap] w fun e w' => e = .returned (.bool (zs.any p)) ∧ Below w.heap.size w w' := by
  have H := Lib.hid (indexFuncI_any v zs g he cap p w h hf)
  obtain ⟨hl, A, c, rfl, r1⟩ := h
  clear hf r1
  have hbd := idxL_bd p zs
  rw [← idxL_any]
  generalize idxL p zs = G at *
  go_enter Tryz.func109, Tryz.ntmps109
  go_wp2_with fail
  refine H.out.mono ?_
  rintro e w1 ⟨rfl, hb1⟩
  go_wp2
  go_ret
  exact ⟨rfl, hb1⟩

theorem outside_any (n lo hi : Int) (b1 b2 : Nat) (w : World) (h1 : w.cell? ⟨b1, 0, none⟩ = some (.int .i64 lo)) (h2 : w.cell? ⟨b2, 0, none⟩ = some (.int .i64 hi)) :
    Calls Tryz.prog 110 #[.int .i64 n, .pointer (some ⟨b1, 0, none⟩), .pointer (some ⟨b2, 0, none⟩)] w fun e w' => e = .returned (.bool (!inB n lo hi)) ∧ Below w.heap.size w w' := by
  unfold inB
  by_cases g1 : lo ≤ n <;> by_cases g2 : n ≤ hi
  all_goals
    go_enter Tryz.func110, Tryz.ntmps110
    go_wp2
    go_ret
    exact ⟨by simp [*], Below.refl _ _⟩

theorem within_any (lo hi : Int) (v : Value) (zs : List Int) (w : World) (h : RdI w v zs) :
    Calls Tryz.prog 93 #[.int .i64 lo, .int .i64 hi, v] w fun e w' => e = .returned (.bool (zs.all fun n => inB n lo hi)) ∧ Below w.heap.size w w' := by
  have hall : (zs.all fun n => inB n lo hi) = !(zs.any fun n => !inB n lo hi) := by simp [List.any_eq_not_all_not]
  rw [hall]
  clear hall
  have HC := Lib.hid (fun u (q : RdI u v zs) b1 b2 (l1 : b1 < u.heap.size) (l2 : b2 < u.heap.size) (c1 : u.cell? ⟨b1, 0, none⟩ = some (.int .i64 lo)) (c2 : u.cell? ⟨b2, 0, none⟩ = some (.int .i64 hi)) =>
    containsFuncI_any v zs 110 (enters_of Tryz.func110 (by kernel_rfl) rfl) #[.pointer (some ⟨b1, 0, none⟩), .pointer (some ⟨b2, 0, none⟩)] (fun n => !inB n lo hi) u q
      (fun k hk w1 hb => outside_any zs[k] lo hi b1 b2 w1 (by rw [kept_cell hb b1 0 l1]; exact c1) (by rw [kept_cell hb b2 0 l2]; exact c2)))
  obtain ⟨hl, A, c, rfl, r1⟩ := h
  have H := Lib.hid (show RdI w (.slice A zs.length c) zs from ⟨hl, A, c, rfl, r1⟩); clear r1
  generalize (zs.any fun n => !inB n lo hi) = X at *
  have hmf : ∀ (fn : Fn) (first cap : Array Value) (w : World), (Instr.makeFunc fn first cap).run Tryz.prog w = .ok (.func fn first cap) w := fun _ _ _ _ => rfl
  go_enter Tryz.func93, Tryz.ntmps93
  go_wp2_with fail
  refine (HC.out _ (RdI_kept H.out (by go_grown)) w.heap.size (w.heap.size + 1) (by simp; try omega) (by simp) (by simp) (by simp)).mono ?_
  rintro e w1 ⟨rfl, hb1⟩
  have b1 := kept_trans (a := w) (by go_grown) hb1
  go_wp2
  go_ret
  exact ⟨rfl, b1⟩

/-- A world in which all that was there in W stands as it was. -/
structure BelowBy (W : World) where
  w : World
  h : Below W.heap.size W w
instance belowBy_some (W : World) : Inhabited (BelowBy W) := ⟨⟨W, Below.refl _ _⟩⟩

/-- A region that draws its order, whose operations only read and whose callees only make memory: walked once. -/
theorem wp_region_below {P : Program} {id : Nat} {Q : Exit → Act → World → Prop} {a : Act} {w : World} {l : List Oper} (hm : P.follows .mixedOrders = true) (hB : Region.lexB .any l.toArray = true)
    (h : wpQuiet P l.toArray (fun w' => ∃ p : BelowBy w, w' = p.w) (fun a' => ∀ w', (∃ p : BelowBy w, w' = p.w) → Q .normal a' w') l a) : (Code.region id l.toArray true).wp P Q a w :=
  wp_region_quiet (C := fun w' => ∃ p : BelowBy w, w' = p.w) hm hB ⟨⟨{ w with drawn := w.drawn + 1 }, ⟨rfl, rfl, rfl, Nat.le_refl _, fun _ _ => rfl⟩⟩, rfl⟩ (by simpa using h)

theorem below_call {P : Program} {f : FuncId} {args : Array Value} {W : World} {x : BelowBy W} {v : Value}
    (h : Below W.heap.size W x.w → Calls P f args x.w fun e w' => e = .returned v ∧ Below x.w.heap.size x.w w') : Calls P f args x.w fun e w'' => e = .returned v ∧ ∃ p : BelowBy W, w'' = p.w :=
  (h x.h).mono fun _ w' ⟨he, hb⟩ => ⟨he, ⟨w', kept_trans x.h hb⟩, rfl⟩

theorem rdI0' (w : World) : RdI w (.slice none 0 0) [] := ⟨by simp, none, 0, rfl, fun k hk => by simp at hk⟩

/-- A slice of numbers that came in, opened. -/
theorem open_i64s {H : Type} {enc : TypeId × Value → H} {P : Program} {W : World} {r : Reach} {b0 base : Nat} {t e : TypeId} {v : Value} {d : DataW H} {p : List MemPlace}
    (ht : P.underlying t = some (.slice e)) (he : P.underlying e = some (.int .i64)) (hc : P.cellsOf e = 1) (hv : Value.okWide P W r b0 t v) (hd : DataW.Trod enc P W base (fun _ => true) true t v d p) :
    ∃ zs : List Int, RdI W v zs ∧ zs.length ≤ maxLen ∧ DataLen d zs.length := by
  obtain ⟨A, n, c, rfl⟩ := okWide_slice ht hv
  obtain ⟨fuel, hf⟩ := hd
  rcases Deep.open_slice1 ht hc (show DataW.trod enc P W base (fun _ => true) true fuel t [.slice A n c] = some (d, p) from by simpa [Value.cells] using hf) with ⟨hcs, hx⟩ | ⟨a, len, cap, m, n', V, D, Pl, hcs, _, hl, hm, hmm, hx, hi⟩
  · simp only [List.cons.injEq, and_true, Value.slice.injEq] at hcs
    obtain ⟨rfl, rfl, rfl⟩ := hcs
    exact ⟨[], rdI0' W, by simp, Or.inl ⟨congrArg Prod.fst hx, rfl⟩⟩
  · simp only [List.cons.injEq, and_true, Value.slice.injEq] at hcs
    obtain ⟨rfl, rfl, rfl⟩ := hcs
    simp only [if_true] at hmm
    have each : ∀ i, i < n → ∃ q : Int, V i = .int .i64 q := by
      intro i hlt
      obtain ⟨_, g0⟩ := hi i (by omega)
      obtain ⟨x, e0, _, _⟩ := DataW.trod_int he g0
      simp at e0
      exact ⟨x, e0⟩
    obtain ⟨q, hq⟩ := Deep.choose_lt each
    obtain ⟨b, off, spot⟩ := a
    refine ⟨(List.range n).map q, ⟨by simp; unfold maxLen at hm; omega, some ⟨b, off, spot⟩, c, by simp, fun j hj => ?_⟩, by simp; omega, Or.inr ⟨_, _, congrArg Prod.fst hx, by simp⟩⟩
    simp only [List.length_map, List.length_range] at hj
    obtain ⟨h0, _⟩ := hi j (by omega)
    have hspot : spot = none := by simpa [Addr.add] using World.cell?_spot (hi 0 (by omega)).1
    subst hspot
    rw [add_plain, hq j hj] at h0
    exact ⟨b, off, rfl, World.block_lt_of_cell? _ _ h0, by rw [h0]; simp⟩

def fillI : Int := -7000000000000000101

def copyI (zs : List Int) : List Int := zs ++ List.replicate (roomL zs.length) fillI

theorem copyI_len (zs : List Int) : (copyI zs).length = zs.length + roomL zs.length := by simp [copyI]

theorem copyI_at (zs : List Int) (j : Nat) : (h : j < zs.length) → (copyI zs)[j]'(by rw [copyI_len]; omega) = zs[j] := by
  intro h
  simp [copyI, h]

theorem copyI_fill (zs : List Int) (j : Nat) (h : zs.length ≤ j) : (h2 : j < (copyI zs).length) → (copyI zs)[j] = fillI := by
  intro h2
  simp [copyI, h]

/-- A copy of a list of numbers that the law made. -/
def CopyI (w : World) (lo hi : Nat) (v : Value) (zs : List Int) : Prop :=
  zs.length ≤ 1000000 ∧ ∃ g, v = .slice (some ⟨g, 0, none⟩) zs.length (copyI zs).length ∧ RowI w lo hi (.slice (some ⟨g, 0, none⟩) (copyI zs).length (copyI zs).length) (copyI zs)

theorem CopyI_kept {W w1 : World} {lo hi : Nat} {v : Value} {zs : List Int} (h : CopyI W lo hi v zs) (hb : Below W.heap.size W w1) : CopyI w1 lo hi v zs := by
  obtain ⟨hl, g, e, hr⟩ := h
  exact ⟨hl, g, e, RowI_kept hr hb⟩

theorem CopyI_rd {w : World} {lo hi : Nat} {v : Value} {zs : List Int} (h : CopyI w lo hi v zs) : RdI w v zs := by
  obtain ⟨hl, g, rfl, hr⟩ := h
  obtain ⟨h1, A, c, e, h2⟩ := RowI_rd hr
  injection e with e1 e2 e3
  subst e1
  refine ⟨by omega, _, _, rfl, fun k hk => ?_⟩
  obtain ⟨b, off, e4, h3, h4⟩ := h2 k (by rw [copyI_len]; omega)
  refine ⟨b, off, e4, h3, ?_⟩
  rw [h4]
  simp [copyI, hk]

theorem make_i64s (n : Nat) (h : n ≤ 4000000) (w : World) :
    (Instr.makeSlice 27 (.int .i64 (n : Int)) (.int .i64 (n : Int))).run Tryz.prog w = .ok (.slice (some ⟨w.heap.size, 0, none⟩) n n) (w.alloc (.cells (madeCells #[.int .i64 0] (n * 1)) 2)) := by
  obtain ⟨i, hi, hz, hs, hb⟩ := info_parts info_int64
  have hb' : (i.bytes : Int) * (n : Int) ≤ 281474976710656 := by rw [hb]; omega
  have hr := run_make (P := Tryz.prog) w 27 2 i (.int .i64 0) Tryz.underlying27 hi hz .i64 .i64 n n (by omega) (Int.le_refl _) hb' (by omega)
  simp only [Int.toNat_natCast, hs] at hr
  exact hr

theorem madeI_flat (n : Nat) : (madeCells #[.int .i64 0] (n * 1)).toList = (List.replicate n (0 : Int)).map (Value.int .i64) := by
  apply List.ext_getElem?
  intro j
  by_cases hj : j < n
  · simp [madeCells, hj, Nat.mod_one]
  · rw [List.getElem?_eq_none (by rw [Array.length_toList, size_madeCells]; omega), List.getElem?_eq_none (by simp; omega)]

set_option maxHeartbeats 1000000 in
theorem toI_row (v : Value) (zs : List Int) (bare : Bool) (w : World) (h : RdI w v zs) (hn : zs.length ≤ 1000000) (hbare : bare = false ∨ zs ≠ []) :
    Calls Tryz.prog 37 #[v, .bool bare] w fun e w' => ∃ v', e = .returned v' ∧ CopyI w' w.heap.size w'.heap.size v' zs ∧ Below w.heap.size w w' := by
  obtain ⟨hl, A, c, rfl, r1⟩ := h
  have R := Lib.hid r1; clear r1
  have hN := copyI_len zs
  have hr := roomL_le zs.length
  have hmk : ∀ w : World, (Instr.makeSlice 27 (.int .i64 ((zs.length : Int) + (roomL zs.length : Int))) (.int .i64 ((zs.length : Int) + (roomL zs.length : Int)))).run Tryz.prog w = .ok (.slice (some ⟨w.heap.size, 0, none⟩) (copyI zs).length (copyI zs).length) (w.alloc (.cells (madeCells #[.int .i64 0] ((copyI zs).length * 1)) 2)) := by
    intro w
    have := make_i64s (copyI zs).length (by omega) w
    rwa [show (((copyI zs).length : Nat) : Int) = (zs.length : Int) + (roomL zs.length : Int) by omega] at this
  have hcap : (copyI zs).length ≤ maxLen := by unfold maxLen; omega
  have hrow0 : ∀ wa : World, w.heap.size ≤ wa.heap.size → (wa.alloc (.cells (madeCells #[.int .i64 0] ((copyI zs).length * 1)) 2)).ownsRow w.heap.size 2 1 (.slice (some ⟨wa.heap.size, 0, none⟩) (copyI zs).length (copyI zs).length) (copyI zs).length (((copyI zs).take 0 ++ List.replicate ((copyI zs).length - 0) 0).map (Value.int .i64)) := by
    intro wa hwa
    have := World.ownsRow_lit wa (e := 2) (size := 1) (madeCells #[.int .i64 0] ((copyI zs).length * 1)) (copyI zs).length hwa hcap (size_madeCells _ _)
    rw [madeI_flat] at this
    simpa using this
  have Hrow := Lib.hid hrow0; clear hrow0
  have hb0 : bare = true → ((zs.length : Int) == 0) = false := by
    intro hb
    have : zs.length ≠ 0 := fun h => by
      rcases hbare with h1 | h1
      · rw [hb] at h1; cases h1
      · exact h1 (List.eq_nil_of_length_eq_zero h)
    simpa using this
  clear hbare
  generalize hNN : (copyI zs).length = N at *
  have HNN := Lib.hid hNN; clear hNN
  have hNb : N ≤ 2000002 ∧ zs.length ≤ N := by omega
  have HN := Lib.hid hN; clear hN
  cases bare
  all_goals
    have hbn := hb0
    simp only [forall_const, reduceCtorEq, false_implies, Bool.false_eq_true] at hbn
    clear hb0
    go_enter Tryz.func37, Tryz.ntmps37
    go_wp2_with (go_at_call 48; refine (room_any _ (by omega) _).mono ?_; rintro e w1 ⟨rfl, rfl⟩)
    go_loopw [6] (fun i wr => ∃ j : Nat, j ≤ zs.length ∧ i = .int .i64 j ∧ wr.ownsRow w.heap.size 2 1 (.slice (some ⟨w.heap.size, 0, none⟩) N N) N (((copyI zs).take j ++ List.replicate (N - j) 0).map (Value.int .i64)) ∧ Below w.heap.size w wr) (fun i _ => zs.length - (intOf i).toNat)
    case atStart => exact ⟨0, by omega, rfl, by have := Hrow.out w (Nat.le_refl _); rw [Nat.mul_one] at this; exact this, by go_grown⟩
    case round =>
      obtain ⟨j, hj, rfl, hown, hb⟩ := hrel
      have hsz := hb.size
      by_cases hlt : j < zs.length
      · obtain ⟨b, off, rfl, hbl, hc0⟩ := R.out j hlt
        rw [← kept_cell hb b _ hbl] at hc0
        have hstep := fill_step (copyI zs) (0 : Int) j (by rw [HNN.out]; omega)
        rw [copyI_at zs j hlt, HNN.out] at hstep
        generalize zs[j] = z at *
        have hlen : (((copyI zs).take j ++ List.replicate (N - j) 0).map (Value.int .i64)).length = N * 1 := hown.1
        obtain ⟨u0, hu0⟩ : ∃ u, wr.cell? ⟨w.heap.size, j, none⟩ = some u := by
          rw [hown.cellAt _ (by omega)]
          exact ⟨_, List.getElem?_eq_getElem (by omega)⟩
        have hz0 := hown.frozenAt j
        have hs0 := hown.stored j (.int .i64 z)
        rw [← List.map_set, hstep] at hs0
        have Hs := Lib.hid hs0.1
        have Hg := Lib.hid hs0.2
        clear hs0 hstep hown hlen
        go_wp2
        go_roundw
        case rel => exact ⟨j + 1, by omega, by go_num, Hs.out, grown_below hb Hg.out (fun g hg => by simp at hg; omega)⟩
        case measure => simp [intOf]; omega
      · have : j = zs.length := by omega
        subst this
        go_wp2_with fail
        go_loopw [7] (fun i wr => ∃ j : Nat, zs.length ≤ j ∧ j ≤ N ∧ i = .int .i64 j ∧ wr.ownsRow w.heap.size 2 1 (.slice (some ⟨w.heap.size, 0, none⟩) N N) N (((copyI zs).take j ++ List.replicate (N - j) 0).map (Value.int .i64)) ∧ Below w.heap.size w wr) (fun i _ => N - (intOf i).toNat)
        case atStart => exact ⟨zs.length, by omega, by omega, rfl, hown, hb⟩
        case round =>
          obtain ⟨j, hj0, hj, rfl, hown, hb⟩ := hrel
          have hsz := hb.size
          by_cases hlt : j < N
          · have hstep := fill_step (copyI zs) (0 : Int) j (by rw [HNN.out]; omega)
            rw [copyI_fill zs j hj0 (by rw [HNN.out]; omega), HNN.out] at hstep
            have hlen : (((copyI zs).take j ++ List.replicate (N - j) 0).map (Value.int .i64)).length = N * 1 := hown.1
            obtain ⟨u0, hu0⟩ : ∃ u, wr.cell? ⟨w.heap.size, j, none⟩ = some u := by
              rw [hown.cellAt _ (by omega)]
              exact ⟨_, List.getElem?_eq_getElem (by omega)⟩
            have hz0 := hown.frozenAt j
            have hs0 := hown.stored j (.int .i64 fillI)
            rw [← List.map_set, hstep] at hs0
            have Hs := Lib.hid hs0.1
            have Hg := Lib.hid hs0.2
            clear hs0 hstep hown hlen
            go_wp2
            go_roundw
            case rel => exact ⟨j + 1, by omega, by omega, by go_num, Hs.out, grown_below hb Hg.out (fun g hg => by simp at hg; omega)⟩
            case measure => simp [intOf]; omega
          · have : j = N := by omega
            subst this
            have Hown := Lib.hid hown; clear hown
            go_wp2
            go_ret
            have hT : (copyI zs).take j ++ List.replicate (j - j) 0 = copyI zs := by rw [List.take_of_length_le (by rw [HNN.out]; exact Nat.le_refl _)]; simp
            refine ⟨_, rfl, ⟨hn, w.heap.size, by rw [HNN.out]; rfl, ?_⟩, hb⟩
            have hO := Hown.out
            rw [hT] at hO
            unfold RowI
            rw [HNN.out]
            exact ⟨hO, fun g hg => by simp [Value.ownBlock] at hg; subst hg; exact ⟨Nat.le_refl _, (hO.lt _ rfl).2⟩⟩

theorem toI_false (v : Value) (zs : List Int) (w : World) (h : RdI w v zs) (hn : zs.length ≤ 1000000) :
    Calls Tryz.prog 37 #[v, .bool false] w fun e w' => ∃ v', e = .returned v' ∧ CopyI w' w.heap.size w'.heap.size v' zs ∧ Below w.heap.size w w' := toI_row v zs false w h hn (Or.inl rfl)

theorem intactI_same (v1 v2 : Value) (zs : List Int) (lo1 hi1 lo2 hi2 : Nat) (w : World) (h1 : CopyI w lo1 hi1 v1 zs) (h2 : CopyI w lo2 hi2 v2 zs) :
    Calls Tryz.prog 44 #[v1, v2] w fun e w' => e = .returned (.bool true) ∧ Below w.heap.size w w' := by
  obtain ⟨hn, g1, rfl, r1⟩ := h1
  obtain ⟨_, g2, rfl, r2⟩ := h2
  have q1 : RdI w _ (copyI zs) := RowI_rd r1
  have q2 : RdI w _ (copyI zs) := RowI_rd r2
  clear r1 r2
  have hN := copyI_len zs
  have hr := roomL_le zs.length
  generalize hT : copyI zs = T at *
  clear hT
  have Q1 := Lib.hid q1; clear q1
  have Q2 := Lib.hid q2; clear q2
  generalize hTl : T.length = N at *
  have hN' : (zs.length : Int) + (roomL zs.length : Int) = (N : Int) := by omega
  have hcap : zs.length ≤ N := by omega
  clear hN
  go_enter Tryz.func44, Tryz.ntmps44
  go_wp2_with (go_at_call 48; refine (room_any _ (by omega) _).mono ?_; rintro e w1 ⟨rfl, rfl⟩)
  go_region_held3 (fun _ => True) (trivial)
    ((go_at_call 12; refine (eqInts_same _ _ T _ (by exact Q1.out) (by exact Q2.out)).mono ?_; rintro e w1 ⟨rfl, hb1⟩; replace hb1 := kept_trans (a := w) (by go_grown) hb1))
  go_wp2
  go_ret
  exact ⟨rfl, by assumption⟩

theorem RdI_slice {w : World} {v : Value} {zs : List Int} (h : RdI w v zs) : ∃ A c, v = .slice A zs.length c ∧ zs.length ≤ 9223372036854775807 ∧
    ∀ k, (hk : k < zs.length) → ∃ b off, A = some ⟨b, off, none⟩ ∧ b < w.heap.size ∧ w.cell? ⟨b, off + k, none⟩ = some (.int .i64 zs[k]) := by
  obtain ⟨hl, A, c, rfl, hr⟩ := h
  exact ⟨A, c, rfl, hl, hr⟩

theorem RowI_set {w : World} {lo hi b o : Nat} {v u : Value} {zs : List Int} (h : RowI w lo hi v zs) (hb : b < lo) : RowI (w.setCell ⟨b, o, none⟩ u) lo hi v zs :=
  RowI_far h (grown_set _ _ _) (fun g hg => by simp at hg; omega)

theorem CopyI_row {w : World} {lo hi : Nat} {v : Value} {zs : List Int} (h : CopyI w lo hi v zs) : RowI w lo hi v zs := by
  obtain ⟨hl, g, rfl, hr⟩ := h
  have hF : RowF 2 1 w lo hi (.slice (some ⟨g, 0, none⟩) (copyI zs).length (copyI zs).length) (copyI zs).length ((copyI zs).map (Value.int .i64)) := hr
  have := RowF_short hF (n := zs.length) (by rw [copyI_len]; omega)
  have e : ((copyI zs).map (Value.int .i64)).take (zs.length * 1) = zs.map (Value.int .i64) := by
    rw [Nat.mul_one, ← List.map_take]
    simp [copyI]
  rw [e] at this
  exact this

theorem CopyI_set {w : World} {lo hi b o : Nat} {v u : Value} {zs : List Int} (h : CopyI w lo hi v zs) (hb : b < lo) : CopyI (w.setCell ⟨b, o, none⟩ u) lo hi v zs := by
  obtain ⟨hl, g, e, hr⟩ := h
  exact ⟨hl, g, e, RowI_set hr hb⟩

theorem CopyI_lo {w : World} {lo lo' hi hi' : Nat} {v : Value} {zs : List Int} (h : CopyI w lo hi v zs) (hl : lo' ≤ lo) (hh : hi ≤ hi') : CopyI w lo' hi' v zs := by
  obtain ⟨hn, g, e, hr⟩ := h
  exact ⟨hn, g, e, RowI_lo hr hl hh⟩

theorem CopyI_within {W w1 : World} {lo hi lo' hi' : Nat} {v : Value} {zs : List Int} (h : CopyI W lo' hi' v zs) (k : Within lo hi W w1) (hd : hi' ≤ lo ∨ hi ≤ lo') : CopyI w1 lo' hi' v zs := by
  obtain ⟨hl, g, e, hr⟩ := h
  exact ⟨hl, g, e, RowI_within hr k hd⟩

/-- A lift's fields. -/
structure Lf where
  nm : ByteArray
  wt : Int
  fx : Int
  fy : Int
  tx : Int
  ty : Int
  h : Int
  dl : Int
  af : List Int

/-- A lift, cell by cell; c: the slice of what it is after. -/
def encLf (p : Lf × Value) : List Value := [.string p.1.nm, .int .i64 p.1.wt, .int .i64 p.1.fx, .int .i64 p.1.fy, .int .i64 p.1.tx, .int .i64 p.1.ty, .int .i64 p.1.h, .int .i64 p.1.dl, p.2]

def wfLf (k : Lf) : Prop := k.nm.size ≤ maxLen ∧ (Lit.int .i64 k.wt).wf = true ∧ (Lit.int .i64 k.fx).wf = true ∧ (Lit.int .i64 k.fy).wf = true ∧ (Lit.int .i64 k.tx).wf = true ∧ (Lit.int .i64 k.ty).wf = true ∧ (Lit.int .i64 k.h).wf = true ∧ (Lit.int .i64 k.dl).wf = true

/-- A lift lies at a place. -/
def LfAt (w : World) (b o : Nat) (k : Lf) (c : Value) : Prop :=
  b < w.heap.size ∧ (w.cell? ⟨b, o, none⟩ = some (.string k.nm) ∧ w.cell? ⟨b, o + 1, none⟩ = some (.int .i64 k.wt) ∧ w.cell? ⟨b, o + 2, none⟩ = some (.int .i64 k.fx) ∧ w.cell? ⟨b, o + 3, none⟩ = some (.int .i64 k.fy) ∧ w.cell? ⟨b, o + 4, none⟩ = some (.int .i64 k.tx) ∧ w.cell? ⟨b, o + 5, none⟩ = some (.int .i64 k.ty) ∧ w.cell? ⟨b, o + 6, none⟩ = some (.int .i64 k.h) ∧ w.cell? ⟨b, o + 7, none⟩ = some (.int .i64 k.dl) ∧ w.cell? ⟨b, o + 8, none⟩ = some c) ∧ RdI w c k.af

theorem LfAt_kept {W w1 : World} {b o : Nat} {k : Lf} {c : Value} (h : LfAt W b o k c) (hb : Below W.heap.size W w1) : LfAt w1 b o k c := by
  obtain ⟨hlt, ⟨h0, h1, h2, h3, h4, h5, h6, h9, h8⟩, hr⟩ := h
  refine ⟨Nat.lt_of_lt_of_le hlt hb.size, ⟨?_, ?_, ?_, ?_, ?_, ?_, ?_, ?_, ?_⟩, RdI_kept hr hb⟩ <;> (rw [kept_cell hb b _ hlt]; assumption)

/-- What is left of a measure behind a lift; less than 0: too much. -/
def szLf (k : Lf) (left : Int) : Int := if (k.nm.size : Int) + (k.af.length : Int) ≤ left then left - k.nm.size - k.af.length else -1

theorem szI_any (A : Option Addr) (n c : Nat) (left : Int) (h : -9223372036854775808 ≤ left - n ∧ left ≤ 1000000) (hn : n ≤ 9223372036854775807) (w : World) :
    Calls Tryz.prog 31 #[.slice A n c, .int .i64 left] w fun e w' => e = .returned (.int .i64 (if (n : Int) ≤ left then left - n else -1)) ∧ w = w' := by
  by_cases h1 : (n : Int) ≤ left
  · rw [if_pos h1]
    go_enter Tryz.func31, Tryz.ntmps31
    go_wp2
    go_ret
    exact ⟨rfl, rfl⟩
  · rw [if_neg h1]
    go_enter Tryz.func31, Tryz.ntmps31
    go_wp2
    go_ret
    exact ⟨rfl, rfl⟩

theorem szLf_any (k : Lf) (c : Value) (left : Int) (h : 0 ≤ left ∧ left ≤ 1000000) (hs : k.nm.size ≤ maxLen) (w : World) (hr : RdI w c k.af) :
    Calls Tryz.prog 7 #[.agg #[.string k.nm, .int .i64 k.wt, .int .i64 k.fx, .int .i64 k.fy, .int .i64 k.tx, .int .i64 k.ty, .int .i64 k.h, .int .i64 k.dl, c], .int .i64 left] w fun e w' => e = .returned (.int .i64 (szLf k left)) ∧ Below w.heap.size w w' := by
  obtain ⟨A, cp, rfl, hl, _⟩ := RdI_slice hr
  clear hr
  unfold maxLen at hs
  unfold szLf
  obtain ⟨s, i1, i2, i3, i4, i5, i6, i7, zs⟩ := k
  dsimp only at *
  by_cases h1 : left < (s.size : Int)
  · rw [if_neg (by omega)]
    go_enter Tryz.func7, Tryz.ntmps7
    go_wp2
    go_ret
    exact ⟨rfl, by go_grown⟩
  · by_cases h2 : (s.size : Int) + (zs.length : Int) ≤ left
    · rw [if_pos h2]
      have e : (if (zs.length : Int) ≤ left - s.size then left - s.size - zs.length else -1) = left - s.size - zs.length := if_pos (by omega)
      go_enter Tryz.func7, Tryz.ntmps7
      go_wp2_with (go_at_call 31; refine ((szI_any _ _ _ _ (by omega) (by omega) _)).mono ?_; rintro e w1 ⟨rfl, rfl⟩)
      go_ret
      exact ⟨rfl, by go_grown⟩
    · rw [if_neg h2]
      go_enter Tryz.func7, Tryz.ntmps7
      go_wp2_with (go_at_call 31; refine ((szI_any _ _ _ _ (by omega) (by omega) _)).mono ?_; rintro e w1 ⟨rfl, rfl⟩)
      go_ret
      exact ⟨rfl, by go_grown⟩

theorem toI_bareR (v : Value) (zs : List Int) (w : World) (h : RdI w v zs) (hn : zs.length ≤ 1000000) :
    Calls Tryz.prog 37 #[v, .bool true] w fun e w' => ∃ v', e = .returned v' ∧ RowI w' w.heap.size w'.heap.size v' zs ∧ Below w.heap.size w w' := by
  by_cases hz : zs = []
  · subst hz
    obtain ⟨A, c, rfl, hl, _⟩ := RdI_slice h
    clear h
    go_enter Tryz.func37, Tryz.ntmps37
    go_wp2
    go_ret
    exact ⟨_, rfl, RowI_nil _ _ _, Below.refl _ _⟩
  · exact (toI_row v zs true w h hn (Or.inr hz)).mono fun e w' ⟨v', he, hc, hb⟩ => ⟨v', he, CopyI_row hc, hb⟩

theorem toLf_false (k : Lf) (c : Value) (w : World) (hr : RdI w c k.af) (hn : k.af.length ≤ 1000000) :
    Calls Tryz.prog 10 #[.agg #[.string k.nm, .int .i64 k.wt, .int .i64 k.fx, .int .i64 k.fy, .int .i64 k.tx, .int .i64 k.ty, .int .i64 k.h, .int .i64 k.dl, c], .bool false] w fun e w' => ∃ c', e = .returned (.agg #[.string k.nm, .int .i64 k.wt, .int .i64 k.fx, .int .i64 k.fy, .int .i64 k.tx, .int .i64 k.ty, .int .i64 k.h, .int .i64 k.dl, c']) ∧ CopyI w' w.heap.size w'.heap.size c' k.af ∧ Below w.heap.size w w' := by
  obtain ⟨A0, cp0, rfl, _, _⟩ := RdI_slice hr
  have H := Lib.hid hr; clear hr
  obtain ⟨s, i1, i2, i3, i4, i5, i6, i7, zs⟩ := k
  dsimp only at *
  go_enter Tryz.func10, Tryz.ntmps10
  go_wp2_with fail
  refine (toPoint_any _ _ _).mono ?_
  rintro e w1 ⟨rfl, b1⟩
  refine kept_at b1 (w.heap.size) (by go_size) fun c1_0 z1_0 s1_0 => ?_
  refine kept_at b1 (w.heap.size + 1) (by go_size) fun c1_1 z1_1 s1_1 => ?_
  refine kept_at b1 (w.heap.size + 2) (by go_size) fun c1_2 z1_2 s1_2 => ?_
  replace b1 := kept_trans (a := w) (by go_grown) b1
  have l1 := kept_cell b1
  have zz1 := b1.size
  go_wp2_with fail
  refine (toPoint_any _ _ _).mono ?_
  rintro e w2 ⟨rfl, b2⟩
  refine kept_at b2 (w.heap.size) (by go_size) fun c2_0 z2_0 s2_0 => ?_
  refine kept_at b2 (w.heap.size + 1) (by go_size) fun c2_1 z2_1 s2_1 => ?_
  refine kept_at b2 (w.heap.size + 2) (by go_size) fun c2_2 z2_2 s2_2 => ?_
  replace b2 := kept_trans (a := w) (by go_grown) b2
  have l2 := kept_cell b2
  have zz2 := b2.size
  go_wp2_with fail
  refine (toI_false _ zs _ (RdI_kept H.out (by go_grown)) hn).mono ?_
  rintro e w3 ⟨c', rfl, hc, hb3⟩
  obtain ⟨A1, cp1, rfl, _, _⟩ := RdI_slice (CopyI_rd hc)
  have HC := Lib.hid hc; clear hc
  refine kept_at hb3 (w.heap.size + 1) (by go_size) fun c3_1 z3_1 s3_1 => ?_
  refine kept_at hb3 (w.heap.size + 2) (by go_size) fun c3_2 z3_2 s3_2 => ?_
  have b3 := kept_trans (a := w) (by go_grown) hb3
  go_wp2
  (try simp only [Exit.inBlock, Exit.then])
  refine bodyPost_ret (v := .agg #[.string s, .int .i64 i1, .int .i64 i2, .int .i64 i3, .int .i64 i4, .int .i64 i5, .int .i64 i6, .int .i64 i7, .slice A1 zs.length cp1]) ?_ rfl ⟨_, rfl, ?_, ?_⟩
  · rw [results_cell1 rfl]
    go_simp
  · refine CopyI_lo (lo := w2.heap.size) ?_ (by omega) (show w3.heap.size ≤ _ by simp)
    have := HC.out
    simp only [World.size_setCell] at this
    exact CopyI_set (CopyI_set (CopyI_set (CopyI_set (CopyI_set (CopyI_set (CopyI_set (CopyI_set (CopyI_set (CopyI_set this (by omega)) (by omega)) (by omega)) (by omega)) (by omega)) (by omega)) (by omega)) (by omega)) (by omega)) (by omega)
  · go_grown

theorem toLf_true (k : Lf) (c : Value) (w : World) (hr : RdI w c k.af) (hn : k.af.length ≤ 1000000) :
    Calls Tryz.prog 10 #[.agg #[.string k.nm, .int .i64 k.wt, .int .i64 k.fx, .int .i64 k.fy, .int .i64 k.tx, .int .i64 k.ty, .int .i64 k.h, .int .i64 k.dl, c], .bool true] w fun e w' => ∃ c', e = .returned (.agg #[.string k.nm, .int .i64 k.wt, .int .i64 k.fx, .int .i64 k.fy, .int .i64 k.tx, .int .i64 k.ty, .int .i64 k.h, .int .i64 k.dl, c']) ∧ RowI w' w.heap.size w'.heap.size c' k.af ∧ Below w.heap.size w w' := by
  obtain ⟨A0, cp0, rfl, _, _⟩ := RdI_slice hr
  have H := Lib.hid hr; clear hr
  obtain ⟨s, i1, i2, i3, i4, i5, i6, i7, zs⟩ := k
  dsimp only at *
  go_enter Tryz.func10, Tryz.ntmps10
  go_wp2_with fail
  refine (toPoint_any _ _ _).mono ?_
  rintro e w1 ⟨rfl, b1⟩
  refine kept_at b1 (w.heap.size) (by go_size) fun c1_0 z1_0 s1_0 => ?_
  refine kept_at b1 (w.heap.size + 1) (by go_size) fun c1_1 z1_1 s1_1 => ?_
  refine kept_at b1 (w.heap.size + 2) (by go_size) fun c1_2 z1_2 s1_2 => ?_
  replace b1 := kept_trans (a := w) (by go_grown) b1
  have l1 := kept_cell b1
  have zz1 := b1.size
  go_wp2_with fail
  refine (toPoint_any _ _ _).mono ?_
  rintro e w2 ⟨rfl, b2⟩
  refine kept_at b2 (w.heap.size) (by go_size) fun c2_0 z2_0 s2_0 => ?_
  refine kept_at b2 (w.heap.size + 1) (by go_size) fun c2_1 z2_1 s2_1 => ?_
  refine kept_at b2 (w.heap.size + 2) (by go_size) fun c2_2 z2_2 s2_2 => ?_
  replace b2 := kept_trans (a := w) (by go_grown) b2
  have l2 := kept_cell b2
  have zz2 := b2.size
  go_wp2_with fail
  refine (toI_bareR _ zs _ (RdI_kept H.out (by go_grown)) hn).mono ?_
  rintro e w3 ⟨c', rfl, hc, hb3⟩
  obtain ⟨A1, cp1, rfl, _, _⟩ := RdI_slice (RowI_rd hc)
  have HC := Lib.hid hc; clear hc
  refine kept_at hb3 (w.heap.size + 1) (by go_size) fun c3_1 z3_1 s3_1 => ?_
  refine kept_at hb3 (w.heap.size + 2) (by go_size) fun c3_2 z3_2 s3_2 => ?_
  have b3 := kept_trans (a := w) (by go_grown) hb3
  go_wp2
  (try simp only [Exit.inBlock, Exit.then])
  refine bodyPost_ret (v := .agg #[.string s, .int .i64 i1, .int .i64 i2, .int .i64 i3, .int .i64 i4, .int .i64 i5, .int .i64 i6, .int .i64 i7, .slice A1 zs.length cp1]) ?_ rfl ⟨_, rfl, ?_, ?_⟩
  · rw [results_cell1 rfl]
    go_simp
  · refine RowI_lo (lo := w2.heap.size) ?_ (by omega) (show w3.heap.size ≤ _ by simp)
    have := HC.out
    simp only [World.size_setCell] at this
    exact RowI_set (RowI_set (RowI_set (RowI_set (RowI_set (RowI_set (RowI_set (RowI_set (RowI_set (RowI_set this (by omega)) (by omega)) (by omega)) (by omega)) (by omega)) (by omega)) (by omega)) (by omega)) (by omega)) (by omega)
  · go_grown

theorem intactLf_same (k : Lf) (c1 c2 : Value) (lo1 hi1 lo2 hi2 : Nat) (w : World) (h1 : CopyI w lo1 hi1 c1 k.af) (h2 : CopyI w lo2 hi2 c2 k.af) :
    Calls Tryz.prog 14 #[.agg #[.string k.nm, .int .i64 k.wt, .int .i64 k.fx, .int .i64 k.fy, .int .i64 k.tx, .int .i64 k.ty, .int .i64 k.h, .int .i64 k.dl, c1], .agg #[.string k.nm, .int .i64 k.wt, .int .i64 k.fx, .int .i64 k.fy, .int .i64 k.tx, .int .i64 k.ty, .int .i64 k.h, .int .i64 k.dl, c2]] w fun e w' => e = .returned (.bool true) ∧ Below w.heap.size w w' := by
  obtain ⟨A1, cp1, rfl, _, _⟩ := RdI_slice (CopyI_rd h1)
  obtain ⟨A2, cp2, rfl, _, _⟩ := RdI_slice (CopyI_rd h2)
  have H1 := Lib.hid h1; clear h1
  have H2 := Lib.hid h2; clear h2
  obtain ⟨s, i1, i2, i3, i4, i5, i6, i7, zs⟩ := k
  dsimp only at *
  go_enter Tryz.func14, Tryz.ntmps14
  go_wp2_with fail
  refine (eqPoint_same _ _ _).mono ?_
  rintro e w1 ⟨rfl, b1⟩
  refine kept_at b1 (w.heap.size) (by go_size) fun c1_0 z1_0 s1_0 => ?_
  refine kept_at b1 (w.heap.size + 1) (by go_size) fun c1_1 z1_1 s1_1 => ?_
  replace b1 := kept_trans (a := w) (by go_grown) b1
  have l1 := kept_cell b1
  have zz1 := b1.size
  go_wp2_with fail
  refine (eqPoint_same _ _ _).mono ?_
  rintro e w2 ⟨rfl, b2⟩
  refine kept_at b2 (w.heap.size) (by go_size) fun c2_0 z2_0 s2_0 => ?_
  refine kept_at b2 (w.heap.size + 1) (by go_size) fun c2_1 z2_1 s2_1 => ?_
  replace b2 := kept_trans (a := w) (by go_grown) b2
  have l2 := kept_cell b2
  have zz2 := b2.size
  go_wp2_with fail
  refine (intactI_same _ _ zs _ _ _ _ _ (CopyI_kept H1.out (by go_grown)) (CopyI_kept H2.out (by go_grown))).mono ?_
  rintro e w3 ⟨rfl, hb3⟩
  have b3 := kept_trans (a := w) (by go_grown) hb3
  go_wp2
  go_ret
  exact ⟨rfl, b3⟩

/-- Cells that read as a slice of numbers. -/
theorem open_i64C {H : Type} {enc : TypeId × Value → H} {P : Program} {W : World} {t e : TypeId} {base fuel : Nat} {sp : Nat → Bool} {held : Bool} {cs : List Value} {z : DataW H × List MemPlace}
    (ht : P.underlying t = some (.slice e)) (he : P.underlying e = some (.int .i64)) (hc : P.cellsOf e = 1) (h : DataW.trod enc P W base sp held fuel t cs = some z) :
    ∃ (v : Value) (zs : List Int), cs = [v] ∧ RdI W v zs := by
  rcases Deep.open_slice1 ht hc h with ⟨hcs, hx⟩ | ⟨a, len, cap, m, n', V, D, Pl, hcs, _, hl, hm, hmm, hx, hi⟩
  · exact ⟨_, [], hcs, rdI0' W⟩
  · have hlm : len ≤ m := by rw [hmm]; split <;> omega
    have each : ∀ i, i < len → ∃ q : Int, V i = .int .i64 q := by
      intro i hlt
      obtain ⟨_, g0⟩ := hi i (by omega)
      obtain ⟨x, e0, _, _⟩ := DataW.trod_int he g0
      simp at e0
      exact ⟨x, e0⟩
    obtain ⟨q, hq⟩ := Deep.choose_lt each
    obtain ⟨b, off, spot⟩ := a
    refine ⟨_, (List.range len).map q, hcs, by simp; unfold maxLen at hm; omega, some ⟨b, off, spot⟩, cap, by simp, fun j hj => ?_⟩
    simp only [List.length_map, List.length_range] at hj
    obtain ⟨h0, _⟩ := hi j (by omega)
    have hspot : spot = none := by simpa [Addr.add] using World.cell?_spot (hi 0 (by omega)).1
    subst hspot
    rw [add_plain, hq j hj] at h0
    exact ⟨b, off, rfl, World.block_lt_of_cell? _ _ h0, by rw [h0]; simp⟩

set_option maxRecDepth 100000 in
/-- Cells that read as a lift. -/
theorem open_liftC {H : Type} {enc : TypeId × Value → H} {W : World} {base fuel : Nat} {sp : Nat → Bool} {held : Bool} {cs : List Value} {z : DataW H × List MemPlace}
    (h : DataW.trod enc Tryz.prog W base sp held fuel 29 cs = some z) : ∃ (k : Lf) (c : Value), cs = encLf (k, c) ∧ RdI W c k.af ∧ wfLf k := by
  obtain ⟨xs, n, _, _, hl, hlen, hf⟩ := DataW.trod_struct Tryz.underlying29 h
  have hl9 : cs.length = 9 := hl.trans (by kernel_rfl)
  have h0 : DataW.trod enc Tryz.prog W base sp held n 9 ((cs.drop 0).take (Tryz.prog.cellsOf 9)) = xs[0]? := hf 0 _ rfl
  have h1 : DataW.trod enc Tryz.prog W base sp held n 2 ((cs.drop 1).take (Tryz.prog.cellsOf 2)) = xs[1]? := hf 1 _ rfl
  have h2 : DataW.trod enc Tryz.prog W base sp held n 26 ((cs.drop 2).take (Tryz.prog.cellsOf 26)) = xs[2]? := hf 2 _ rfl
  have h3 : DataW.trod enc Tryz.prog W base sp held n 26 ((cs.drop 4).take (Tryz.prog.cellsOf 26)) = xs[3]? := hf 3 _ rfl
  have h4 : DataW.trod enc Tryz.prog W base sp held n 2 ((cs.drop 6).take (Tryz.prog.cellsOf 2)) = xs[4]? := hf 4 _ rfl
  have h5 : DataW.trod enc Tryz.prog W base sp held n 2 ((cs.drop 7).take (Tryz.prog.cellsOf 2)) = xs[5]? := hf 5 _ rfl
  have h6 : DataW.trod enc Tryz.prog W base sp held n 27 ((cs.drop 8).take (Tryz.prog.cellsOf 27)) = xs[6]? := hf 6 _ rfl
  have z0 : Tryz.prog.cellsOf 9 = 1 := by kernel_rfl
  have z1 : Tryz.prog.cellsOf 26 = 2 := by kernel_rfl
  have z2 : Tryz.prog.cellsOf 2 = 1 := by kernel_rfl
  have z3 : Tryz.prog.cellsOf 27 = 1 := by kernel_rfl
  match cs, hl9 with
  | [c0, c1, c2, c3, c4, c5, c6, c7, c8], _ =>
    have i0 : xs[0]? = some (xs[0]'(by rw [hlen]; decide)) := List.getElem?_eq_getElem _
    have i1 : xs[1]? = some (xs[1]'(by rw [hlen]; decide)) := List.getElem?_eq_getElem _
    have i2 : xs[2]? = some (xs[2]'(by rw [hlen]; decide)) := List.getElem?_eq_getElem _
    have i3 : xs[3]? = some (xs[3]'(by rw [hlen]; decide)) := List.getElem?_eq_getElem _
    have i4 : xs[4]? = some (xs[4]'(by rw [hlen]; decide)) := List.getElem?_eq_getElem _
    have i5 : xs[5]? = some (xs[5]'(by rw [hlen]; decide)) := List.getElem?_eq_getElem _
    have i6 : xs[6]? = some (xs[6]'(by rw [hlen]; decide)) := List.getElem?_eq_getElem _
    simp only [i0, i1, i2, i3, i4, i5, i6, z0, z1, z2, z3, List.drop_succ_cons, List.drop_zero, List.take_succ_cons, List.take_zero] at h0 h1 h2 h3 h4 h5 h6
    obtain ⟨s, e0, _, ws⟩ := DataW.trod_string Tryz.underlying9 h0
    obtain ⟨a1, e1, _, w1⟩ := DataW.trod_int Tryz.underlying2 h1
    obtain ⟨Y0p, Y1p, mp, _, _, p0', p1'⟩ := trod_struct2 Tryz.underlying26 h2
    have p0 : DataW.trod enc Tryz.prog W base sp held mp 2 (([c2, c3].drop 0).take (Tryz.prog.cellsOf 2)) = some Y0p := p0'
    have p1 : DataW.trod enc Tryz.prog W base sp held mp 2 (([c2, c3].drop 1).take (Tryz.prog.cellsOf 2)) = some Y1p := p1'
    simp only [z2, List.drop_succ_cons, List.drop_zero, List.take_succ_cons, List.take_zero] at p0 p1
    obtain ⟨Y0q, Y1q, mq, _, _, q0', q1'⟩ := trod_struct2 Tryz.underlying26 h3
    have q0 : DataW.trod enc Tryz.prog W base sp held mq 2 (([c4, c5].drop 0).take (Tryz.prog.cellsOf 2)) = some Y0q := q0'
    have q1 : DataW.trod enc Tryz.prog W base sp held mq 2 (([c4, c5].drop 1).take (Tryz.prog.cellsOf 2)) = some Y1q := q1'
    simp only [z2, List.drop_succ_cons, List.drop_zero, List.take_succ_cons, List.take_zero] at q0 q1
    obtain ⟨a2, e2, _, w2⟩ := DataW.trod_int Tryz.underlying2 p0
    obtain ⟨a3, e3, _, w3⟩ := DataW.trod_int Tryz.underlying2 p1
    obtain ⟨a4, e4, _, w4⟩ := DataW.trod_int Tryz.underlying2 q0
    obtain ⟨a5, e5, _, w5⟩ := DataW.trod_int Tryz.underlying2 q1
    obtain ⟨a6, e6, _, w6⟩ := DataW.trod_int Tryz.underlying2 h4
    obtain ⟨a7, e7, _, w7⟩ := DataW.trod_int Tryz.underlying2 h5
    obtain ⟨c, zs, e8, hr⟩ := open_i64C Tryz.underlying27 Tryz.underlying2 (by kernel_rfl) h6
    simp only [List.cons.injEq, and_true] at e0 e1 e2 e3 e4 e5 e6 e7 e8
    subst e0 e1 e2 e3 e4 e5 e6 e7 e8
    exact ⟨⟨s, a1, a2, a3, a4, a5, a6, a7, zs⟩, _, rfl, hr, ws, w1, w2, w3, w4, w5, w6, w7⟩

set_option maxRecDepth 100000 in
theorem open_lift {H : Type} {enc : TypeId × Value → H} {W : World} {base : Nat} {v : Value} {d : DataW H} {p : List MemPlace}
    (hv : Value.okWide Tryz.prog W .any base 29 v) (h : DataW.Trod enc Tryz.prog W 0 (fun _ => true) true 29 v d p) :
    ∃ (k : Lf) (c : Value), v = .agg #[.string k.nm, .int .i64 k.wt, .int .i64 k.fx, .int .i64 k.fy, .int .i64 k.tx, .int .i64 k.ty, .int .i64 k.h, .int .i64 k.dl, c] ∧ RdI W c k.af ∧ wfLf k := by
  obtain ⟨cs, rfl, hsz⟩ := okWide_struct Tryz.underlying29 hv
  obtain ⟨fuel, hf⟩ := h
  obtain ⟨k, c, e, hr, wk⟩ := open_liftC (by simpa [Value.cells] using hf)
  refine ⟨k, c, ?_, hr, wk⟩
  rw [show cs = #[.string k.nm, .int .i64 k.wt, .int .i64 k.fx, .int .i64 k.fy, .int .i64 k.tx, .int .i64 k.ty, .int .i64 k.h, .int .i64 k.dl, c] from Array.toList_inj.1 (by rw [e]; rfl)]

/-- The first m numbers rise strictly, from 0 to less than n. -/
def RisesP (zs : List Int) (n : Int) (m : Nat) : Prop := ∀ i (h : i < zs.length), i < m → (0 ≤ zs[i] ∧ zs[i] ≤ n - 1) ∧ ∀ _ : 0 < i, zs[i - 1] < zs[i]

open Classical in
noncomputable def risesB (zs : List Int) (n : Int) : Bool := decide (RisesP zs n zs.length)

theorem risesB_true {zs : List Int} {n : Int} (h : RisesP zs n zs.length) : risesB zs n = true := by simp [risesB, h]

theorem risesB_false {zs : List Int} {n : Int} (h : ¬ RisesP zs n zs.length) : risesB zs n = false := by simp [risesB, h]

theorem RisesP_step {zs : List Int} {n : Int} {m : Nat} (h : RisesP zs n m) (hm : m < zs.length) (h1 : 0 ≤ zs[m] ∧ zs[m] ≤ n - 1) (h2 : ∀ _ : 0 < m, zs[m - 1] < zs[m]) : RisesP zs n (m + 1) := by
  intro i hi hlt
  rcases Nat.lt_or_ge i m with h3 | h3
  · exact h i hi h3
  · obtain rfl : i = m := by omega
    exact ⟨h1, h2⟩

/-- The fields of a lift, but After, are valid. -/
noncomputable def fldB (k : Lf) : Bool := nameB k.nm && (inB k.wt 1 50000 && (okP k.fx k.fy && (okP k.tx k.ty && (inB k.h 0 2000 && inB k.dl 1 1000000))))

/-- The lift with an index is valid, but for its name's being taken. -/
noncomputable def oneB (k : Lf) (i : Int) : Bool := fldB k && risesB k.af i

theorem same_below {P : Program} {f : FuncId} {args : Array Value} {w : World} {v : Ending} (h : Calls P f args w fun e w' => e = v ∧ w = w') : Calls P f args w fun e w' => e = v ∧ Below w.heap.size w w' :=
  h.mono fun _ _ ⟨h1, h2⟩ => ⟨h1, by rw [← h2]; exact Below.refl _ _⟩

theorem specRises_any (v : Value) (zs : List Int) (n : Int) (hn : 0 ≤ n ∧ n ≤ 1000000) (w : World) (h : RdI w v zs) :
    Calls Tryz.prog 84 #[v, .int .i64 n] w fun e w' => e = .returned (.bool (risesB zs n)) ∧ Below w.heap.size w w' := by
  obtain ⟨A, c, rfl, hl, r1⟩ := RdI_slice h
  clear h
  have R := Lib.hid r1; clear r1
  have HBAD := Lib.hid (fun i (hi : i < zs.length) (hno : ¬ ((0 ≤ zs[i] ∧ zs[i] ≤ n - 1) ∧ ∀ _ : 0 < i, zs[i - 1] < zs[i])) => risesB_false (n := n) (fun hp => hno (hp i hi hi)))
  have HEND := Lib.hid (fun h => risesB_true (zs := zs) (n := n) h)
  generalize risesB zs n = G at *
  go_enter Tryz.func84, Tryz.ntmps84
  go_wp2_with fail
  go_loopw [5] (fun i wr => ∃ m : Nat, m ≤ zs.length ∧ i = .int .i64 (m : Int) ∧ RisesP zs n m ∧ Below w.heap.size w wr) (fun i _ => zs.length - (intOf i).toNat)
  case atStart => exact ⟨0, by omega, rfl, fun i _ h => by omega, Below.refl _ _⟩
  case round =>
    obtain ⟨m, hm, rfl, hrp, hb⟩ := hrel
    by_cases hlt : m < zs.length
    · obtain ⟨b, off, rfl, hbl, hc⟩ := R.out m hlt
      rw [← kept_cell hb b _ hbl] at hc
      have hbad := HBAD.out m hlt
      have hnx := RisesP_step hrp hlt
      have hwb := fun u => same_below (in_any zs[m] 0 (n - 1) u)
      have hblw : b < wr.heap.size := Nat.lt_of_lt_of_le hbl hb.size
      have fc := fun x : BelowBy wr => (kept_cell x.h b (off + m) hblw).trans hc
      by_cases h1 : 0 ≤ zs[m] ∧ zs[m] ≤ n - 1
      · have hin : inB zs[m] 0 (n - 1) = true := by simp [inB, h1]
        rw [hin] at hwb
        have HW := Lib.hid hwb; clear hwb hin
        by_cases h0 : 0 < m
        · obtain ⟨b', off', e', hbl', hc'⟩ := R.out (m - 1) (by omega)
          cases e'
          rw [← kept_cell hb b _ hbl'] at hc'
          rw [show off + (m - 1) = off + m - 1 by omega] at hc'
          have fd := fun x : BelowBy wr => (kept_cell x.h b (off + m - 1) hblw).trans hc'
          have hm1 : ((m : Int) - 1).toNat = m - 1 := by omega
          have hm2 : off + (m - 1) = off + m - 1 := by omega
          by_cases h2 : zs[m - 1] < zs[m]
          · have HNX := Lib.hid (hnx h1 (fun _ => h2)); clear hnx hbad hrp
            have h3 : ¬ zs[m] ≤ zs[m - 1] := by omega
            clear h1 h2
            generalize zs[m - 1] = y at *
            generalize zs[m] = x at *
            go_wp2_with fail
            refine wp_region_below (by kernel_rfl) (by kernel_rfl) ?_
            repeat (go_big_quiet_step ((go_at_call 60; exact below_call (fun _ => HW.out _))))
            refine wpQuiet_nil ?_
            intro wq hw'
            obtain ⟨⟨_, hbq⟩, hwq⟩ := hw'
            subst hwq
            (try dsimp only)
            go_wp2
            go_roundw
            case rel => exact ⟨m + 1, by omega, by go_num, HNX.out, kept_trans hb hbq⟩
            case measure => simp [intOf]; omega
          · have hG := hbad (fun hx => h2 (hx.2 h0))
            clear hbad hnx hrp
            have h3 : zs[m] ≤ zs[m - 1] := by omega
            subst hG
            clear h1 h2
            generalize zs[m - 1] = y at *
            generalize zs[m] = x at *
            go_wp2_with fail
            refine wp_region_below (by kernel_rfl) (by kernel_rfl) ?_
            repeat (go_big_quiet_step ((go_at_call 60; exact below_call (fun _ => HW.out _))))
            refine wpQuiet_nil ?_
            intro wq hw'
            obtain ⟨⟨_, hbq⟩, hwq⟩ := hw'
            subst hwq
            (try dsimp only)
            go_wp2
            go_ret
            exact ⟨rfl, kept_trans hb hbq⟩
        · have HNX := Lib.hid (hnx h1 (fun h => absurd h h0)); clear hnx hbad hrp
          have hm0 : m = 0 := by omega
          subst hm0
          clear h1
          generalize zs[0] = x at *
          have fd := fun u : BelowBy wr => (show u.w.cell? ⟨b, off, none⟩ = some (.int .i64 x) from fc u)
          clear fc
          go_wp2_with fail
          refine wp_region_below (by kernel_rfl) (by kernel_rfl) ?_
          repeat (go_big_quiet_step ((go_at_call 60; exact below_call (fun _ => HW.out _))))
          refine wpQuiet_nil ?_
          intro wq hw'
          obtain ⟨⟨_, hbq⟩, hwq⟩ := hw'
          subst hwq
          (try dsimp only)
          go_wp2
          go_roundw
          case rel => exact ⟨1, by omega, by go_num, HNX.out, kept_trans hb hbq⟩
          case measure => simp [intOf]; omega
      · have hG := hbad (fun hx => h1 hx.1)
        clear hbad hnx hrp
        subst hG
        have hin : inB zs[m] 0 (n - 1) = false := by simp [inB]; omega
        rw [hin] at hwb
        have HW := Lib.hid hwb; clear hwb hin h1
        generalize zs[m] = x at *
        go_wp2_with fail
        refine wp_region_below (by kernel_rfl) (by kernel_rfl) ?_
        repeat (go_big_quiet_step ((go_at_call 60; exact below_call (fun _ => HW.out _))))
        refine wpQuiet_nil ?_
        intro wq hw'
        obtain ⟨⟨_, hbq⟩, hwq⟩ := hw'
        subst hwq
        (try dsimp only)
        go_wp2
        go_ret
        exact ⟨rfl, kept_trans hb hbq⟩
    · have : m = zs.length := by omega
      subst this
      have hE := HEND.out hrp
      clear hrp
      subst hE
      go_wp2
      go_ret
      exact ⟨rfl, hb⟩

set_option maxHeartbeats 4000000 in
theorem specOne_any (b o : Nat) (k : Lf) (c : Value) (i : Int) (hi : 0 ≤ i ∧ i ≤ 1000000) (w : World) (h : LfAt w b o k c) (hs : k.nm.size ≤ 1000000) :
    Calls Tryz.prog 61 #[.pointer (some ⟨b, o, none⟩), .int .i64 i] w fun e w' => e = .returned (.bool (oneB k i)) ∧ Below w.heap.size w w' := by
  obtain ⟨hb, ⟨c0, c1, c2, c3, c4, c5, c6, c7, c8⟩, hr⟩ := h
  obtain ⟨A, cp, rfl, hl, _⟩ := RdI_slice hr
  have H := Lib.hid hr; clear hr
  have HN := Lib.hid (fun u => specIsName_any k.nm u hs)
  have HR := Lib.hid (fun u (q : RdI u (.slice A k.af.length cp) k.af) => specRises_any _ _ i hi u q)
  unfold oneB fldB
  obtain ⟨s, i1, i2, i3, i4, i5, i6, i7, zs⟩ := k
  dsimp only at *
  have HC := Lib.hid (show ∀ u, Below w.heap.size w u → u.cell? ⟨b, o + 4, none⟩ = some (.int .i64 i4) ∧ u.cell? ⟨b, o + 5, none⟩ = some (.int .i64 i5) ∧ u.cell? ⟨b, o + 6, none⟩ = some (.int .i64 i6) ∧ u.cell? ⟨b, o + 7, none⟩ = some (.int .i64 i7) ∧ u.cell? ⟨b, o + 8, none⟩ = some (.slice A zs.length cp) from
    fun u q => ⟨by rw [kept_cell q b _ hb]; exact c4, by rw [kept_cell q b _ hb]; exact c5, by rw [kept_cell q b _ hb]; exact c6, by rw [kept_cell q b _ hb]; exact c7, by rw [kept_cell q b _ hb]; exact c8⟩)
  have HP := fun u => specOk_any i2 i3 u
  have HQ := fun u => specOk_any i4 i5 u
  have HI := fun u => in_any i1 1 50000 u
  have HJ := fun u => in_any i6 0 2000 u
  have HK := fun u => in_any i7 1 1000000 u
  generalize inB i1 1 50000 = p2 at *
  generalize okP i2 i3 = p3 at *
  generalize okP i4 i5 = p4 at *
  generalize inB i6 0 2000 = p5 at *
  generalize inB i7 1 1000000 = p6 at *
  generalize nameB s = p1 at *
  generalize risesB zs i = p7 at *
  have HP := Lib.hid HP
  have HQ := Lib.hid HQ
  have HI := Lib.hid HI
  have HJ := Lib.hid HJ
  have HK := Lib.hid HK
  clear c4 c5 c6 c7 c8
  by_cases hF : (p1 && p2 && p3) = true
  case neg =>
    rw [show (p1 && (p2 && (p3 && (p4 && (p5 && p6)))) && p7) = false by cases p1 <;> cases p2 <;> cases p3 <;> simp_all]
    cases p1
    all_goals (try (cases p2))
    all_goals (try (cases p3))
    all_goals (try (exact absurd rfl hF))
    all_goals
      clear hF HC HJ HK HR
      go_enter Tryz.func61, Tryz.ntmps61
      go_wp2_with (first | (go_at_call 79; refine (HN.out _).mono ?_; rintro e w1 ⟨rfl, rfl⟩) | (go_at_call 60; refine (HI.out _).mono ?_; rintro e w1 ⟨rfl, rfl⟩) | (go_at_call 80; refine (HP.out _).mono ?_; rintro e w1 ⟨rfl, hb1⟩))
      go_ret
      first | exact ⟨rfl, by assumption⟩ | exact ⟨rfl, Below.refl _ _⟩
  case pos =>
    simp only [Bool.and_eq_true] at hF
    obtain ⟨⟨rfl, rfl⟩, rfl⟩ := hF
    simp only [Bool.true_and]
    cases p4
    case false =>
      go_enter Tryz.func61, Tryz.ntmps61
      go_wp2_with (first | (go_at_call 79; refine (HN.out _).mono ?_; rintro e w1 ⟨rfl, rfl⟩) | (go_at_call 60; refine (HI.out _).mono ?_; rintro e w1 ⟨rfl, rfl⟩))
      refine (HP.out _).mono ?_
      rintro e w1 ⟨rfl, b1⟩
      obtain ⟨c4, c5, c6, c7, c8⟩ := HC.out _ b1
      go_wp2_with fail
      refine (HQ.out _).mono ?_
      rintro e w2 ⟨rfl, b2⟩
      go_wp2
      go_ret
      exact ⟨rfl, kept_trans b1 b2⟩
    case true =>
    cases p5
    · simp only [Bool.false_and]
      go_enter Tryz.func61, Tryz.ntmps61
      go_wp2_with (first | (go_at_call 79; refine (HN.out _).mono ?_; rintro e w1 ⟨rfl, rfl⟩) | (go_at_call 60; refine (HI.out _).mono ?_; rintro e w1 ⟨rfl, rfl⟩))
      refine (HP.out _).mono ?_
      rintro e w1 ⟨rfl, b1⟩
      obtain ⟨c4, c5, c6, c7, c8⟩ := HC.out _ b1
      go_wp2_with fail
      refine (HQ.out _).mono ?_
      rintro e w2 ⟨rfl, b2⟩
      replace b2 := kept_trans b1 b2
      obtain ⟨_, _, d6, d7, d8⟩ := HC.out _ b2
      clear c4 c5 c6 c7 c8
      go_wp2_with fail
      refine (HJ.out _).mono ?_
      rintro e w0 ⟨rfl, rfl⟩
      go_wp2
      go_ret
      exact ⟨rfl, b2⟩
    cases p6
    · simp only [Bool.false_and, Bool.true_and]
      go_enter Tryz.func61, Tryz.ntmps61
      go_wp2_with (first | (go_at_call 79; refine (HN.out _).mono ?_; rintro e w1 ⟨rfl, rfl⟩) | (go_at_call 60; refine (HI.out _).mono ?_; rintro e w1 ⟨rfl, rfl⟩))
      refine (HP.out _).mono ?_
      rintro e w1 ⟨rfl, b1⟩
      obtain ⟨c4, c5, c6, c7, c8⟩ := HC.out _ b1
      go_wp2_with fail
      refine (HQ.out _).mono ?_
      rintro e w2 ⟨rfl, b2⟩
      replace b2 := kept_trans b1 b2
      obtain ⟨_, _, d6, d7, d8⟩ := HC.out _ b2
      clear c4 c5 c6 c7 c8
      go_wp2_with fail
      refine (HJ.out _).mono ?_
      rintro e w0 ⟨rfl, rfl⟩
      go_wp2_with fail
      refine (HK.out _).mono ?_
      rintro e w0 ⟨rfl, rfl⟩
      go_wp2
      go_ret
      exact ⟨rfl, b2⟩
    · simp only [Bool.true_and]
      go_enter Tryz.func61, Tryz.ntmps61
      go_wp2_with (first | (go_at_call 79; refine (HN.out _).mono ?_; rintro e w1 ⟨rfl, rfl⟩) | (go_at_call 60; refine (HI.out _).mono ?_; rintro e w1 ⟨rfl, rfl⟩))
      refine (HP.out _).mono ?_
      rintro e w1 ⟨rfl, b1⟩
      obtain ⟨c4, c5, c6, c7, c8⟩ := HC.out _ b1
      go_wp2_with fail
      refine (HQ.out _).mono ?_
      rintro e w2 ⟨rfl, b2⟩
      replace b2 := kept_trans b1 b2
      obtain ⟨_, _, d6, d7, d8⟩ := HC.out _ b2
      clear c4 c5 c6 c7 c8
      go_wp2_with fail
      refine (HJ.out _).mono ?_
      rintro e w0 ⟨rfl, rfl⟩
      go_wp2_with fail
      refine (HK.out _).mono ?_
      rintro e w0 ⟨rfl, rfl⟩
      go_wp2_with fail
      refine (HR.out _ (RdI_kept H.out b2)).mono ?_
      rintro e w3 ⟨rfl, b3⟩
      go_wp2
      go_ret
      exact ⟨rfl, kept_trans b2 b3⟩

theorem within1_any (lo hi n : Int) (g c : Nat) (w : World) (hg : g < w.heap.size) (h0 : w.cell? ⟨g, 0, none⟩ = some (.int .i64 n)) :
    Calls Tryz.prog 93 #[.int .i64 lo, .int .i64 hi, .slice (some ⟨g, 0, none⟩) 1 c] w fun e w' => e = .returned (.bool (inB n lo hi)) ∧ Below w.heap.size w w' := by
  have H := within_any lo hi _ [n] w (rdI1 (c := c) hg h0)
  rwa [show ([n].all fun n => inB n lo hi) = inB n lo hi by simp] at H

/-- One more than the number before a place; 0 at the start. -/
def lastU (zs : List Int) (m : Nat) : Int := if m = 0 then 0 else (zs[m - 1]?).getD 0 + 1

theorem lastU_in {zs : List Int} {k : Int} {m : Nat} (hr : RisesP zs k m) (hm : m < zs.length) : inB zs[m] (lastU zs m) (k - 1) = true ↔ (0 ≤ zs[m] ∧ zs[m] ≤ k - 1) ∧ ∀ _ : 0 < m, zs[m - 1] < zs[m] := by
  unfold lastU
  by_cases h0 : m = 0
  · subst h0
    simp [inB]
  · have h1 := (hr (m - 1) (by omega) (by omega)).1
    have hm0 : 0 < m := by omega
    rw [if_neg h0, List.getElem?_eq_getElem (by omega)]
    simp only [Option.getD_some, inB, Bool.and_eq_true, decide_eq_true_eq]
    constructor
    · intro h
      exact ⟨⟨by omega, by omega⟩, fun _ => by omega⟩
    · rintro ⟨⟨_, h2⟩, h3⟩
      have := h3 hm0
      exact ⟨by omega, h2⟩

theorem lastU_step {zs : List Int} {m : Nat} (hm : m < zs.length) : lastU zs (m + 1) = zs[m] + 1 := by
  simp [lastU, hm]

theorem implAfter_any (v : Value) (zs : List Int) (k : Int) (hk : 0 ≤ k ∧ k ≤ 1000000) (w : World) (h : RdI w v zs) :
    Calls Tryz.prog 95 #[v, .int .i64 k] w fun e w' => e = .returned (.bool (risesB zs k)) ∧ Below w.heap.size w w' := by
  obtain ⟨A, c, rfl, hl, r1⟩ := RdI_slice h
  clear h
  have R := Lib.hid r1; clear r1
  have HBAD := Lib.hid (fun i (hi : i < zs.length) (hno : ¬ ((0 ≤ zs[i] ∧ zs[i] ≤ k - 1) ∧ ∀ _ : 0 < i, zs[i - 1] < zs[i])) => risesB_false (n := k) (fun hp => hno (hp i hi hi)))
  have HEND := Lib.hid (fun h => risesB_true (zs := zs) (n := k) h)
  generalize risesB zs k = G at *
  go_enter Tryz.func95, Tryz.ntmps95
  go_wp2_with fail
  go_loopw [5, 10] (fun l i wr => ∃ m : Nat, m ≤ zs.length ∧ i = .int .i64 (m : Int) ∧ l = .int .i64 (lastU zs m) ∧ RisesP zs k m ∧ Below w.heap.size w wr) (fun _ i _ => zs.length - (intOf i).toNat)
  case atStart => exact ⟨0, by omega, rfl, rfl, fun i _ h => by omega, Below.refl _ _⟩
  case round =>
    obtain ⟨m, hm, rfl, rfl, hrp, hb⟩ := hrel
    by_cases hlt : m < zs.length
    · obtain ⟨b, off, rfl, hbl, hc⟩ := R.out m hlt
      rw [← kept_cell hb b _ hbl] at hc
      have hbad := HBAD.out m hlt
      have hnx := RisesP_step hrp hlt
      have hin := lastU_in hrp hlt
      have hst := lastU_step hlt
      have hW := fun (g : Nat) (u : World) (q1 : g < u.heap.size) (q2 : u.cell? ⟨g, 0, none⟩ = some (.int .i64 zs[m])) => within1_any (lastU zs m) (k - 1) zs[m] g 1 u q1 q2
      clear hrp
      have HST := Lib.hid hst; clear hst
      generalize lastU zs m = l at *
      cases hI : inB zs[m] l (k - 1)
      · rw [hI] at hin hW
        have hG := hbad (fun hx => by cases hin.2 hx)
        subst hG
        have HW := Lib.hid hW; clear hW hin hbad hnx hI
        generalize zs[m] = x at *
        go_wp2_with fail
        refine (HW.out _ _ (by go_size) (by go_simp)).mono ?_
        rintro e w1 ⟨rfl, hb1⟩
        have b1 := kept_trans (a := wr) (by go_grown) hb1
        go_wp2
        go_ret
        exact ⟨rfl, kept_trans hb b1⟩
      · rw [hI] at hin hW
        have hp := hin.1 rfl
        have HNX := Lib.hid (hnx hp.1 hp.2)
        have hxb := hp.1
        have HW := Lib.hid hW; clear hW hin hbad hnx hI hp
        generalize zs[m] = x at *
        go_wp2_with fail
        refine (HW.out _ _ (by go_size) (by go_simp)).mono ?_
        rintro e w1 ⟨rfl, hb1⟩
        have b1 := kept_trans (a := wr) (by go_grown) hb1
        go_wp2
        go_roundw
        case rel => exact ⟨m + 1, by omega, by go_num, by rw [HST.out], HNX.out, kept_trans hb b1⟩
        case measure => simp [intOf]; omega
    · have : m = zs.length := by omega
      subst this
      have hE := HEND.out hrp
      clear hrp
      subst hE
      go_wp2
      go_ret
      exact ⟨rfl, hb⟩

set_option maxHeartbeats 4000000 in
theorem implOne_any (k : Lf) (c : Value) (i : Int) (hi : 0 ≤ i ∧ i ≤ 1000000) (w : World) (hr : RdI w c k.af) (hs : k.nm.size ≤ 1000000) :
    Calls Tryz.prog 66 #[.agg #[.string k.nm, .int .i64 k.wt, .int .i64 k.fx, .int .i64 k.fy, .int .i64 k.tx, .int .i64 k.ty, .int .i64 k.h, .int .i64 k.dl, c], .int .i64 i] w fun e w' => e = .returned (.bool (oneB k i)) ∧ Below w.heap.size w w' := by
  obtain ⟨A, cp, rfl, hl, _⟩ := RdI_slice hr
  have H := Lib.hid hr; clear hr
  have HN := Lib.hid (fun u => implIsName_any k.nm u hs)
  have HR := Lib.hid (fun u (q : RdI u (.slice A k.af.length cp) k.af) => implAfter_any _ _ i hi u q)
  unfold oneB fldB
  obtain ⟨s, i1, i2, i3, i4, i5, i6, i7, zs⟩ := k
  dsimp only at *
  have HP := fun u => validPlace_any i2 i3 u
  have HQ := fun u => validPlace_any i4 i5 u
  have HI := fun g u q1 q2 => within1_any 1 50000 i1 g 1 u q1 q2
  have HJ := fun u => validHeight_any i6 u
  have HK := fun g u q1 q2 => within1_any 1 1000000 i7 g 1 u q1 q2
  generalize inB i1 1 50000 = p2 at *
  generalize okP i2 i3 = p3 at *
  generalize okP i4 i5 = p4 at *
  generalize inB i6 0 2000 = p5 at *
  generalize inB i7 1 1000000 = p6 at *
  generalize nameB s = p1 at *
  generalize risesB zs i = p7 at *
  have HP := Lib.hid HP
  have HQ := Lib.hid HQ
  have HI := Lib.hid HI
  have HJ := Lib.hid HJ
  have HK := Lib.hid HK
  cases p1
  · go_enter Tryz.func66, Tryz.ntmps66
    go_wp2_with fail
    refine (HN.out _).mono ?_
    rintro e w1 ⟨rfl, b1⟩
    refine kept_at b1 (w.heap.size) (by go_size) fun c1_0 z1_0 s1_0 => ?_
    replace b1 := kept_trans (a := w) (by go_grown) b1
    have l1 := kept_cell b1
    have zz1 := b1.size
    go_wp2
    go_ret
    exact ⟨rfl, b1⟩
  cases p2
  · go_enter Tryz.func66, Tryz.ntmps66
    go_wp2_with fail
    refine (HN.out _).mono ?_
    rintro e w1 ⟨rfl, b1⟩
    refine kept_at b1 (w.heap.size) (by go_size) fun c1_0 z1_0 s1_0 => ?_
    replace b1 := kept_trans (a := w) (by go_grown) b1
    have l1 := kept_cell b1
    have zz1 := b1.size
    go_wp2_with fail
    refine (HI.out _ _ (by go_size) (by go_simp)).mono ?_
    rintro e w2 ⟨rfl, b2⟩
    refine kept_at b2 (w.heap.size) (by go_size) fun c2_0 z2_0 s2_0 => ?_
    replace b2 := kept_trans (a := w) (by go_grown) b2
    have l2 := kept_cell b2
    have zz2 := b2.size
    go_wp2
    go_ret
    exact ⟨rfl, b2⟩
  cases p3
  · go_enter Tryz.func66, Tryz.ntmps66
    go_wp2_with fail
    refine (HN.out _).mono ?_
    rintro e w1 ⟨rfl, b1⟩
    refine kept_at b1 (w.heap.size) (by go_size) fun c1_0 z1_0 s1_0 => ?_
    replace b1 := kept_trans (a := w) (by go_grown) b1
    have l1 := kept_cell b1
    have zz1 := b1.size
    go_wp2_with fail
    refine (HI.out _ _ (by go_size) (by go_simp)).mono ?_
    rintro e w2 ⟨rfl, b2⟩
    refine kept_at b2 (w.heap.size) (by go_size) fun c2_0 z2_0 s2_0 => ?_
    replace b2 := kept_trans (a := w) (by go_grown) b2
    have l2 := kept_cell b2
    have zz2 := b2.size
    go_wp2_with fail
    refine (HP.out _).mono ?_
    rintro e w3 ⟨rfl, b3⟩
    refine kept_at b3 (w.heap.size) (by go_size) fun c3_0 z3_0 s3_0 => ?_
    replace b3 := kept_trans (a := w) (by go_grown) b3
    have l3 := kept_cell b3
    have zz3 := b3.size
    go_wp2
    go_ret
    exact ⟨rfl, b3⟩
  cases p4
  · go_enter Tryz.func66, Tryz.ntmps66
    go_wp2_with fail
    refine (HN.out _).mono ?_
    rintro e w1 ⟨rfl, b1⟩
    refine kept_at b1 (w.heap.size) (by go_size) fun c1_0 z1_0 s1_0 => ?_
    replace b1 := kept_trans (a := w) (by go_grown) b1
    have l1 := kept_cell b1
    have zz1 := b1.size
    go_wp2_with fail
    refine (HI.out _ _ (by go_size) (by go_simp)).mono ?_
    rintro e w2 ⟨rfl, b2⟩
    refine kept_at b2 (w.heap.size) (by go_size) fun c2_0 z2_0 s2_0 => ?_
    replace b2 := kept_trans (a := w) (by go_grown) b2
    have l2 := kept_cell b2
    have zz2 := b2.size
    go_wp2_with fail
    refine (HP.out _).mono ?_
    rintro e w3 ⟨rfl, b3⟩
    refine kept_at b3 (w.heap.size) (by go_size) fun c3_0 z3_0 s3_0 => ?_
    replace b3 := kept_trans (a := w) (by go_grown) b3
    have l3 := kept_cell b3
    have zz3 := b3.size
    go_wp2_with fail
    refine (HQ.out _).mono ?_
    rintro e w4 ⟨rfl, b4⟩
    refine kept_at b4 (w.heap.size) (by go_size) fun c4_0 z4_0 s4_0 => ?_
    replace b4 := kept_trans (a := w) (by go_grown) b4
    have l4 := kept_cell b4
    have zz4 := b4.size
    go_wp2
    go_ret
    exact ⟨rfl, b4⟩
  cases p5
  · go_enter Tryz.func66, Tryz.ntmps66
    go_wp2_with fail
    refine (HN.out _).mono ?_
    rintro e w1 ⟨rfl, b1⟩
    refine kept_at b1 (w.heap.size) (by go_size) fun c1_0 z1_0 s1_0 => ?_
    replace b1 := kept_trans (a := w) (by go_grown) b1
    have l1 := kept_cell b1
    have zz1 := b1.size
    go_wp2_with fail
    refine (HI.out _ _ (by go_size) (by go_simp)).mono ?_
    rintro e w2 ⟨rfl, b2⟩
    refine kept_at b2 (w.heap.size) (by go_size) fun c2_0 z2_0 s2_0 => ?_
    replace b2 := kept_trans (a := w) (by go_grown) b2
    have l2 := kept_cell b2
    have zz2 := b2.size
    go_wp2_with fail
    refine (HP.out _).mono ?_
    rintro e w3 ⟨rfl, b3⟩
    refine kept_at b3 (w.heap.size) (by go_size) fun c3_0 z3_0 s3_0 => ?_
    replace b3 := kept_trans (a := w) (by go_grown) b3
    have l3 := kept_cell b3
    have zz3 := b3.size
    go_wp2_with fail
    refine (HQ.out _).mono ?_
    rintro e w4 ⟨rfl, b4⟩
    refine kept_at b4 (w.heap.size) (by go_size) fun c4_0 z4_0 s4_0 => ?_
    replace b4 := kept_trans (a := w) (by go_grown) b4
    have l4 := kept_cell b4
    have zz4 := b4.size
    go_wp2_with fail
    refine (HJ.out _).mono ?_
    rintro e w0 ⟨rfl, rfl⟩
    go_wp2
    go_ret
    exact ⟨rfl, b4⟩
  cases p6
  · go_enter Tryz.func66, Tryz.ntmps66
    go_wp2_with fail
    refine (HN.out _).mono ?_
    rintro e w1 ⟨rfl, b1⟩
    refine kept_at b1 (w.heap.size) (by go_size) fun c1_0 z1_0 s1_0 => ?_
    replace b1 := kept_trans (a := w) (by go_grown) b1
    have l1 := kept_cell b1
    have zz1 := b1.size
    go_wp2_with fail
    refine (HI.out _ _ (by go_size) (by go_simp)).mono ?_
    rintro e w2 ⟨rfl, b2⟩
    refine kept_at b2 (w.heap.size) (by go_size) fun c2_0 z2_0 s2_0 => ?_
    replace b2 := kept_trans (a := w) (by go_grown) b2
    have l2 := kept_cell b2
    have zz2 := b2.size
    go_wp2_with fail
    refine (HP.out _).mono ?_
    rintro e w3 ⟨rfl, b3⟩
    refine kept_at b3 (w.heap.size) (by go_size) fun c3_0 z3_0 s3_0 => ?_
    replace b3 := kept_trans (a := w) (by go_grown) b3
    have l3 := kept_cell b3
    have zz3 := b3.size
    go_wp2_with fail
    refine (HQ.out _).mono ?_
    rintro e w4 ⟨rfl, b4⟩
    refine kept_at b4 (w.heap.size) (by go_size) fun c4_0 z4_0 s4_0 => ?_
    replace b4 := kept_trans (a := w) (by go_grown) b4
    have l4 := kept_cell b4
    have zz4 := b4.size
    go_wp2_with fail
    refine (HJ.out _).mono ?_
    rintro e w0 ⟨rfl, rfl⟩
    go_wp2_with fail
    refine (HK.out _ _ (by go_size) (by go_simp)).mono ?_
    rintro e w6 ⟨rfl, b6⟩
    refine kept_at b6 (w.heap.size) (by go_size) fun c6_0 z6_0 s6_0 => ?_
    replace b6 := kept_trans (a := w) (by go_grown) b6
    have l6 := kept_cell b6
    have zz6 := b6.size
    go_wp2
    go_ret
    exact ⟨rfl, b6⟩
  · go_enter Tryz.func66, Tryz.ntmps66
    go_wp2_with fail
    refine (HN.out _).mono ?_
    rintro e w1 ⟨rfl, b1⟩
    refine kept_at b1 (w.heap.size) (by go_size) fun c1_0 z1_0 s1_0 => ?_
    replace b1 := kept_trans (a := w) (by go_grown) b1
    have l1 := kept_cell b1
    have zz1 := b1.size
    go_wp2_with fail
    refine (HI.out _ _ (by go_size) (by go_simp)).mono ?_
    rintro e w2 ⟨rfl, b2⟩
    refine kept_at b2 (w.heap.size) (by go_size) fun c2_0 z2_0 s2_0 => ?_
    replace b2 := kept_trans (a := w) (by go_grown) b2
    have l2 := kept_cell b2
    have zz2 := b2.size
    go_wp2_with fail
    refine (HP.out _).mono ?_
    rintro e w3 ⟨rfl, b3⟩
    refine kept_at b3 (w.heap.size) (by go_size) fun c3_0 z3_0 s3_0 => ?_
    replace b3 := kept_trans (a := w) (by go_grown) b3
    have l3 := kept_cell b3
    have zz3 := b3.size
    go_wp2_with fail
    refine (HQ.out _).mono ?_
    rintro e w4 ⟨rfl, b4⟩
    refine kept_at b4 (w.heap.size) (by go_size) fun c4_0 z4_0 s4_0 => ?_
    replace b4 := kept_trans (a := w) (by go_grown) b4
    have l4 := kept_cell b4
    have zz4 := b4.size
    go_wp2_with fail
    refine (HJ.out _).mono ?_
    rintro e w0 ⟨rfl, rfl⟩
    go_wp2_with fail
    refine (HK.out _ _ (by go_size) (by go_simp)).mono ?_
    rintro e w6 ⟨rfl, b6⟩
    refine kept_at b6 (w.heap.size) (by go_size) fun c6_0 z6_0 s6_0 => ?_
    replace b6 := kept_trans (a := w) (by go_grown) b6
    have l6 := kept_cell b6
    have zz6 := b6.size
    go_wp2_with fail
    refine (HR.out _ (RdI_kept H.out b6)).mono ?_
    rintro e w7 ⟨rfl, b7⟩
    replace b7 := kept_trans (a := w) (by go_grown) b7
    have l7 := kept_cell b7
    have zz7 := b7.size
    go_wp2
    go_ret
    exact ⟨rfl, b7⟩

/-- A block begins with these values. -/
def BoxR (u : World) (b : Nat) (row : List Value) : Prop := b < u.heap.size ∧ ∀ i v, row[i]? = some v → u.cell? ⟨b, i, none⟩ = some v

theorem BoxR_kept {u u1 : World} {b : Nat} {row : List Value} (h : BoxR u b row) (hb : Below u.heap.size u u1) : BoxR u1 b row :=
  ⟨Nat.lt_of_lt_of_le h.1 hb.size, fun i v hv => (kept_cell hb b i h.1).trans (h.2 i v hv)⟩

theorem BoxR_new' {u : World} {b : Nat} {arr : Array Value} {t : TypeId} (h : b = u.heap.size) : BoxR (u.alloc (.cells arr t)) b arr.toList := by
  subst h
  refine ⟨by simp, fun i v hv => ?_⟩
  rw [cell_of_row _ _ i _ _ _ (heap_alloc_new u _)]
  simpa using hv

theorem BoxR_up {u : World} {b : Nat} {row : List Value} {x : Obj} (h : BoxR u b row) : BoxR (u.alloc x) b row := BoxR_kept h (by go_grown)

theorem BoxR_one {u : World} {b : Nat} {v : Value} (h : b < u.heap.size) (hc : u.cell? ⟨b, 0, none⟩ = some v) : BoxR u b [v] :=
  ⟨h, fun i x hx => by
    cases i with
    | zero => simp at hx; subst hx; exact hc
    | succ i => simp at hx⟩

theorem fldB_true {k : Lf} (h : fldB k = true) : (1 ≤ k.wt ∧ k.wt ≤ 50000) ∧ okP k.fx k.fy = true ∧ okP k.tx k.ty = true ∧ (0 ≤ k.h ∧ k.h ≤ 2000) ∧ (1 ≤ k.dl ∧ k.dl ≤ 1000000) := by
  simp only [fldB, Bool.and_eq_true] at h
  obtain ⟨_, h2, h3, h4, h5, h6⟩ := h
  exact ⟨inB_true h2, h3, h4, inB_true h5, inB_true h6⟩

/-- The load of a valid crane at a place; -1 if there is none. -/
noncomputable def place9 (k : Cr) (u v : Int) : Int := if reachB k u v then loadL k.ch (distL k u v) else -1

noncomputable def load9 (k : Cr) (l : Lf) : Int := min (place9 k l.fx l.fy) (place9 k l.tx l.ty)

noncomputable def can9 (k : Cr) (l : Lf) : Bool := decide (l.wt ≤ load9 k l) && decide (l.h + 30 ≤ k.h)

theorem risesB_nil (n : Int) : risesB [] n = true := risesB_true (fun i h => absurd h (by simp))

theorem oneB_plain (k : Lf) : oneB { k with af := [] } 0 = fldB k := by
  unfold oneB
  rw [risesB_nil, Bool.and_true]
  rfl

theorem LfAt_box (s : ByteArray) (i1 i2 i3 i4 i5 i6 i7 : Int) (zs : List Int) (c : Value) (w : World) (t : TypeId) (h : RdI w c zs) :
    LfAt (w.alloc (.cells #[.string s, .int .i64 i1, .int .i64 i2, .int .i64 i3, .int .i64 i4, .int .i64 i5, .int .i64 i6, .int .i64 i7, c] t)) w.heap.size 0 ⟨s, i1, i2, i3, i4, i5, i6, i7, zs⟩ c :=
  ⟨by simp, by simp, RdI_kept h (by go_grown)⟩

theorem specPlain_any (b o : Nat) (l : Lf) (c : Value) (w : World) (h : LfAt w b o l c) (hs : l.nm.size ≤ 1000000) :
    Calls Tryz.prog 33 #[.pointer (some ⟨b, o, none⟩)] w fun e w' => e = .returned (.bool (fldB l)) ∧ Below w.heap.size w w' := by
  have HO := fun b u (q : LfAt u b 0 { l with af := [] } (.slice none 0 0)) => specOne_any b 0 { l with af := [] } _ 0 (by omega) u q hs
  rw [oneB_plain] at HO
  have HO := Lib.hid HO
  obtain ⟨hb, ⟨c0, c1, c2, c3, c4, c5, c6, c7, c8⟩, hr⟩ := h
  obtain ⟨A, cp, rfl, hl, _⟩ := RdI_slice hr
  clear hr
  generalize fldB l = R at *
  obtain ⟨s, i1, i2, i3, i4, i5, i6, i7, zs⟩ := l
  dsimp only at *
  go_enter Tryz.func33, Tryz.ntmps33
  go_wp2_with fail
  refine (HO.out _ _ (LfAt_box _ _ _ _ _ _ _ _ [] _ _ _ (rdI0' _))).mono ?_
  rintro e w1 ⟨rfl, hb1⟩
  have b1 := kept_trans (a := w) (by go_grown) hb1
  go_wp2
  go_ret
  exact ⟨rfl, b1⟩

theorem implPlain_any (l : Lf) (d : Value) (w : World) (h : RdI w d l.af) (hs : l.nm.size ≤ 1000000) :
    Calls Tryz.prog 39 #[.agg #[.string l.nm, .int .i64 l.wt, .int .i64 l.fx, .int .i64 l.fy, .int .i64 l.tx, .int .i64 l.ty, .int .i64 l.h, .int .i64 l.dl, d]] w fun e w' => e = .returned (.bool (fldB l)) ∧ Below w.heap.size w w' := by
  have HO := fun u => implOne_any { l with af := [] } _ 0 (by omega) u (rdI0' u) hs
  rw [oneB_plain] at HO
  have HO := Lib.hid HO
  obtain ⟨A, cp, rfl, hl, _⟩ := RdI_slice h
  clear h
  generalize fldB l = R at *
  obtain ⟨s, i1, i2, i3, i4, i5, i6, i7, zs⟩ := l
  dsimp only at *
  go_enter Tryz.func39, Tryz.ntmps39
  go_wp2_with fail
  refine (HO.out _).mono ?_
  rintro e w1 ⟨rfl, hb1⟩
  have b1 := kept_trans (a := w) (by go_grown) hb1
  go_wp2
  go_ret
  exact ⟨rfl, b1⟩

theorem min2_any {P : Program} (w : World) (ts : Array TypeId) (t : TypeId) (x y : Int) : (Builtin.min_ ts t #[.int .i64 x, .int .i64 y]).run P w = .ok (.int .i64 (min x y)) w := by
  have e1 : (if y < x then y else x) = min x y := by rw [Int.min_def]; split <;> split <;> omega
  simp [Builtin.min_, Builtin.min2, e1]

theorem place9_lo {k : Cr} {u v : Int} (hc : craneB k = true) : -1 ≤ place9 k u v ∧ (reachB k u v = true → 0 ≤ place9 k u v) ∧ place9 k u v ≤ 50000 := by
  unfold place9
  cases h : reachB k u v
  · simp
  · have h1 := loadL_reach (u := u) (v := v) hc h
    have hk := (craneB_true hc).2.2.2.2.1
    have h2 : loadL k.ch (distL k u v) ≤ 50000 := by
      have hh := h
      simp only [reachB, decide_eq_true_eq] at hh
      exact (loadL_bd hk ((find_last hk _).2 hh)).2
    simp
    omega

set_option maxHeartbeats 2000000 in
theorem specLoad9_any (b1 o1 b2 o2 : Nat) (k : Cr) (l : Lf) (c d : Value) (w : World) (h1 : CrAt w b1 o1 k c) (h2 : LfAt w b2 o2 l d) (hc : craneB k = true) (hf : fldB l = true) :
    Calls Tryz.prog 74 #[.pointer (some ⟨b1, o1, none⟩), .pointer (some ⟨b2, o2, none⟩)] w fun e w' => e = .returned (.int .i64 (load9 k l)) ∧ Below w.heap.size w w' := by
  have f := fldB_true hf
  have HG := Lib.hid (fun u (q : Below w.heap.size w u) x y (ok : okP x y = true) => specKLoad_any b1 o1 k c x y u (CrAt_kept h1 q) hc ok)
  have HM := Lib.hid (fun u x y => same_below (min_any x y u))
  have hl : load9 k l = min (place9 k l.fx l.fy) (place9 k l.tx l.ty) := rfl
  rw [hl]
  have HG : Hid (∀ u, Below w.heap.size w u → ∀ x y, okP x y = true → Calls Tryz.prog 101 #[.pointer (some ⟨b1, o1, none⟩), .agg #[.int .i64 x, .int .i64 y]] u fun e w' => e = .returned (.int .i64 (place9 k x y)) ∧ Below u.heap.size u w') := Lib.hid HG.out
  have k1 := f.2.1
  have k2 := f.2.2.1
  clear hl f hc hf h1
  obtain ⟨hb, ⟨_, _, c2, c3, c4, c5, _, _, _⟩, _⟩ := h2
  generalize place9 k = G at *
  obtain ⟨ls, i1, i2, i3, i4, i5, i6, i7, us⟩ := l
  dsimp only at *
  have f2 := fun x : BelowBy w => (kept_cell x.h _ _ hb).trans c2
  have f3 := fun x : BelowBy w => (kept_cell x.h _ _ hb).trans c3
  have f4 := fun x : BelowBy w => (kept_cell x.h _ _ hb).trans c4
  have f5 := fun x : BelowBy w => (kept_cell x.h _ _ hb).trans c5
  clear c2 c3 c4 c5
  go_enter Tryz.func74, Tryz.ntmps74
  go_wp2_with fail
  refine wp_region_below (by kernel_rfl) (by kernel_rfl) ?_
  repeat (go_big_quiet_step ((first | (go_at_call 101; exact below_call (fun hbx => HG.out _ hbx _ _ (by first | exact k1 | exact k2))) | (go_at_call 100; exact below_call (fun _ => HM.out _ _ _)))))
  refine wpQuiet_nil ?_
  intro wq hw'
  obtain ⟨⟨_, hbq⟩, hwq⟩ := hw'
  subst hwq
  (try dsimp only)
  go_wp2
  go_ret
  exact ⟨rfl, hbq⟩

/-- What the filter of a lift tells beside whether the crane reaches both places. -/
noncomputable def liftX (k : Cr) (l : Lf) : Int := min (if reachB k l.fx l.fy then loadL k.ch (distL k l.fx l.fy) else 0) (if reachB k l.tx l.ty then loadL k.ch (distL k l.tx l.ty) else 0)

noncomputable def reach9 (k : Cr) (l : Lf) : Bool := reachB k l.fx l.fy && reachB k l.tx l.ty

theorem reach9_load {k : Cr} {l : Lf} (hc : craneB k = true) : (reach9 k l = true → liftX k l = load9 k l ∧ 0 ≤ load9 k l) ∧ (reach9 k l = false → load9 k l < 0) := by
  have h1 := place9_lo (u := l.fx) (v := l.fy) hc
  have h2 := place9_lo (u := l.tx) (v := l.ty) hc
  unfold reach9 liftX load9
  cases r1 : reachB k l.fx l.fy <;> cases r2 : reachB k l.tx l.ty <;> simp only [r1, r2, place9, if_true, if_false, Bool.false_eq_true, forall_const] at * <;> simp <;> omega

set_option maxHeartbeats 4000000 in
theorem liftFn_any (b o lb : Nat) (k : Cr) (l : Lf) (c d : Value) (w : World) (h1 : CrAt w b o k c) (h2 : LfAt w lb 0 l d) (hc : craneB k = true) (hf : fldB l = true) (hk : k.nm.size ≤ 1000000) :
    Calls Tryz.prog 96 #[.pointer (some ⟨b, o, none⟩), .pointer (some ⟨lb, 0, none⟩)] w fun e w' => e = .returned (.tuple #[.int .i64 (liftX k l), .bool (reach9 k l)]) ∧ Below w.heap.size w w' := by
  have f := fldB_true hf
  have e1 : loadPlaceL k l.fx l.fy = if reachB k l.fx l.fy then (loadL k.ch (distL k l.fx l.fy), 0) else (0, 3) := by simp [loadPlaceL, hc, f.2.1]
  have e2 : loadPlaceL k l.tx l.ty = if reachB k l.tx l.ty then (loadL k.ch (distL k l.tx l.ty), 0) else (0, 3) := by simp [loadPlaceL, hc, f.2.2.1]
  have hA := fun u (q : Below w.heap.size w u) => implLoadPlace_any k c l.fx l.fy u (RdP_kept h1.2.2 q) hk
  have hB := fun u (q : Below w.heap.size w u) => implLoadPlace_any k c l.tx l.ty u (RdP_kept h1.2.2 q) hk
  rw [e1] at hA
  rw [e2] at hB
  unfold liftX reach9
  clear e1 e2 f hc hf
  obtain ⟨hb1, ⟨g0, g1, g2, g3, g4, g5, g6⟩, hr⟩ := h1
  obtain ⟨hb2, ⟨_, _, c2, c3, c4, c5, _, _, _⟩, _⟩ := h2
  obtain ⟨A, cp, rfl, _, _⟩ := RdP_slice hr
  simp only [Nat.zero_add] at c2 c3 c4 c5
  generalize loadL k.ch (distL k l.fx l.fy) = L1 at *
  generalize loadL k.ch (distL k l.tx l.ty) = L2 at *
  generalize reachB k l.fx l.fy = r1 at *
  generalize reachB k l.tx l.ty = r2 at *
  obtain ⟨ls, i1, i2, i3, i4, i5, i6, i7, us⟩ := l
  obtain ⟨s, x, y, hh, j, bb, zs⟩ := k
  dsimp only at *
  have HG := Lib.hid (show ∀ u, Below w.heap.size w u → u.cell? ⟨b, o, none⟩ = some (.string s) ∧ u.cell? ⟨b, o + 1, none⟩ = some (.int .i64 x) ∧ u.cell? ⟨b, o + 2, none⟩ = some (.int .i64 y) ∧ u.cell? ⟨b, o + 3, none⟩ = some (.int .i64 hh) ∧ u.cell? ⟨b, o + 4, none⟩ = some (.int .i64 j) ∧ u.cell? ⟨b, o + 5, none⟩ = some (.int .i64 bb) ∧ u.cell? ⟨b, o + 6, none⟩ = some (.slice A zs.length cp) ∧ u.cell? ⟨lb, 4, none⟩ = some (.int .i64 i4) ∧ u.cell? ⟨lb, 5, none⟩ = some (.int .i64 i5) ∧ b < u.heap.size ∧ lb < u.heap.size from
    fun u q => ⟨by rw [kept_cell q b _ hb1]; exact g0, by rw [kept_cell q b _ hb1]; exact g1, by rw [kept_cell q b _ hb1]; exact g2, by rw [kept_cell q b _ hb1]; exact g3, by rw [kept_cell q b _ hb1]; exact g4, by rw [kept_cell q b _ hb1]; exact g5, by rw [kept_cell q b _ hb1]; exact g6, by rw [kept_cell q lb _ hb2]; exact c4, by rw [kept_cell q lb _ hb2]; exact c5, Nat.lt_of_lt_of_le hb1 q.size, Nat.lt_of_lt_of_le hb2 q.size⟩)
  have q0 := fun x : BelowBy w => (kept_cell x.h _ _ hb1).trans g0
  have q1 := fun x : BelowBy w => (kept_cell x.h _ _ hb1).trans g1
  have q2 := fun x : BelowBy w => (kept_cell x.h _ _ hb1).trans g2
  have q3 := fun x : BelowBy w => (kept_cell x.h _ _ hb1).trans g3
  have q4 := fun x : BelowBy w => (kept_cell x.h _ _ hb1).trans g4
  have q5 := fun x : BelowBy w => (kept_cell x.h _ _ hb1).trans g5
  have q6 := fun x : BelowBy w => (kept_cell x.h _ _ hb1).trans g6
  have p2 := fun x : BelowBy w => (kept_cell x.h _ _ hb2).trans c2
  have p3 := fun x : BelowBy w => (kept_cell x.h _ _ hb2).trans c3
  clear g0 g1 g2 g3 g4 g5 g6 c2 c3 c4 c5
  have hmn := fun ts t u (a b : Int) => min2_any (P := Tryz.prog) u ts t a b
  cases r1 <;> cases r2
  all_goals
    simp only [if_true, if_false, Bool.false_eq_true] at hA hB
    have HA := Lib.hid hA; have HB := Lib.hid hB; clear hA hB
    go_enter Tryz.func96, Tryz.ntmps96
    go_wp2_with fail
    refine wp_region_below (by kernel_rfl) (by kernel_rfl) ?_
    repeat (go_big_quiet_step ((go_at_call 97; exact below_call (fun hbx => HA.out _ hbx))))
    refine wpQuiet_nil ?_
    intro wq hw'
    obtain ⟨⟨_, hbq⟩, hwq⟩ := hw'
    subst hwq
    (try dsimp only)
    obtain ⟨d0, d1, d2, d3, d4, d5, d6, d7, d8, l1, l2⟩ := HG.out _ hbq
    clear q0 q1 q2 q3 q4 q5 q6 p2 p3
    have HBQ := Lib.hid hbq
    have q0 := fun x : BelowBy wq => (kept_cell x.h _ _ l1).trans d0
    have q1 := fun x : BelowBy wq => (kept_cell x.h _ _ l1).trans d1
    have q2 := fun x : BelowBy wq => (kept_cell x.h _ _ l1).trans d2
    have q3 := fun x : BelowBy wq => (kept_cell x.h _ _ l1).trans d3
    have q4 := fun x : BelowBy wq => (kept_cell x.h _ _ l1).trans d4
    have q5 := fun x : BelowBy wq => (kept_cell x.h _ _ l1).trans d5
    have q6 := fun x : BelowBy wq => (kept_cell x.h _ _ l1).trans d6
    have p2 := fun x : BelowBy wq => (kept_cell x.h _ _ l2).trans d7
    have p3 := fun x : BelowBy wq => (kept_cell x.h _ _ l2).trans d8
    clear d0 d1 d2 d3 d4 d5 d6 d7 d8 hbq
    go_wp2_with fail
    refine wp_region_below (by kernel_rfl) (by kernel_rfl) ?_
    repeat (go_big_quiet_step ((go_at_call 97; exact below_call (fun hbx => HB.out _ (kept_trans HBQ.out hbx)))))
    refine wpQuiet_nil ?_
    intro wq hw'
    obtain ⟨⟨_, hbq⟩, hwq⟩ := hw'
    subst hwq
    (try dsimp only)
    go_wp2
    go_ret2
    exact ⟨by simp, kept_trans HBQ.out hbq⟩

theorem load9_bd {k : Cr} {l : Lf} (hc : craneB k = true) : -1 ≤ load9 k l ∧ load9 k l ≤ 50000 := by
  have h1 := place9_lo (u := l.fx) (v := l.fy) hc
  have h2 := place9_lo (u := l.tx) (v := l.ty) hc
  unfold load9
  omega

theorem can9_reach {k : Cr} {l : Lf} (hc : craneB k = true) (hf : fldB l = true) : can9 k l = (reach9 k l && decide (l.wt ≤ liftX k l) && decide (l.h + 30 ≤ k.h)) := by
  have h := reach9_load (l := l) hc
  have hw := (fldB_true hf).1
  unfold can9
  cases r : reach9 k l
  · have := h.2 r
    have e : decide (l.wt ≤ load9 k l) = false := by simp; omega
    simp [e]
  · rw [(h.1 r).1, Bool.true_and]

set_option maxHeartbeats 2000000 in
theorem specCan9_any (b1 o1 b2 o2 : Nat) (k : Cr) (l : Lf) (c d : Value) (w : World) (h1 : CrAt w b1 o1 k c) (h2 : LfAt w b2 o2 l d) (hc : craneB k = true) (hf : fldB l = true) :
    Calls Tryz.prog 47 #[.pointer (some ⟨b1, o1, none⟩), .pointer (some ⟨b2, o2, none⟩)] w fun e w' => e = .returned (.bool (can9 k l)) ∧ Below w.heap.size w w' := by
  have f := fldB_true hf
  have HL := Lib.hid (fun u (q : Below w.heap.size w u) => specLoad9_any b1 o1 b2 o2 k l c d u (CrAt_kept h1 q) (LfAt_kept h2 q) hc hf)
  have hbd := load9_bd (l := l) hc
  obtain ⟨hb1, ⟨_, _, _, g3, _, _, _⟩, _⟩ := h1
  obtain ⟨hb2, ⟨_, c1, _, _, _, _, c6, _, _⟩, _⟩ := h2
  unfold can9
  have hw := f.1
  have hh := f.2.2.2.1
  have e30 : wrap64 (l.h + 30) = l.h + 30 := by unfold wrap64; omega
  clear f hc hf
  generalize load9 k l = X at *
  obtain ⟨ls, i1, i2, i3, i4, i5, i6, i7, us⟩ := l
  obtain ⟨s, x, y, hgt, j, b, zs⟩ := k
  dsimp only at *
  have f1 := fun x : BelowBy w => (kept_cell x.h _ _ hb2).trans c1
  have f6 := fun x : BelowBy w => (kept_cell x.h _ _ hb2).trans c6
  have f3 := fun x : BelowBy w => (kept_cell x.h _ _ hb1).trans g3
  clear c1 c6 g3
  cases e1 : decide (i1 ≤ X) <;> cases e2 : decide (i6 + 30 ≤ hgt)
  all_goals
    go_enter Tryz.func47, Tryz.ntmps47
    go_wp2_with fail
    refine wp_region_below (by kernel_rfl) (by kernel_rfl) ?_
    repeat (go_big_quiet_step ((go_at_call 74; exact below_call (fun hbx => HL.out _ hbx))))
    refine wpQuiet_nil ?_
    intro wq hw'
    obtain ⟨⟨_, hbq⟩, hwq⟩ := hw'
    subst hwq
    (try dsimp only)
    go_wp2
    go_ret
    exact ⟨by simp, hbq⟩

set_option maxHeartbeats 4000000 in
theorem ableFn_any (b o fb mb lb : Nat) (k : Cr) (l : Lf) (c d d2 : Value) (w : World) (h1 : CrAt w b o k c) (h2 : LfAt w lb 0 l d) (h3 : LfAt w mb 0 l d2) (hfb : fb < w.heap.size) (hfc : w.cell? ⟨fb, 0, none⟩ = some (.func (.func 96) #[] #[.pointer (some ⟨mb, 0, none⟩)])) (hc : craneB k = true) (hf : fldB l = true) (hk : k.nm.size ≤ 1000000) :
    Calls Tryz.prog 69 #[.pointer (some ⟨b, o, none⟩), .pointer (some ⟨fb, 0, none⟩), .pointer (some ⟨lb, 0, none⟩)] w fun e w' => e = .returned (.tuple #[.int .i64 (liftX k l), .bool (can9 k l)]) ∧ Below w.heap.size w w' := by
  have HL := Lib.hid (fun u (q : Below w.heap.size w u) => liftFn_any b o mb k l c d2 u (CrAt_kept h1 q) (LfAt_kept h3 q) hc hf hk)
  have f := fldB_true hf
  rw [can9_reach hc hf]
  obtain ⟨hb1, ⟨_, _, _, g3, _, _, _⟩, _⟩ := h1
  obtain ⟨hb2, ⟨_, c1, _, _, _, _, c6, _, _⟩, _⟩ := h2
  simp only [Nat.zero_add] at c1 c6
  have hh := f.2.2.2.1
  have e30 : wrap64 (l.h + 30) = l.h + 30 := by unfold wrap64; omega
  clear f hc hf h3
  generalize liftX k l = X at *
  generalize reach9 k l = r at *
  obtain ⟨ls, i1, i2, i3, i4, i5, i6, i7, us⟩ := l
  obtain ⟨s, x, y, hgt, j, bb, zs⟩ := k
  dsimp only at *
  have hb1L := hb1
  have hb2L := hb2
  have HG := Lib.hid (show ∀ u, Below w.heap.size w u → u.cell? ⟨b, o + 3, none⟩ = some (.int .i64 hgt) ∧ u.cell? ⟨lb, 1, none⟩ = some (.int .i64 i1) ∧ u.cell? ⟨lb, 6, none⟩ = some (.int .i64 i6) from
    fun u q => ⟨by rw [kept_cell q b _ hb1]; exact g3, by rw [kept_cell q lb _ hb2]; exact c1, by rw [kept_cell q lb _ hb2]; exact c6⟩)
  clear g3 c1 c6
  cases r <;> cases e1 : decide (i1 ≤ X) <;> cases e2 : decide (i6 + 30 ≤ hgt)
  all_goals
    go_enter Tryz.func69, Tryz.ntmps69
    go_wp2_with fail
    refine (HL.out _ (Below.refl _ _)).mono ?_
    rintro e w1 ⟨rfl, hb1⟩
    obtain ⟨m3, m1, m6⟩ := HG.out _ hb1
    have f3 := fun x : BelowBy w1 => (kept_cell x.h _ _ (Nat.lt_of_lt_of_le hb1L hb1.size)).trans m3
    have f1 := fun x : BelowBy w1 => (kept_cell x.h _ _ (Nat.lt_of_lt_of_le hb2L hb1.size)).trans m1
    have f6 := fun x : BelowBy w1 => (kept_cell x.h _ _ (Nat.lt_of_lt_of_le hb2L hb1.size)).trans m6
    clear m3 m1 m6
    have HB1 := Lib.hid hb1; clear hb1
    go_wp2_with fail
    refine wp_region_below (by kernel_rfl) (by kernel_rfl) ?_
    repeat (go_big_quiet_step (fail))
    refine wpQuiet_nil ?_
    intro wq hw'
    obtain ⟨⟨_, hbq⟩, hwq⟩ := hw'
    subst hwq
    (try dsimp only)
    go_wp2
    go_ret2
    exact ⟨by simp, kept_trans HB1.out hbq⟩

attribute [local go_sem] Oper.semAt_some

/-- The indices and numbers of the cranes that are let through among the first k; f: whether, and the number. -/
def numsU (f : Nat → Bool × Int) (k : Nat) : List (Int × Int) := (List.range k).filterMap fun j => if (f j).1 then some ((j : Int), (f j).2) else none

theorem numsU_succ (f : Nat → Bool × Int) (k : Nat) : numsU f (k + 1) = numsU f k ++ (if (f k).1 then [((k : Int), (f k).2)] else []) := by
  unfold numsU
  rw [List.range_succ, List.filterMap_append]
  congr 1
  cases h : (f k).1 <;> simp [h]

theorem numsU_len (f : Nat → Bool × Int) (k : Nat) : (numsU f k).length ≤ k := by
  unfold numsU
  exact Nat.le_trans (List.length_filterMap_le _ _) (by simp)

abbrev enc2 (p : Int × Int) : Array Value := #[.int .i64 p.1, .int .i64 p.2]

theorem grown_of_below {w w' : World} (h : Below w.heap.size w w') : w.grownBy w' none := ⟨h.os, h.tape, h.output, h.size, fun k hk _ => h.block k hk⟩

/- sem_round -/
set_option maxRecDepth 100000 in
set_option maxHeartbeats 2000000 in
open Go.Shelf in
theorem ableSeq_any (Inv : World → Prop) (pS pF fb lb : Nat) (c : Value) (ks : List (Cr × Value)) (f : Nat → Bool × Int) (n : Nat) (hn : 2 ≤ n) (w : World)
    (h0 : ∀ W, Below w.heap.size w W → Inv W)
    (hS : ∀ u, Inv u → u.cell? ⟨pS, 0, none⟩ = some c)
    (hF : ∀ u, Inv u → u.cell? ⟨pF, 0, none⟩ = some (.func (.func 69) #[] #[.pointer (some ⟨fb, 0, none⟩), .pointer (some ⟨lb, 0, none⟩)]))
    (hR : ∀ u, Inv u → RdK u c ks)
    (hK : ∀ u u', Inv u → Below u.heap.size u u' → Inv u')
    (hN : ∀ u j b o (hj : j < ks.length), Inv u → CrAt u b o ks[j].1 ks[j].2 → Calls Tryz.prog 69 #[.pointer (some ⟨b, o, none⟩), .pointer (some ⟨fb, 0, none⟩), .pointer (some ⟨lb, 0, none⟩)] u fun e u' => e = .returned (.tuple #[.int .i64 (f j).2, .bool (f j).1]) ∧ Below u.heap.size u u') :
    SeqStopsK Fence.wide n Tryz.prog 67 #[.pointer (some ⟨pS, 0, none⟩), .pointer (some ⟨pF, 0, none⟩)] enc2 (fun W W' => Inv W → Inv W') (fun xs => xs = numsU f ks.length) (fun _ => True) ks.length w := by
  intro l J Jx W hW hJ hJx hY hj0
  have hi0 := h0 W hW
  obtain ⟨A, cp, rfl, hl, _⟩ := RdK_at (hR W hi0)
  have cS0 := hS W hi0
  refine callsIn_of_wp Tryz.func67 rfl trivial ?_ rfl
  simp only [Tryz.ntmps67, List.size_toArray, List.length_cons, List.length_nil, Nat.reduceAdd, Nat.reduceSub, Array.replicate_succ, Array.replicate_zero, List.push_toArray, List.append_toArray, List.nil_append, List.cons_append]
  gi_wp2
  gi_loopw [10] (fun i wr => ∃ k : Nat, k ≤ ks.length ∧ i = .int .i64 k ∧ J (numsU f k) wr ∧ Inv wr) (fun i _ => ks.length - (intOf i).toNat)
  case atStart => exact ⟨0, Nat.zero_le _, rfl, hj0, hi0⟩
  case round =>
    obtain ⟨k, hk, rfl, hJs, hiv⟩ := hrel
    have cS := hS _ hiv
    have cF := hF _ hiv
    by_cases hlt : k < ks.length
    · obtain ⟨A', cp', eA, _, r⟩ := RdK_at (hR _ hiv)
      obtain ⟨b, off, hA, hcr⟩ := r k hlt
      injection eA with e1 e2 e3
      subst e1 e3
      subst hA
      have hc := fun u (q : Below wr.heap.size wr u) => hN u k b (off + k * 7) hlt (hK _ _ hiv q) (CrAt_kept hcr q)
      have HKW := Lib.hid (fun u (q : Below wr.heap.size wr u) => hK _ _ hiv q)
      have HJW := Lib.hid (fun u (q : Below wr.heap.size wr u) => hJ _ wr u none hJs (grown_of_below q) (fun r e => by cases e))
      have hmx : Tryz.prog.follows .mixedOrders = true := by kernel_rfl
      have hd : 1 ≤ n - 1 := by omega
      have hlen := numsU_len f k
      have hsu := numsU_succ f k
      clear r hcr hS hF hR hN
      generalize (f k).2 = v at *
      cases hp : (f k).1
      · rw [hp] at hc hsu
        simp only [Bool.false_eq_true, if_false, List.append_nil] at hsu
        have HC := Lib.hid hc; clear hc hp
        gi_wp2
        gi_region_with_o (refine ⟨trivial, fun _ => by omega, ?_⟩; gi_at_call 69; refine (callsIn_wide.2 (HC.out _ (by go_grown))).mono ?_; rintro e w1 ⟨rfl, hb1⟩; have k1 := kept_trans (a := wr) (by go_grown) hb1)
        all_goals
          gi_wp2
          refine ⟨fun _ h => (by cases h), ?_⟩
          gi_wp2
          go_roundw
          case rel => exact ⟨k + 1, by omega, by go_num, by rw [hsu]; exact HJW.out _ k1, HKW.out _ k1⟩
          case measure => simp [intOf]; omega
      · rw [hp] at hc hsu
        simp only [if_true] at hsu
        have HC := Lib.hid hc; clear hc hp
        gi_wp2
        gi_region_with_o (refine ⟨trivial, fun _ => by omega, ?_⟩; gi_at_call 69; refine (callsIn_wide.2 (HC.out _ (by go_grown))).mono ?_; rintro e w1 ⟨rfl, hb1⟩; have k1 := kept_trans (a := wr) (by go_grown) hb1)
        all_goals
          obtain ⟨fn, tmps, assign, body, hy, hR'⟩ := hY _ ((k : Int), v) w1 (HJW.out _ k1) (by omega)
          dsimp only [enc2] at hy
          gi_wp2
          refine ⟨fun _ => by omega, ?_⟩
          refine hR'.mono ?_
          rintro e W3 (⟨rfl, hJ3, hk3⟩ | ⟨rfl, hJx3⟩)
          · gi_wp2
            go_roundw
            case rel => exact ⟨k + 1, by omega, by go_num, by rw [hsu]; exact hJ3, hk3 (HKW.out _ k1)⟩
            case measure => simp [intOf]; omega
          · gi_wp2
            refine bodyPost_ret (results_none rfl _ _ _) rfl ?_
            exact ⟨⟨_, rfl⟩, .inr ⟨_, trivial, hJx3⟩⟩
    · obtain rfl : k = ks.length := by omega
      gi_wp2
      go_end0
      exact ⟨⟨_, rfl⟩, .inl ⟨_, rfl, hJs⟩⟩

/-- Whether a crane can do a lift, and its load for it. -/
noncomputable def ableF (ms : List Cr) (l : Lf) (j : Nat) : Bool × Int := match ms[j]? with | some k => (can9 k l, liftX k l) | none => (false, 0)

theorem ableF_at (T : List (Cr × Value)) (l : Lf) (j : Nat) (hj : j < T.length) : ableF (T.map (·.1)) l j = (can9 T[j].1 l, liftX T[j].1 l) := by
  simp [ableF, hj]

noncomputable def ableI (ms : List Cr) (l : Lf) (j : Nat) : Bool := (ableF ms l j).1

theorem idxs_nums (f : Nat → Bool × Int) (n : Nat) : idxsL (fun j => (f j).1) n = (numsU f n).map (·.1) := by
  induction n with
  | zero => rfl
  | succ n ih =>
    rw [numsU_succ, List.map_append, ← ih, idxsL]
    cases (f n).1 <;> simp

set_option maxHeartbeats 2000000 in
theorem specAbles_any (bs bl : Nat) (c : Value) (T : List (Cr × Value)) (l : Lf) (d : Value) (w : World) (h : RdK w c T) (hs : BoxR w bs [c]) (hl : LfAt w bl 0 l d) (hb : siteB T = true) (hf : fldB l = true) :
    Calls Tryz.prog 34 #[.pointer (some ⟨bs, 0, none⟩), .pointer (some ⟨bl, 0, none⟩)] w fun e w' => ∃ r, e = .returned r ∧ RowI w' w.heap.size w'.heap.size r (idxsL (ableI (T.map (·.1)) l) T.length) ∧ Below w.heap.size w w' := by
  obtain ⟨hn6, hcr⟩ := siteP_crane hb
  have H := Lib.hid h
  obtain ⟨A, cp, rfl, _, r⟩ := RdK_at h
  have R := Lib.hid r; clear r h
  have HC := Lib.hid hcr; clear hcr hb
  have HB := Lib.hid hs
  have HLF := Lib.hid hl
  have hbs := hs.1
  have c0 := hs.2 0 _ rfl
  clear hs hl
  go_enter Tryz.func34, Tryz.ntmps34
  go_wp2_with fail
  go_loopw [5, 6] (fun o i wr => ∃ j : Nat, j ≤ T.length ∧ i = .int .i64 (j : Int) ∧ RowI wr w.heap.size wr.heap.size o (idxsL (ableI (T.map (·.1)) l) j) ∧ Below w.heap.size w wr) (fun _ i _ => T.length - (intOf i).toNat)
  case atStart => exact ⟨0, by omega, rfl, RowI_new w, by go_grown⟩
  case round =>
    obtain ⟨j, hj, rfl, hrow, hb⟩ := hrel
    have e0 := (BoxR_kept HB.out hb).2 0 _ rfl
    by_cases hlt : j < T.length
    · obtain ⟨b, off, rfl, q⟩ := R.out j hlt
      have hl := fun w4 (hw4 : Below wr.heap.size wr w4) => specCan9_any b (off + j * 7) bl 0 T[j].1 l T[j].2 d w4 (CrAt_kept q (kept_trans hb hw4)) (LfAt_kept HLF.out (kept_trans hb hw4)) (HC.out j hlt) hf
      have hst : idxsL (ableI (T.map (·.1)) l) (j + 1) = if can9 T[j].1 l then idxsL (ableI (T.map (·.1)) l) j ++ [(j : Int)] else idxsL (ableI (T.map (·.1)) l) j := by rw [idxsL]; simp only [ableI, ableF_at T l j hlt]
      have hln := idxsL_len (ableI (T.map (·.1)) l) j
      generalize idxsL (ableI (T.map (·.1)) l) j = zs at *
      clear q
      cases hE : can9 T[j].1 l
      · simp only [hE, if_false, Bool.false_eq_true] at hl hst
        have HL := Lib.hid hl; clear hl hE
        have HST := Lib.hid hst; clear hst
        have HROW := Lib.hid hrow; clear hrow
        go_wp2_with fail
        refine (HL.out _ (Below.refl _ _)).mono ?_
        rintro e w4 ⟨rfl, hb4⟩
        go_wp2
        go_roundw
        case rel => exact ⟨j + 1, by omega, by go_num, by rw [HST.out]; exact RowI_lo (RowI_kept HROW.out hb4) (Nat.le_refl _) hb4.size, kept_trans hb hb4⟩
        case measure => simp [intOf]; omega
      · simp only [hE, if_true] at hl hst
        have HL := Lib.hid hl; clear hl hE
        have HST := Lib.hid hst; clear hst
        have HROW := Lib.hid hrow; clear hrow
        go_wp2_with fail
        refine (HL.out _ (Below.refl _ _)).mono ?_
        rintro e w4 ⟨rfl, hb4⟩
        have hrow4 := RowI_lo (RowI_kept HROW.out hb4) (Nat.le_refl _) hb4.size
        have hb24 := kept_trans hb hb4
        go_wp2_with (at_builtin; refine wp_appendI rfl (.tmp 25) (.tmp 27) rfl w.heap.size _ _ _ rfl hrow4 rfl hb24 (Nat.le_refl _) hb24.size (by omega) ?_; intro v' w' hrow' hb' _)
        go_roundw
        case rel => exact ⟨j + 1, by omega, by go_num, by rw [HST.out]; exact hrow', hb'⟩
        case measure => simp [intOf]; omega
    · have : j = T.length := by omega
      subst this
      go_wp2
      go_ret
      exact ⟨_, rfl, hrow, hb⟩

theorem siteP_len {T : List (Cr × Value)} (h : siteB T = true) : T.length ≤ 6 := (siteP_crane h).1

/-- What AblesOf returns. -/
noncomputable def ablesR (ks : List (Cr × Value)) (l : Lf) : List Int × Int := if siteB ks && fldB l then (idxsL (ableI (ks.map (·.1)) l) ks.length, 0) else ([], 1)

theorem ablesR_map {T ks : List (Cr × Value)} (h : T.map (·.1) = ks.map (·.1)) (l : Lf) : ablesR T l = ablesR ks l := by
  unfold ablesR
  rw [siteB_map h, h, (map_at h).1]

theorem implLiftLoadP_any (l : Lf) (d : Value) (w : World) (hd : RdI w d l.af) :
    Calls Tryz.prog 68 #[.agg #[.string l.nm, .int .i64 l.wt, .int .i64 l.fx, .int .i64 l.fy, .int .i64 l.tx, .int .i64 l.ty, .int .i64 l.h, .int .i64 l.dl, d]] w fun e w' => ∃ lb, e = .returned (.func (.func 96) #[] #[.pointer (some ⟨lb, 0, none⟩)]) ∧ LfAt w' lb 0 l d ∧ w.heap.size ≤ lb ∧ Below w.heap.size w w' := by
  have hmf : ∀ (fn : Fn) (first cap : Array Value) (w : World), (Instr.makeFunc fn first cap).run Tryz.prog w = .ok (.func fn first cap) w := fun _ _ _ _ => rfl
  obtain ⟨A2, cp2, rfl, _, _⟩ := RdI_slice hd
  have HD := Lib.hid hd; clear hd
  obtain ⟨ls, i1, i2, i3, i4, i5, i6, i7, us⟩ := l
  dsimp only at *
  go_enter Tryz.func68, Tryz.ntmps68
  go_wp2
  go_ret
  exact ⟨_, rfl, LfAt_box ls i1 i2 i3 i4 i5 i6 i7 us _ w _ HD.out, Nat.le_refl _, by go_grown⟩

theorem implAbleLoadP_any (l : Lf) (d : Value) (w : World) (hd : RdI w d l.af) :
    Calls Tryz.prog 41 #[.agg #[.string l.nm, .int .i64 l.wt, .int .i64 l.fx, .int .i64 l.fy, .int .i64 l.tx, .int .i64 l.ty, .int .i64 l.h, .int .i64 l.dl, d]] w fun e w' => ∃ fb mb lb, e = .returned (.func (.func 69) #[] #[.pointer (some ⟨fb, 0, none⟩), .pointer (some ⟨lb, 0, none⟩)]) ∧ LfAt w' lb 0 l d ∧ LfAt w' mb 0 l d ∧ fb < w'.heap.size ∧ w'.cell? ⟨fb, 0, none⟩ = some (.func (.func 96) #[] #[.pointer (some ⟨mb, 0, none⟩)]) ∧ (w.heap.size ≤ fb ∧ w.heap.size ≤ mb ∧ w.heap.size ≤ lb) ∧ Below w.heap.size w w' := by
  have hmf : ∀ (fn : Fn) (first cap : Array Value) (w : World), (Instr.makeFunc fn first cap).run Tryz.prog w = .ok (.func fn first cap) w := fun _ _ _ _ => rfl
  have hsf : ∀ (a : Addr) (fn : Fn) (first cap : Array Value) (m : Mode) (w : World), (store a (.func fn first cap) m).run Tryz.prog w = stored Tryz.prog w a (.func fn first cap) m := fun a fn first cap m w => run_store Tryz.prog w a _ m rfl
  have HLL := Lib.hid (fun u (q : RdI u d l.af) => implLiftLoadP_any l d u q)
  obtain ⟨A2, cp2, rfl, _, _⟩ := RdI_slice hd
  have HD := Lib.hid hd; clear hd
  obtain ⟨ls, i1, i2, i3, i4, i5, i6, i7, us⟩ := l
  dsimp only at *
  have HB := Lib.hid (LfAt_box ls i1 i2 i3 i4 i5 i6 i7 us _ w 40 HD.out)
  go_enter Tryz.func41, Tryz.ntmps41
  go_wp2_with fail
  refine (HLL.out _ (RdI_kept HD.out (by go_grown))).mono ?_
  rintro e w1 ⟨mb, rfl, hmb, hml, hb1⟩
  have hz1 := hb1.size
  simp only [World.size_alloc] at hml hz1
  have K1 := Lib.hid (LfAt_kept HB.out hb1)
  have K2 := Lib.hid hmb; clear hmb
  have b1 := kept_trans (a := w) (by go_grown) hb1
  go_wp2
  go_ret
  exact ⟨w1.heap.size, mb, w.heap.size, rfl, LfAt_kept K1.out (by go_grown), LfAt_kept K2.out (by go_grown), by go_size, by go_simp, ⟨by omega, by omega, Nat.le_refl _⟩, kept_trans b1 (by go_grown)⟩

theorem implNumbersOfP_any (c : Value) (fn : Fn) (first cap : Array Value) (hc : ∃ A n cp, c = .slice A n cp) (w : World) :
    Calls Tryz.prog 40 #[.agg #[c], .func fn first cap] w fun e w' => ∃ pS pF, e = .returned (.func (.func 67) #[] #[.pointer (some ⟨pS, 0, none⟩), .pointer (some ⟨pF, 0, none⟩)]) ∧ BoxR w' pS [c] ∧ BoxR w' pF [.func fn first cap] ∧ (w.heap.size ≤ pS ∧ w.heap.size ≤ pF) ∧ Below w.heap.size w w' := by
  obtain ⟨A, n, cp, rfl⟩ := hc
  have hmf : ∀ (fn : Fn) (first cap : Array Value) (w : World), (Instr.makeFunc fn first cap).run Tryz.prog w = .ok (.func fn first cap) w := fun _ _ _ _ => rfl
  go_enter Tryz.func40, Tryz.ntmps40
  go_wp2
  go_ret
  exact ⟨w.heap.size, w.heap.size + 1, rfl, BoxR_up (BoxR_new' rfl), BoxR_new' (by simp), ⟨Nat.le_refl _, Nat.le_succ _⟩, by go_grown⟩

theorem cell_far {W W1 : World} {row : Option Nat} (hg : W.grownBy W1 row) (b i : Nat) (hb : b < W.heap.size) (hr : row ≠ some b) : W1.cell? ⟨b, i, none⟩ = W.cell? ⟨b, i, none⟩ := by
  have h := hg.block b hb (fun e => hr e.symm)
  simp [World.cell?, h]

theorem BoxR_far {W W1 : World} {row : Option Nat} {b : Nat} {cs : List Value} (h : BoxR W b cs) (hg : W.grownBy W1 row) (hr : row ≠ some b) : BoxR W1 b cs :=
  ⟨Nat.lt_of_lt_of_le h.1 hg.size, fun i v hv => (cell_far hg b i h.1 hr).trans (h.2 i v hv)⟩

theorem LfAt_far {W W1 : World} {row : Option Nat} {b o : Nat} {k : Lf} {c : Value} (h : LfAt W b o k c) (hg : W.grownBy W1 row) (hr : row ≠ some b) (hd : RdI W1 c k.af) : LfAt W1 b o k c := by
  obtain ⟨hlt, ⟨h0, h1, h2, h3, h4, h5, h6, h9, h8⟩, _⟩ := h
  refine ⟨Nat.lt_of_lt_of_le hlt hg.size, ⟨?_, ?_, ?_, ?_, ?_, ?_, ?_, ?_, ?_⟩, hd⟩ <;> (rw [cell_far hg b _ hlt hr]; assumption)

/-- What the rounds over the able cranes read. -/
def AbI (c : Value) (l : Lf) (d : Value) (w2 : World) (pS pF fb mb lb : Nat) (W : World) : Prop := BoxR W pS [c] ∧ BoxR W pF [.func (.func 69) #[] #[.pointer (some ⟨fb, 0, none⟩), .pointer (some ⟨lb, 0, none⟩)]] ∧ BoxR W fb [.func (.func 96) #[] #[.pointer (some ⟨mb, 0, none⟩)]] ∧ LfAt W lb 0 l d ∧ LfAt W mb 0 l d ∧ Below w2.heap.size w2 W

theorem AbI_kept {c : Value} {l : Lf} {d : Value} {w2 : World} {pS pF fb mb lb : Nat} {W W1 : World} (h : AbI c l d w2 pS pF fb mb lb W) (hb : Below W.heap.size W W1) : AbI c l d w2 pS pF fb mb lb W1 :=
  ⟨BoxR_kept h.1 hb, BoxR_kept h.2.1 hb, BoxR_kept h.2.2.1 hb, LfAt_kept h.2.2.2.1 hb, LfAt_kept h.2.2.2.2.1 hb, kept_trans h.2.2.2.2.2 hb⟩

theorem AbI_far {c : Value} {l : Lf} {d : Value} {w2 : World} {pS pF fb mb lb : Nat} {W W1 : World} {row : Option Nat} (hd : RdI w2 d l.af) (h : AbI c l d w2 pS pF fb mb lb W) (hg : W.grownBy W1 row) (hr : ∀ g, row = some g → w2.heap.size ≤ g ∧ g ≠ pS ∧ g ≠ pF ∧ g ≠ fb ∧ g ≠ mb ∧ g ≠ lb) : AbI c l d w2 pS pF fb mb lb W1 := by
  have hb := grown_below h.2.2.2.2.2 hg (fun g e => (hr g e).1)
  have hd1 := RdI_kept hd hb
  exact ⟨BoxR_far h.1 hg (fun e => (hr _ e).2.1 rfl), BoxR_far h.2.1 hg (fun e => (hr _ e).2.2.1 rfl), BoxR_far h.2.2.1 hg (fun e => (hr _ e).2.2.2.1 rfl), LfAt_far h.2.2.2.1 hg (fun e => (hr _ e).2.2.2.2.2 rfl) hd1, LfAt_far h.2.2.2.2.1 hg (fun e => (hr _ e).2.2.2.2.1 rfl) hd1, hb⟩

theorem ableSeq9_any (c : Value) (T : List (Cr × Value)) (l : Lf) (d : Value) (w2 : World) (h : RdK w2 c T) (hb : siteB T = true) (hf : fldB l = true) (hn : ∀ p ∈ T, p.1.nm.size ≤ 1000000) (pS pF fb mb lb : Nat) (z : World) (hz : AbI c l d w2 pS pF fb mb lb z) (n : Nat) (hn2 : 2 ≤ n) :
    SeqStopsK Fence.wide n Tryz.prog 67 #[.pointer (some ⟨pS, 0, none⟩), .pointer (some ⟨pF, 0, none⟩)] enc2 (fun W W' => AbI c l d w2 pS pF fb mb lb W → AbI c l d w2 pS pF fb mb lb W') (fun xs => xs = numsU (ableF (T.map (·.1)) l) T.length) (fun _ => True) T.length z := by
  obtain ⟨hn6, hcr⟩ := siteP_crane hb
  refine ableSeq_any (AbI c l d w2 pS pF fb mb lb) pS pF fb lb c T (ableF (T.map (·.1)) l) n hn2 z (fun W h => AbI_kept hz h)
    (fun x hx => hx.1.2 0 _ rfl) (fun x hx => hx.2.1.2 0 _ rfl) (fun x hx => RdK_kept h hx.2.2.2.2.2) (fun x x' hx hx' => AbI_kept hx hx')
    (fun x j b o hj hx hcx => ?_)
  rw [ableF_at T l j hj]
  exact ableFn_any b o fb mb lb T[j].1 l T[j].2 d d x hcx hx.2.2.2.1 hx.2.2.2.2.1 hx.2.2.1.1 (hx.2.2.1.2 0 _ rfl) (hcr j hj) hf (hn _ (List.getElem_mem hj))

/- sem_round -/
set_option maxRecDepth 100000 in
set_option maxHeartbeats 4000000 in
open Go.Shelf in
theorem implAO_any (c : Value) (T ks : List (Cr × Value)) (l : Lf) (d : Value) (w : World) (h : RdK w c T) (hd : RdI w d l.af) (hcap : ∃ A cp, c = .slice A T.length cp ∧ T.length ≤ cp) (hm : T.map (·.1) = ks.map (·.1)) (hn : ∀ p ∈ ks, p.1.nm.size ≤ 1000000) (hl : l.nm.size ≤ 1000000) (he : Ers w) :
    Calls Tryz.prog 11 #[.agg #[c], .agg #[.string l.nm, .int .i64 l.wt, .int .i64 l.fx, .int .i64 l.fy, .int .i64 l.tx, .int .i64 l.ty, .int .i64 l.h, .int .i64 l.dl, d]] w fun e w' => ∃ v', e = .returned (.tuple #[v', .int .i64 (ablesR ks l).2]) ∧ RowI w' w.heap.size w'.heap.size v' (ablesR ks l).1 ∧ Below w.heap.size w w' := by
  rw [← ablesR_map hm]
  have KS : BoxR ((w.alloc (.cells #[c] 36)).alloc (.cells #[.string l.nm, .int .i64 l.wt, .int .i64 l.fx, .int .i64 l.fy, .int .i64 l.tx, .int .i64 l.ty, .int .i64 l.h, .int .i64 l.dl, d] 40)) w.heap.size [c] := BoxR_up (BoxR_new' rfl)
  have KL : BoxR ((w.alloc (.cells #[c] 36)).alloc (.cells #[.string l.nm, .int .i64 l.wt, .int .i64 l.fx, .int .i64 l.fy, .int .i64 l.tx, .int .i64 l.ty, .int .i64 l.h, .int .i64 l.dl, d] 40)) (w.heap.size + 1) [.string l.nm, .int .i64 l.wt, .int .i64 l.fx, .int .i64 l.fy, .int .i64 l.tx, .int .i64 l.ty, .int .i64 l.h, .int .i64 l.dl, d] := BoxR_new' (by simp)
  have hKW : Below w.heap.size w ((w.alloc (.cells #[c] 36)).alloc (.cells #[.string l.nm, .int .i64 l.wt, .int .i64 l.fx, .int .i64 l.fy, .int .i64 l.tx, .int .i64 l.ty, .int .i64 l.h, .int .i64 l.dl, d] 40)) := by go_grown
  have H0 := fun z (q : Below ((w.alloc (.cells #[c] 36)).alloc (.cells #[.string l.nm, .int .i64 l.wt, .int .i64 l.fx, .int .i64 l.fy, .int .i64 l.tx, .int .i64 l.ty, .int .i64 l.h, .int .i64 l.dl, d] 40)).heap.size ((w.alloc (.cells #[c] 36)).alloc (.cells #[.string l.nm, .int .i64 l.wt, .int .i64 l.fx, .int .i64 l.fy, .int .i64 l.tx, .int .i64 l.ty, .int .i64 l.h, .int .i64 l.dl, d] 40)) z) => implVS_any c T ks z (RdK_kept h (kept_trans hKW q)) hcap hm hn (Ers_kept he (kept_trans hKW q))
  have H1 := fun z (q : Below ((w.alloc (.cells #[c] 36)).alloc (.cells #[.string l.nm, .int .i64 l.wt, .int .i64 l.fx, .int .i64 l.fy, .int .i64 l.tx, .int .i64 l.ty, .int .i64 l.h, .int .i64 l.dl, d] 40)).heap.size ((w.alloc (.cells #[c] 36)).alloc (.cells #[.string l.nm, .int .i64 l.wt, .int .i64 l.fx, .int .i64 l.fy, .int .i64 l.tx, .int .i64 l.ty, .int .i64 l.h, .int .i64 l.dl, d] 40)) z) => implPlain_any l d z (RdI_kept hd (kept_trans hKW q)) hl
  rw [← siteB_map hm] at H0
  have HBO := fun (hb : siteB T = true) (hf : fldB l = true) z2 (q : Below w.heap.size w z2) => ableSeq9_any c T l d z2 (RdK_kept h q) hb hf (names_map hm hn)
  have HRI := Lib.hid (fun z (q : Below w.heap.size w z) => RdI_kept hd q)
  have HPL := Lib.hid (fun z (q : Below w.heap.size w z) => implAbleLoadP_any l d z (RdI_kept hd q))
  have RF := Lib.hid (fun z (q : Below ((w.alloc (.cells #[c] 36)).alloc (.cells #[.string l.nm, .int .i64 l.wt, .int .i64 l.fx, .int .i64 l.fy, .int .i64 l.tx, .int .i64 l.ty, .int .i64 l.h, .int .i64 l.dl, d] 40)).heap.size ((w.alloc (.cells #[c] 36)).alloc (.cells #[.string l.nm, .int .i64 l.wt, .int .i64 l.fx, .int .i64 l.fy, .int .i64 l.tx, .int .i64 l.ty, .int .i64 l.h, .int .i64 l.dl, d] 40)) z) => And.intro (BoxR_kept KS q) (BoxR_kept KL q))
  have HW0 := Lib.hid hKW
  unfold ablesR
  obtain ⟨A, cp, rfl, _⟩ := hcap
  have HNO := Lib.hid (fun fn first cap z => implNumbersOfP_any (.slice A T.length cp) fn first cap ⟨_, _, _, rfl⟩ z)
  obtain ⟨A2, cp2, rfl, _, _⟩ := RdI_slice hd
  clear h hm hn he KS KL hKW hd
  cases p0 : siteB T <;> rw [p0] at H0
  · simp only [Bool.false_and, Bool.false_eq_true, if_false]
    have H0 := Lib.hid H0
    clear H1 HBO
    obtain ⟨ls, i1, i2, i3, i4, i5, i6, i7, us⟩ := l
    dsimp only at *
    go_enter Tryz.func11, Tryz.ntmps11
    go_wp2_with fail
    refine (H0.out _ (Below.refl _ _)).mono ?_
    rintro e w1 ⟨rfl, k1⟩
    go_wp2
    go_ret2
    exact ⟨_, rfl, RowI_nil _ _ _, kept_trans HW0.out k1⟩
  cases p1 : fldB l <;> rw [p1] at H1
  · simp only [Bool.true_and, Bool.false_eq_true, if_false]
    have H0 := Lib.hid H0
    have H1 := Lib.hid H1
    clear HBO
    obtain ⟨ls, i1, i2, i3, i4, i5, i6, i7, us⟩ := l
    dsimp only at *
    go_enter Tryz.func11, Tryz.ntmps11
    go_wp2_with fail
    refine (H0.out _ (Below.refl _ _)).mono ?_
    rintro e w1 ⟨rfl, k1⟩
    have l0 : w1.cell? ⟨w.heap.size + 1, 0, none⟩ = some (.string ls) := (RF.out _ k1).2.2 0 _ rfl
    have l1 : w1.cell? ⟨w.heap.size + 1, 1, none⟩ = some (.int .i64 i1) := (RF.out _ k1).2.2 1 _ rfl
    have l2 : w1.cell? ⟨w.heap.size + 1, 2, none⟩ = some (.int .i64 i2) := (RF.out _ k1).2.2 2 _ rfl
    have l3 : w1.cell? ⟨w.heap.size + 1, 3, none⟩ = some (.int .i64 i3) := (RF.out _ k1).2.2 3 _ rfl
    have l4 : w1.cell? ⟨w.heap.size + 1, 4, none⟩ = some (.int .i64 i4) := (RF.out _ k1).2.2 4 _ rfl
    have l5 : w1.cell? ⟨w.heap.size + 1, 5, none⟩ = some (.int .i64 i5) := (RF.out _ k1).2.2 5 _ rfl
    have l6 : w1.cell? ⟨w.heap.size + 1, 6, none⟩ = some (.int .i64 i6) := (RF.out _ k1).2.2 6 _ rfl
    have l7 : w1.cell? ⟨w.heap.size + 1, 7, none⟩ = some (.int .i64 i7) := (RF.out _ k1).2.2 7 _ rfl
    have l8 : w1.cell? ⟨w.heap.size + 1, 8, none⟩ = some (.slice A2 us.length cp2) := (RF.out _ k1).2.2 8 _ rfl
    go_wp2_with fail
    refine (H1.out _ k1).mono ?_
    rintro e w2 ⟨rfl, hb2⟩
    have k2 := kept_trans (a := ((w.alloc (.cells #[.slice A T.length cp] 36)).alloc (.cells #[.string ls, .int .i64 i1, .int .i64 i2, .int .i64 i3, .int .i64 i4, .int .i64 i5, .int .i64 i6, .int .i64 i7, .slice A2 us.length cp2] 40))) k1 hb2
    go_wp2
    go_ret2
    exact ⟨_, rfl, RowI_nil _ _ _, kept_trans HW0.out k2⟩
  simp only [Bool.true_and, if_true]
  have hBO := HBO p0 p1
  have HBX := Lib.hid hBO
  have hix := idxs_nums (ableF (T.map (·.1)) l) T.length
  have HIX := Lib.hid (show idxsL (ableI (T.map (·.1)) l) T.length = (numsU (ableF (T.map (·.1)) l) T.length).map (·.1) from hix)
  have hlen6 := siteP_len p0
  have H0 := Lib.hid H0
  have H1 := Lib.hid H1
  clear HBO hBO p0 p1 hix
  rw [HIX.out]
  clear HIX
  generalize ableF (T.map (·.1)) l = F9 at *
  obtain ⟨ls, i1, i2, i3, i4, i5, i6, i7, us⟩ := l
  dsimp only at *
  have hmx : Tryz.prog.follows .mixedOrders = true := by kernel_rfl
  obtain ⟨i0, hi, hz0, hz1, hz2⟩ := info_parts info_int64
  refine (callsIn_wide (n := 9)).1 ?_
  refine callsIn_of_wp_marks Tryz.func11 rfl trivial ?_ rfl
  simp only [Tryz.ntmps11, List.size_toArray, List.length_cons, List.length_nil, Nat.reduceAdd, Nat.reduceSub, Array.replicate_succ, Array.replicate_zero, List.push_toArray, List.append_toArray, List.nil_append, List.cons_append]
  gi_wp2
  refine ⟨trivial, ?_⟩
  refine (callsIn_wide.2 (H0.out _ (Below.refl _ _))).mono ?_
  rintro e w1 ⟨rfl, k1⟩
  have l0 : w1.cell? ⟨w.heap.size + 1, 0, none⟩ = some (.string ls) := (RF.out _ k1).2.2 0 _ rfl
  have l1 : w1.cell? ⟨w.heap.size + 1, 1, none⟩ = some (.int .i64 i1) := (RF.out _ k1).2.2 1 _ rfl
  have l2 : w1.cell? ⟨w.heap.size + 1, 2, none⟩ = some (.int .i64 i2) := (RF.out _ k1).2.2 2 _ rfl
  have l3 : w1.cell? ⟨w.heap.size + 1, 3, none⟩ = some (.int .i64 i3) := (RF.out _ k1).2.2 3 _ rfl
  have l4 : w1.cell? ⟨w.heap.size + 1, 4, none⟩ = some (.int .i64 i4) := (RF.out _ k1).2.2 4 _ rfl
  have l5 : w1.cell? ⟨w.heap.size + 1, 5, none⟩ = some (.int .i64 i5) := (RF.out _ k1).2.2 5 _ rfl
  have l6 : w1.cell? ⟨w.heap.size + 1, 6, none⟩ = some (.int .i64 i6) := (RF.out _ k1).2.2 6 _ rfl
  have l7 : w1.cell? ⟨w.heap.size + 1, 7, none⟩ = some (.int .i64 i7) := (RF.out _ k1).2.2 7 _ rfl
  have l8 : w1.cell? ⟨w.heap.size + 1, 8, none⟩ = some (.slice A2 us.length cp2) := (RF.out _ k1).2.2 8 _ rfl
  gi_wp2
  refine ⟨trivial, ?_⟩
  refine (callsIn_wide.2 (H1.out _ k1)).mono ?_
  rintro e w2 ⟨rfl, hb2⟩
  have k2 := kept_trans (a := ((w.alloc (.cells #[.slice A T.length cp] 36)).alloc (.cells #[.string ls, .int .i64 i1, .int .i64 i2, .int .i64 i3, .int .i64 i4, .int .i64 i5, .int .i64 i6, .int .i64 i7, .slice A2 us.length cp2] 40))) k1 hb2
  clear l0 l1 l2 l3 l4 l5 l6 l7 l8
  have l0 : w2.cell? ⟨w.heap.size + 1, 0, none⟩ = some (.string ls) := (RF.out _ k2).2.2 0 _ rfl
  have l1 : w2.cell? ⟨w.heap.size + 1, 1, none⟩ = some (.int .i64 i1) := (RF.out _ k2).2.2 1 _ rfl
  have l2 : w2.cell? ⟨w.heap.size + 1, 2, none⟩ = some (.int .i64 i2) := (RF.out _ k2).2.2 2 _ rfl
  have l3 : w2.cell? ⟨w.heap.size + 1, 3, none⟩ = some (.int .i64 i3) := (RF.out _ k2).2.2 3 _ rfl
  have l4 : w2.cell? ⟨w.heap.size + 1, 4, none⟩ = some (.int .i64 i4) := (RF.out _ k2).2.2 4 _ rfl
  have l5 : w2.cell? ⟨w.heap.size + 1, 5, none⟩ = some (.int .i64 i5) := (RF.out _ k2).2.2 5 _ rfl
  have l6 : w2.cell? ⟨w.heap.size + 1, 6, none⟩ = some (.int .i64 i6) := (RF.out _ k2).2.2 6 _ rfl
  have l7 : w2.cell? ⟨w.heap.size + 1, 7, none⟩ = some (.int .i64 i7) := (RF.out _ k2).2.2 7 _ rfl
  have l8 : w2.cell? ⟨w.heap.size + 1, 8, none⟩ = some (.slice A2 us.length cp2) := (RF.out _ k2).2.2 8 _ rfl
  have s0 := (RF.out _ k2).1.2 0 _ rfl
  have hl0 := World.block_lt_of_cell? _ _ s0
  have hl1 := World.block_lt_of_cell? _ _ l0
  gi_wp2
  have k3 : Below w2.heap.size w2 ((w2.alloc (.cells #[] 2)).alloc (.cells #[.slice (some ⟨w2.heap.size, 0, none⟩) 0 0] 27)) := by go_grown
  gi_region_with_o (first
    | (refine ⟨trivial, ?_⟩; gi_at_call 40; have pq := q1; refine (callsIn_wide.2 (HNO.out _ _ _ _)).mono ?_; rintro e v2 ⟨pS, pF, rfl, hS, hF, hpl, h2⟩; have q2 := kept_trans (a := ((w2.alloc (.cells #[] 2)).alloc (.cells #[.slice (some ⟨w2.heap.size, 0, none⟩) 0 0] 27))) q1 h2; have hLb := LfAt_kept hLb h2; have hMb := LfAt_kept hMb h2; have hFb := BoxR_kept hFb h2)
    | (refine ⟨trivial, ?_⟩; gi_at_call 41; refine (callsIn_wide.2 (HPL.out _ (kept_trans HW0.out (kept_trans k2 (kept_trans k3 (by go_grown)))))).mono ?_; rintro e v1 ⟨fb, mb, lb, rfl, hLb, hMb, hfl, hfc, hpa, h1⟩; have q1 := kept_trans (a := ((w2.alloc (.cells #[] 2)).alloc (.cells #[.slice (some ⟨w2.heap.size, 0, none⟩) 0 0] 27))) (by go_grown) h1; have hFb := BoxR_one hfl hfc; have s1 : v1.cell? ⟨w.heap.size, 0, none⟩ = some (.slice A T.length cp) := (RF.out _ (kept_trans k2 (kept_trans k3 q1))).1.2 0 _ rfl))
  all_goals
    gi_wp2
    have kz := kept_trans k3 q2
    have hq1 := q1.size
    have hq2 := q2.size
    simp only [World.size_alloc] at hq1 hq2
    simp at hpa hpl
    have hBx : Boxed v2 (w2.heap.size + 1) 27 (.slice (some ⟨w2.heap.size, 0, none⟩) 0 0) := by
      have h := Boxed.new (w2.alloc (.cells #[] 2)) 27 (.slice (some ⟨w2.heap.size, 0, none⟩) 0 0)
      rw [World.size_alloc] at h
      exact h.kept (grown_of_below q2) (by simp)
    have hRw : v2.ownsRow w2.heap.size 2 1 (.slice (some ⟨w2.heap.size, 0, none⟩) 0 0) 0 [] := (RowI_kept (RowI_kept (RowI_new w2) (by go_grown)) q2).1
    have hAI : AbI (.slice A T.length cp) ⟨ls, i1, i2, i3, i4, i5, i6, i7, us⟩ (.slice A2 us.length cp2) w2 pS pF fb mb lb v2 := ⟨hS, hF, hFb, hLb, hMb, kz⟩
    have hri := HRI.out w2 (kept_trans HW0.out k2)
    have hp1 := hS.1
    have hp2 := hF.1
    have hp3 := hFb.1
    have hp4 := hLb.1
    have hp5 := hMb.1
    have hfar : ∀ g, v2.heap.size ≤ g → w2.heap.size ≤ g ∧ g ≠ pS ∧ g ≠ pF ∧ g ≠ fb ∧ g ≠ mb ∧ g ≠ lb := fun g hg => by omega
    have hnear : ∀ g, g = w2.heap.size ∨ g = w2.heap.size + 1 → w2.heap.size ≤ g ∧ g ≠ pS ∧ g ≠ pF ∧ g ≠ fb ∧ g ≠ mb ∧ g ≠ lb := fun g hg => by omega
    clear s0 l0 l1 l2 l3 l4 l5 l6 l7 l8 s1
    refine wpIn_rangeFunc_ownF rfl (by omega) (gf := 67) (lb := #[.pointer (some ⟨pS, 0, none⟩), .pointer (some ⟨pF, 0, none⟩)]) rfl trivial (enters_of Tryz.func67 (by kernel_rfl) rfl)
      (HBX.out w2 (kept_trans HW0.out k2) pS pF fb mb lb _ hAI _ (by omega)) (fun h k x => k (h x)) (fun W l o o' hl h a b hA => AbI_far hri hA (grownBy_putObj' W l o') (fun g e => by cases e; exact hfar _ hl)) (Below.refl _ _) (fun _ => rfl)
      (fun pre W => (∃ v, Boxed W (w2.heap.size + 1) 27 v ∧ W.ownsRow w2.heap.size 2 1 v pre.length (pre.map fun x => Value.int .i64 x.1) ∧ ∀ g, v.ownBlock = some g → g = w2.heap.size ∨ v2.heap.size ≤ g) ∧ AbI (.slice A T.length cp) ⟨ls, i1, i2, i3, i4, i5, i6, i7, us⟩ (.slice A2 us.length cp2) w2 pS pF fb mb lb W ∧ v2.heap.size ≤ W.heap.size)
      (fun _ _ _ => False)
      (OwnFrom.and (Own.from (holdsRow_own w2.heap.size (w2.heap.size + 1) 27 2 1 (fun pre : List (Int × Int) => pre.length) (fun pre => pre.map fun x => Value.int .i64 x.1) (fun _ v => ∀ g, v.ownBlock = some g → g = w2.heap.size ∨ v2.heap.size ≤ g)) _) (fun s W W' row hs hg hr => ⟨AbI_far hri hs.1 hg (fun g e => hfar _ (hr g e).1), Nat.le_trans hs.2 hg.size⟩))
      (fun _ _ _ _ _ hs _ _ => hs)
      ⟨⟨_, hBx, hRw, fun g hg => Or.inl (by simpa [Value.ownBlock] using hg.symm)⟩, hAI, Nat.le_refl _⟩
      (fun x => { tmps := #[.agg #[.slice A T.length cp], .agg #[.string ls, .int .i64 i1, .int .i64 i2, .int .i64 i3, .int .i64 i4, .int .i64 i5, .int .i64 i6, .int .i64 i7, .slice A2 us.length cp2], .pointer (some ⟨w.heap.size, 0, none⟩), .pointer (some ⟨w.heap.size + 1, 0, none⟩), .slice none 0 0, .int .i64 0, .pointer (some ⟨w2.heap.size + 1, 0, none⟩), .int .i64 x.1, .agg #[.slice A T.length cp], .bool true, .bool false, .bool false, .agg #[.string ls, .int .i64 i1, .int .i64 i2, .int .i64 i3, .int .i64 i4, .int .i64 i5, .int .i64 i6, .int .i64 i7, .slice A2 us.length cp2], .bool true, .bool false, .bool false, .slice (some ⟨w2.heap.size, 0, none⟩) 0 0, .agg #[.slice A T.length cp], .agg #[.string ls, .int .i64 i1, .int .i64 i2, .int .i64 i3, .int .i64 i4, .int .i64 i5, .int .i64 i6, .int .i64 i7, .slice A2 us.length cp2], .func (.func 69) #[] #[.pointer (some ⟨fb, 0, none⟩), .pointer (some ⟨lb, 0, none⟩)], .func (.func 67) #[] #[.pointer (some ⟨pS, 0, none⟩), .pointer (some ⟨pF, 0, none⟩)], .int .i64 x.1, .int .i64 x.2, undef, undef, undef, undef, undef], defers := [] }) ?assign ?body ?done ?stop
    case assign =>
      intro l x W K hK
      gi_wp2
      exact hK
    case body =>
      rintro l pre x W ⟨⟨v, hv, hrow, hG⟩, hA, hsz⟩ hlt
      have hc := hv.cell
      have hBW := hA.2.2.2.2.2
      have hBs := hBW.size
      gi_wp2_with (gi_at_builtin; refine wpListIn_append_own_at _ rfl _ _ 27 rfl w2.heap.size 2 i0 (.int .i64 0) 1 8 Tryz.underlying27 hi hz0 hz1 hz2 rfl (by decide) _ _ _ rfl (hrow.alloc _) ⟨W.heap.size, 0, none⟩ 1 1 [.int .i64 x.1] rfl rfl (cell_one_new _ _ _) (by simp [Value.oneCell']) (by unfold maxLen; omega) (by omega) (by simp; omega) ?_; intro v' w1 hown' hgrow _ hat; obtain ⟨g', cap', rfl⟩ := ownsRow_succ hown'; obtain ⟨hv1, hv2, hr2, hk2, hb2⟩ := hv.appended (by decide) hrow hBW.size (Nat.le_succ _) hown' hgrow; have hc1 := hv1.cell; have hf1 := hv1.frozen)
      have hA2 := AbI_far hri (AbI_far hri (AbI_kept hA (by go_grown)) hgrow (fun g e => by rcases hG g e with e | e; exact hnear g (Or.inl e); exact hfar g e)) (grownBy_setCell' w1 (w2.heap.size + 1) (.slice (some ⟨g', 0, none⟩) (pre.length + 1) cap')) (fun g e => by cases e; exact hnear _ (Or.inr rfl))
      have hs2 := hgrow.size
      simp only [World.size_alloc] at hs2 hat
      refine ⟨hk2, fun _ => hA2, ⟨_, hv2, by simpa using hr2, fun g hg => ?_⟩, hA2, by simp; omega⟩
      rcases hat with hat | hat
      · exact hG g (hat ▸ hg)
      · rw [hat] at hg
        cases hg
        exact Or.inr (by omega)
    case done =>
      rintro D ys W hD rfl ⟨⟨v, hv, hrow, hG⟩, hA, hsz⟩ hK
      have hc := hv.cell
      gi_wp2
      refine ⟨by simp, .inl ⟨_, _, rfl, run_takeDeferred hK, ?_⟩⟩
      have hr2 := ownsRow_putObj hrow (.deferred none) hK rfl
      refine ⟨_, results_tmp2 rfl _ _ _, v, rfl, ?_, kept_trans HW0.out (kept_trans k2 (hA.2.2.2.2.2.trans (belowK_b (w := w2) (Nat.le_refl _) W D _ _ (by omega) hK rfl rfl)))⟩
      refine RowI_lo (lo := w2.heap.size) ⟨?_, hr2.lt⟩ (kept_trans HW0.out k2).size (Nat.le_refl _)
      rw [List.map_map, List.length_map]
      exact hr2
    case stop =>
      rintro D c pre W hD hpre h hK
      exact h.elim

set_option maxHeartbeats 4000000 in
theorem specAO_any (c : Value) (T ks : List (Cr × Value)) (l : Lf) (d : Value) (w : World) (h : RdK w c T) (hd : RdI w d l.af) (hm : T.map (·.1) = ks.map (·.1)) (hn : ∀ p ∈ ks, p.1.nm.size ≤ 1000000) (hl : l.nm.size ≤ 1000000) :
    Calls Tryz.prog 8 #[.agg #[c], .agg #[.string l.nm, .int .i64 l.wt, .int .i64 l.fx, .int .i64 l.fy, .int .i64 l.tx, .int .i64 l.ty, .int .i64 l.h, .int .i64 l.dl, d]] w fun e w' => ∃ v', e = .returned (.tuple #[v', .int .i64 (ablesR ks l).2]) ∧ RowI w' w.heap.size w'.heap.size v' (ablesR ks l).1 ∧ Below w.heap.size w w' := by
  have hn2 := names_map hm hn
  rw [← ablesR_map hm]
  have KS : BoxR ((w.alloc (.cells #[c] 36)).alloc (.cells #[.string l.nm, .int .i64 l.wt, .int .i64 l.fx, .int .i64 l.fy, .int .i64 l.tx, .int .i64 l.ty, .int .i64 l.h, .int .i64 l.dl, d] 40)) w.heap.size [c] := BoxR_up (BoxR_new' rfl)
  have KL0 : LfAt ((w.alloc (.cells #[c] 36)).alloc (.cells #[.string l.nm, .int .i64 l.wt, .int .i64 l.fx, .int .i64 l.fy, .int .i64 l.tx, .int .i64 l.ty, .int .i64 l.h, .int .i64 l.dl, d] 40)) (w.heap.size + 1) 0 l d := by have := LfAt_box l.nm l.wt l.fx l.fy l.tx l.ty l.h l.dl l.af d (w.alloc (.cells #[c] 36)) 40 (RdI_kept hd (by go_grown)); simpa using this
  have hKW : Below w.heap.size w ((w.alloc (.cells #[c] 36)).alloc (.cells #[.string l.nm, .int .i64 l.wt, .int .i64 l.fx, .int .i64 l.fy, .int .i64 l.tx, .int .i64 l.ty, .int .i64 l.h, .int .i64 l.dl, d] 40)) := by go_grown
  obtain ⟨A, cp, rfl, _, r⟩ := RdK_at h
  have H0 := fun z (q : Below ((w.alloc (.cells #[.slice A T.length cp] 36)).alloc (.cells #[.string l.nm, .int .i64 l.wt, .int .i64 l.fx, .int .i64 l.fy, .int .i64 l.tx, .int .i64 l.ty, .int .i64 l.h, .int .i64 l.dl, d] 40)).heap.size ((w.alloc (.cells #[.slice A T.length cp] 36)).alloc (.cells #[.string l.nm, .int .i64 l.wt, .int .i64 l.fx, .int .i64 l.fy, .int .i64 l.tx, .int .i64 l.ty, .int .i64 l.h, .int .i64 l.dl, d] 40)) z) => specSite_any w.heap.size 0 A cp T z (RdK_kept h (kept_trans hKW q)) (BoxR_kept KS q).1 ((BoxR_kept KS q).2 0 _ rfl) hn2
  have H1 := fun z (q : Below ((w.alloc (.cells #[.slice A T.length cp] 36)).alloc (.cells #[.string l.nm, .int .i64 l.wt, .int .i64 l.fx, .int .i64 l.fy, .int .i64 l.tx, .int .i64 l.ty, .int .i64 l.h, .int .i64 l.dl, d] 40)).heap.size ((w.alloc (.cells #[.slice A T.length cp] 36)).alloc (.cells #[.string l.nm, .int .i64 l.wt, .int .i64 l.fx, .int .i64 l.fy, .int .i64 l.tx, .int .i64 l.ty, .int .i64 l.h, .int .i64 l.dl, d] 40)) z) => specPlain_any (w.heap.size + 1) 0 l d z (LfAt_kept KL0 q) hl
  have HAB := fun hb hf z (q : Below ((w.alloc (.cells #[.slice A T.length cp] 36)).alloc (.cells #[.string l.nm, .int .i64 l.wt, .int .i64 l.fx, .int .i64 l.fy, .int .i64 l.tx, .int .i64 l.ty, .int .i64 l.h, .int .i64 l.dl, d] 40)).heap.size ((w.alloc (.cells #[.slice A T.length cp] 36)).alloc (.cells #[.string l.nm, .int .i64 l.wt, .int .i64 l.fx, .int .i64 l.fy, .int .i64 l.tx, .int .i64 l.ty, .int .i64 l.h, .int .i64 l.dl, d] 40)) z) => specAbles_any w.heap.size (w.heap.size + 1) (.slice A T.length cp) T l d z (RdK_kept h (kept_trans hKW q)) (BoxR_kept KS q) (LfAt_kept KL0 q) hb hf
  have HW0 := Lib.hid hKW
  unfold ablesR
  obtain ⟨A2, cp2, rfl, _, _⟩ := RdI_slice hd
  clear h hm hn hn2 hd KS KL0 hKW r
  cases p0 : siteB T <;> rw [p0] at H0
  · simp only [Bool.false_and, Bool.false_eq_true, if_false]
    have H0 := Lib.hid H0
    clear H1 HAB
    obtain ⟨ls, i1, i2, i3, i4, i5, i6, i7, us⟩ := l
    dsimp only at *
    go_enter Tryz.func8, Tryz.ntmps8
    go_wp2_with fail
    refine (H0.out _ (Below.refl _ _)).mono ?_
    rintro e w1 ⟨rfl, k1⟩
    go_wp2
    go_ret2
    exact ⟨_, rfl, RowI_nil _ _ _, kept_trans HW0.out k1⟩
  cases p1 : fldB l <;> rw [p1] at H1
  · simp only [Bool.true_and, Bool.false_eq_true, if_false]
    have H0 := Lib.hid H0
    have H1 := Lib.hid H1
    clear HAB
    obtain ⟨ls, i1, i2, i3, i4, i5, i6, i7, us⟩ := l
    dsimp only at *
    go_enter Tryz.func8, Tryz.ntmps8
    go_wp2_with fail
    refine (H0.out _ (Below.refl _ _)).mono ?_
    rintro e w1 ⟨rfl, k1⟩
    go_wp2_with fail
    refine (H1.out _ k1).mono ?_
    rintro e w2 ⟨rfl, hb2⟩
    have k2 := kept_trans (a := ((w.alloc (.cells #[.slice A T.length cp] 36)).alloc (.cells #[.string ls, .int .i64 i1, .int .i64 i2, .int .i64 i3, .int .i64 i4, .int .i64 i5, .int .i64 i6, .int .i64 i7, .slice A2 us.length cp2] 40))) k1 hb2
    go_wp2
    go_ret2
    exact ⟨_, rfl, RowI_nil _ _ _, kept_trans HW0.out k2⟩
  simp only [Bool.true_and, if_true]
  have H0 := Lib.hid H0
  have H1 := Lib.hid H1
  have HAX := Lib.hid (HAB p0 p1)
  clear HAB p0 p1
  generalize idxsL (ableI (T.map (·.1)) l) T.length = zs at *
  obtain ⟨ls, i1, i2, i3, i4, i5, i6, i7, us⟩ := l
  dsimp only at *
  go_enter Tryz.func8, Tryz.ntmps8
  go_wp2_with fail
  refine (H0.out _ (Below.refl _ _)).mono ?_
  rintro e w1 ⟨rfl, k1⟩
  go_wp2_with fail
  refine (H1.out _ k1).mono ?_
  rintro e w2 ⟨rfl, hb2⟩
  have k2 := kept_trans (a := ((w.alloc (.cells #[.slice A T.length cp] 36)).alloc (.cells #[.string ls, .int .i64 i1, .int .i64 i2, .int .i64 i3, .int .i64 i4, .int .i64 i5, .int .i64 i6, .int .i64 i7, .slice A2 us.length cp2] 40))) k1 hb2
  go_wp2_with fail
  refine (HAX.out _ k2).mono ?_
  rintro e w3 ⟨r, rfl, hrow, hb3⟩
  go_wp2
  go_ret2
  exact ⟨_, rfl, RowI_lo hrow (kept_trans HW0.out k2).size (Nat.le_refl _), kept_trans HW0.out (kept_trans k2 hb3)⟩

theorem ablesR_len (ks : List (Cr × Value)) (l : Lf) : (ablesR ks l).1.length ≤ 4000000 := by
  unfold ablesR
  cases h : siteB ks <;> cases fldB l <;> simp
  have h1 := idxsL_len (ableI (ks.map (·.1)) l) ks.length
  have h2 := siteP_len h
  omega

set_option maxHeartbeats 2000000 in
theorem markKsB_any (v : Value) (ks : List Cr) (lo hi k0 : Nat) (w : World) (h : SiteC w lo hi v ks) (hk0 : 1 ≤ k0 ∧ k0 ≤ 1000) (hsz : chS ks ≤ 1000000) :
    Calls Tryz.prog 45 #[v, .int .i64 k0] w fun e w' => ∃ m : Nat, e = .returned (.int .i64 (m : Int)) ∧ (1 ≤ m ∧ m ≤ 9000000) ∧ Within lo hi w w' := by
  obtain ⟨hn, g, T, S, rfl, hg, hT, hS, hr, hq, hf, hp⟩ := h
  have hTl : T.length = ks.length := by rw [← hT]; simp
  have hghi := hr.2 g rfl
  have hr2 := RowF_short hr (n := T.length) (by simp)
  rw [flatK_take, hTl] at hr2
  have hstart : MarkI ks T g (T ++ S).length lo hi w 0 k0 w := by
    refine ⟨⟨hk0.1, by simp; omega⟩, ⟨flatK T, hr2.1, fun i hi => ?_⟩, fun i h1 h2 _ => ?_, Within_refl _ _ _⟩
    · rw [flatK_at T i 6 hi (by omega)]
      rfl
    · have := hq T[i] (List.getElem_mem h1)
      have e : T[i].1 = ks[i] := by
        have := congrArg (·[i]?) hT
        simpa [h1, h2] using this
      rw [← e]
      exact this
  have HST := Lib.hid hstart
  have hlen : ∀ j (hj : j < ks.length), ks[j].ch.length ≤ 1000000 := fun j hj => by have := chS_mem (List.getElem_mem hj); omega
  have HP := Lib.hid hp
  clear hstart hr hr2 hq hf hp hS hT
  generalize (T ++ S).length = cap at *
  go_enter Tryz.func45, Tryz.ntmps45
  go_wp2_with fail
  go_loopw [1, 5] (fun q i wr => ∃ j m : Nat, j ≤ ks.length ∧ i = .int .i64 (j : Int) ∧ q = .int .i64 (m : Int) ∧ MarkI ks T g cap lo hi w j m wr) (fun _ i _ => ks.length - (intOf i).toNat)
  case atStart => exact ⟨0, k0, by omega, rfl, rfl, HST.out⟩
  case round =>
    obtain ⟨j, m, hj, rfl, rfl, hM⟩ := hrel
    have HM := Lib.hid hM
    obtain ⟨⟨hm1, hm2⟩, ⟨xs, ho, hx⟩, hc, _⟩ := hM
    by_cases hlt : j < ks.length
    · have hlj := hlen j hlt
      have hxl : xs.length = ks.length * 7 := ho.1
      have at_ : ∀ d, d < 7 → ∃ u, wr.cell? ⟨g, j * 7 + d, none⟩ = some u := fun d hd => by
        rw [ho.cellAt _ (by omega)]
        exact ⟨_, List.getElem?_eq_getElem (by omega)⟩
      obtain ⟨u0, a0⟩ := at_ 0 (by omega)
      obtain ⟨u1, a1⟩ := at_ 1 (by omega)
      obtain ⟨u2, a2⟩ := at_ 2 (by omega)
      obtain ⟨u3, a3⟩ := at_ 3 (by omega)
      obtain ⟨u4, a4⟩ := at_ 4 (by omega)
      obtain ⟨u5, a5⟩ := at_ 5 (by omega)
      have z0 := ho.frozenAt (j * 7)
      have z1 := ho.frozenAt (j * 7 + 1)
      have z2 := ho.frozenAt (j * 7 + 2)
      have z3 := ho.frozenAt (j * 7 + 3)
      have z4 := ho.frozenAt (j * 7 + 4)
      have z5 := ho.frozenAt (j * 7 + 5)
      have hcj := hc j (by omega) hlt (Nat.le_refl _)
      have hgl : g < wr.heap.size := (ho.lt g rfl).2
      have a6 : wr.cell? ⟨g, j * 7 + 6, none⟩ = some T[j].2 := by rw [ho.cellAt _ (by omega)]; exact hx j (by omega)
      have HC := Lib.hid hcj
      obtain ⟨_, gj, ec, _⟩ := hcj
      rw [ec] at a6
      have HMK := Lib.hid (fun u (x : CopyC u (g + 1) hi (.slice (some ⟨gj, 0, none⟩) ks[j].ch.length (copyT ks[j].ch).length) ks[j].ch) => markC_any _ ks[j].ch (g + 1) hi (m + 6) u (CopyC_row x) (by omega) (by omega))
      have HMT := Lib.hid (fun u => markText_any m hm1 (by omega) u)
      have EC := Lib.hid ec
      clear ec ho hx hc at_
      generalize markT m = mt at *
      go_wp2_with fail
      refine (HMT.out _).mono ?_
      rintro e w1 ⟨rfl, hb1⟩
      have b1 : Below wr.heap.size wr w1 := kept_trans (a := wr) (by go_grown) hb1
      rw [← kept_cell b1 g _ hgl] at a0 a1 a2 a3 a4 a5 a6
      rw [← kept_frozen b1 g _ hgl] at z0 z1 z2 z3 z4 z5
      simp only [Nat.add_zero] at a0
      go_wp2_with fail
      have hcc := CopyC_kept HC.out b1
      rw [EC.out] at hcc
      have em : (m : Int) + 1 + 1 + 1 + 1 + 1 + 1 = ((m + 6 : Nat) : Int) := by omega
      rw [em]
      refine (HMK.out _ (set6_copy (g := g) (o := j * 7) hcc (by omega))).mono ?_
      rintro e w2 ⟨rfl, _, hg2⟩
      have hI := MarkI_step hTl hghi HP.out hlt HM.out b1 (by rw [EC.out]; exact hg2)
      clear hg2 hcc a0 a1 a2 a3 a4 a5 a6 z0 z1 z2 z3 z4 z5
      go_wp2
      go_roundw
      case rel => exact ⟨j + 1, m + 6 + ks[j].ch.length * 2, by omega, by go_num, by simp, hI⟩
      case measure => simp [intOf]; omega
    · have : j = ks.length := by omega
      subst this
      go_wp2
      go_ret
      exact ⟨m, rfl, ⟨hm1, by omega⟩, HM.out.2.2.2⟩

theorem markSB_any (c : Value) (ks : List Cr) (lo hi k0 : Nat) (w : World) (h : SiteC w lo hi c ks) (hk0 : 1 ≤ k0 ∧ k0 ≤ 1000) (hsz : chS ks ≤ 1000000) :
    Calls Tryz.prog 15 #[.agg #[c], .int .i64 k0] w fun e w' => ∃ m : Nat, e = .returned (.int .i64 (m : Int)) ∧ (1 ≤ m ∧ m ≤ 9000000) ∧ Within lo hi w w' := by
  obtain ⟨T, r, _⟩ := SiteC_rd h
  obtain ⟨A, cp, rfl, _, _⟩ := RdK_at r
  clear r
  have HQ := Lib.hid (fun u q => markKsB_any (.slice A T.length cp) ks lo hi k0 u q hk0 hsz)
  have H := Lib.hid h; clear h
  go_enter Tryz.func15, Tryz.ntmps15
  go_wp2_with fail
  refine (HQ.out _ (SiteC_kept H.out (by go_grown))).mono ?_
  rintro e w1 ⟨m, rfl, hm, hw⟩
  have hw2 : Within lo hi w w1 := Within_trans (Within_below (by go_grown)) hw
  go_wp2
  go_ret
  exact ⟨m, rfl, hm, hw2⟩

theorem markLf1_any (l : Lf) (c : Value) (lo hi k0 : Nat) (w : World) (h : CopyI w lo hi c l.af) (hk0 : k0 ≤ 9000000) (hn : l.af.length ≤ 1000000) :
    Calls Tryz.prog 16 #[.agg #[.string l.nm, .int .i64 l.wt, .int .i64 l.fx, .int .i64 l.fy, .int .i64 l.tx, .int .i64 l.ty, .int .i64 l.h, .int .i64 l.dl, c], .int .i64 k0] w fun e w' => ∃ m : Nat, e = .returned (.int .i64 (m : Int)) ∧ Within lo hi w w' := by
  have HMK := Lib.hid (fun u (x : CopyI u lo hi c l.af) => markIntsX_any _ l.af lo hi k0 u (CopyI_row x) (by omega) (by omega))
  have H := Lib.hid h
  have hr := (CopyI_row h).2
  obtain ⟨_, g, rfl, _⟩ := h
  obtain ⟨ls, i1, i2, i3, i4, i5, i6, i7, us⟩ := l
  dsimp only at *
  go_enter Tryz.func16, Tryz.ntmps16
  go_wp2_with fail
  refine (HMK.out _ (CopyI_kept H.out (by go_grown))).mono ?_
  rintro e w1 ⟨rfl, _, hg⟩
  go_wp2
  go_ret
  exact ⟨_, rfl, Within_trans (Within_below (by go_grown)) (Within_grown hg (fun g' e => by have := hr g' e; omega))⟩

theorem BoxR_within {W W1 : World} {lo hi b : Nat} {cs : List Value} (h : BoxR W b cs) (k : Within lo hi W W1) (hb : b < lo ∨ hi ≤ b) : BoxR W1 b cs := by
  have he := k.block b h.1 hb
  exact ⟨Nat.lt_of_lt_of_le h.1 k.size, fun i v hv => by rw [← h.2 i v hv]; simp [World.cell?, he]⟩

end Go.Proofs.YtnflaeimiegepabGreatDoor
