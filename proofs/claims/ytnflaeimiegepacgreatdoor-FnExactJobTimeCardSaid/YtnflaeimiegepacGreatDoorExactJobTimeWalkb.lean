import Derived.Test.YtnflaeimiegepacGreatDoorRows
import Derived.WalkKit
import Derived.ProofKit
import Derived.OpenShut
import Derived.Lib.Hide
import Derived.Handy
import Derived.BigQuiet
import Derived.Carry
import Derived.Deep.QuietTactic
import Derived.Deep.RegionHeld3
import Derived.Deep.SlicePairs
import Derived.Laws.RangeAny
import Derived.Lib.LaidTab
import Derived.Lib.SmallJoins
import Derived.Shelf.Abstract
import Derived.Test.YtnflaeimiegepacGreatDoorCards
import Derived.Test.YtnflaeimiegepacGreatDoorTie
import Derived.Lib.SmallJoins
import Derived.ChangeMaps5
import Derived.Deep.DeepHandedRow
import Derived.Deep.DeepWitnessRowRef
import Derived.Lib.LaidTab
import Derived.SevenTiedAt
import Derived.Test.YtnflaeimiegepacGreatDoorExactJobTimeWalka
namespace Go.Proofs.YtnflaeimiegepacGreatDoor
open Go.ChangeShapes Go.WideShapes Go.ChangeAt Go.RowKit
set_option linter.unusedVariables false
set_option linter.unusedSimpArgs false


theorem toI_false (v : Value) (zs : List Int) (w : World) (h : RdI w v zs) (hn : zs.length ≤ 1000000) :
    Calls Tryz.prog 39 #[v, .bool false] w fun e w' => ∃ v', e = .returned v' ∧ CopyI w' w.heap.size w'.heap.size v' zs ∧ Below w.heap.size w w' := toI_row v zs false w h hn (Or.inl rfl)

theorem intactI_same (v1 v2 : Value) (zs : List Int) (lo1 hi1 lo2 hi2 : Nat) (w : World) (h1 : CopyI w lo1 hi1 v1 zs) (h2 : CopyI w lo2 hi2 v2 zs) :
    Calls Tryz.prog 42 #[v1, v2] w fun e w' => e = .returned (.bool true) ∧ Below w.heap.size w w' := by
  obtain ⟨hn, g1, rfl, r1⟩ := h1
  obtain ⟨_, g2, rfl, r2⟩ := h2
  have q1 : RdI w _ (copyI zs) := RowI_rd r1
  have q2 : RdI w _ (copyI zs) := RowI_rd r2
  clear r1 r2
  have hN := copyI_len zs
  have hr := roomL_le zs.length
  generalize hT : copyI zs = T at *
  clear hT
  have Q1 := Lib.hid q1; clear q1
  have Q2 := Lib.hid q2; clear q2
  generalize hTl : T.length = N at *
  have hN' : (zs.length : Int) + (roomL zs.length : Int) = (N : Int) := by omega
  have hcap : zs.length ≤ N := by omega
  clear hN
  go_enter Tryz.func42, Tryz.ntmps42
  go_wp2_with (go_at_call 57; refine (room_any _ (by omega) _).mono ?_; rintro e w1 ⟨rfl, rfl⟩)
  go_region_held3 (fun _ => True) (trivial)
    ((go_at_call 62; refine (eqInts_same _ _ T _ (by exact Q1.out) (by exact Q2.out)).mono ?_; rintro e w1 ⟨rfl, hb1⟩; replace hb1 := kept_trans (a := w) (by go_grown) hb1))
  go_wp2
  go_ret
  exact ⟨rfl, by assumption⟩

theorem RdI_slice {w : World} {v : Value} {zs : List Int} (h : RdI w v zs) : ∃ A c, v = .slice A zs.length c ∧ zs.length ≤ 9223372036854775807 ∧
    ∀ k, (hk : k < zs.length) → ∃ b off, A = some ⟨b, off, none⟩ ∧ b < w.heap.size ∧ w.cell? ⟨b, off + k, none⟩ = some (.int .i64 zs[k]) := by
  obtain ⟨hl, A, c, rfl, hr⟩ := h
  exact ⟨A, c, rfl, hl, hr⟩

theorem RowI_set {w : World} {lo hi b o : Nat} {v u : Value} {zs : List Int} (h : RowI w lo hi v zs) (hb : b < lo) : RowI (w.setCell ⟨b, o, none⟩ u) lo hi v zs :=
  RowI_far h (grown_set _ _ _) (fun g hg => by simp at hg; omega)

theorem CopyI_row {w : World} {lo hi : Nat} {v : Value} {zs : List Int} (h : CopyI w lo hi v zs) : RowI w lo hi v zs := by
  obtain ⟨hl, g, rfl, hr⟩ := h
  have hF : RowF 2 1 w lo hi (.slice (some ⟨g, 0, none⟩) (copyI zs).length (copyI zs).length) (copyI zs).length ((copyI zs).map (Value.int .i64)) := hr
  have := RowF_short hF (n := zs.length) (by rw [copyI_len]; omega)
  have e : ((copyI zs).map (Value.int .i64)).take (zs.length * 1) = zs.map (Value.int .i64) := by
    rw [Nat.mul_one, ← List.map_take]
    simp [copyI]
  rw [e] at this
  exact this

theorem CopyI_set {w : World} {lo hi b o : Nat} {v u : Value} {zs : List Int} (h : CopyI w lo hi v zs) (hb : b < lo) : CopyI (w.setCell ⟨b, o, none⟩ u) lo hi v zs := by
  obtain ⟨hl, g, e, hr⟩ := h
  exact ⟨hl, g, e, RowI_set hr hb⟩

theorem CopyI_lo {w : World} {lo lo' hi hi' : Nat} {v : Value} {zs : List Int} (h : CopyI w lo hi v zs) (hl : lo' ≤ lo) (hh : hi ≤ hi') : CopyI w lo' hi' v zs := by
  obtain ⟨hn, g, e, hr⟩ := h
  exact ⟨hn, g, e, RowI_lo hr hl hh⟩

/-- A lift's fields. -/
structure Lf where
  nm : ByteArray
  wt : Int
  fx : Int
  fy : Int
  tx : Int
  ty : Int
  h : Int
  dl : Int
  af : List Int

/-- A lift, cell by cell; c: the slice of what it is after. -/
def encLf (p : Lf × Value) : List Value := [.string p.1.nm, .int .i64 p.1.wt, .int .i64 p.1.fx, .int .i64 p.1.fy, .int .i64 p.1.tx, .int .i64 p.1.ty, .int .i64 p.1.h, .int .i64 p.1.dl, p.2]

def wfLf (k : Lf) : Prop := k.nm.size ≤ maxLen ∧ (Lit.int .i64 k.wt).wf = true ∧ (Lit.int .i64 k.fx).wf = true ∧ (Lit.int .i64 k.fy).wf = true ∧ (Lit.int .i64 k.tx).wf = true ∧ (Lit.int .i64 k.ty).wf = true ∧ (Lit.int .i64 k.h).wf = true ∧ (Lit.int .i64 k.dl).wf = true

/-- A lift lies at a place. -/
def LfAt (w : World) (b o : Nat) (k : Lf) (c : Value) : Prop :=
  b < w.heap.size ∧ (w.cell? ⟨b, o, none⟩ = some (.string k.nm) ∧ w.cell? ⟨b, o + 1, none⟩ = some (.int .i64 k.wt) ∧ w.cell? ⟨b, o + 2, none⟩ = some (.int .i64 k.fx) ∧ w.cell? ⟨b, o + 3, none⟩ = some (.int .i64 k.fy) ∧ w.cell? ⟨b, o + 4, none⟩ = some (.int .i64 k.tx) ∧ w.cell? ⟨b, o + 5, none⟩ = some (.int .i64 k.ty) ∧ w.cell? ⟨b, o + 6, none⟩ = some (.int .i64 k.h) ∧ w.cell? ⟨b, o + 7, none⟩ = some (.int .i64 k.dl) ∧ w.cell? ⟨b, o + 8, none⟩ = some c) ∧ RdI w c k.af

theorem LfAt_kept {W w1 : World} {b o : Nat} {k : Lf} {c : Value} (h : LfAt W b o k c) (hb : Below W.heap.size W w1) : LfAt w1 b o k c := by
  obtain ⟨hlt, ⟨h0, h1, h2, h3, h4, h5, h6, h9, h8⟩, hr⟩ := h
  refine ⟨Nat.lt_of_lt_of_le hlt hb.size, ⟨?_, ?_, ?_, ?_, ?_, ?_, ?_, ?_, ?_⟩, RdI_kept hr hb⟩ <;> (rw [kept_cell hb b _ hlt]; assumption)

/-- What is left of a measure behind a lift; less than 0: too much. -/
def szLf (k : Lf) (left : Int) : Int := if (k.nm.size : Int) + (k.af.length : Int) ≤ left then left - k.nm.size - k.af.length else -1

theorem szI_any (A : Option Addr) (n c : Nat) (left : Int) (h : -9223372036854775808 ≤ left - n ∧ left ≤ 1000000) (hn : n ≤ 9223372036854775807) (w : World) :
    Calls Tryz.prog 35 #[.slice A n c, .int .i64 left] w fun e w' => e = .returned (.int .i64 (if (n : Int) ≤ left then left - n else -1)) ∧ w = w' := by
  by_cases h1 : (n : Int) ≤ left
  · rw [if_pos h1]
    go_enter Tryz.func35, Tryz.ntmps35
    go_wp2
    go_ret
    exact ⟨rfl, rfl⟩
  · rw [if_neg h1]
    go_enter Tryz.func35, Tryz.ntmps35
    go_wp2
    go_ret
    exact ⟨rfl, rfl⟩

theorem szLf_any (k : Lf) (c : Value) (left : Int) (h : 0 ≤ left ∧ left ≤ 1000000) (hs : k.nm.size ≤ maxLen) (w : World) (hr : RdI w c k.af) :
    Calls Tryz.prog 8 #[.agg #[.string k.nm, .int .i64 k.wt, .int .i64 k.fx, .int .i64 k.fy, .int .i64 k.tx, .int .i64 k.ty, .int .i64 k.h, .int .i64 k.dl, c], .int .i64 left] w fun e w' => e = .returned (.int .i64 (szLf k left)) ∧ Below w.heap.size w w' := by
  obtain ⟨A, cp, rfl, hl, _⟩ := RdI_slice hr
  clear hr
  unfold maxLen at hs
  unfold szLf
  obtain ⟨s, i1, i2, i3, i4, i5, i6, i7, zs⟩ := k
  dsimp only at *
  by_cases h1 : left < (s.size : Int)
  · rw [if_neg (by omega)]
    go_enter Tryz.func8, Tryz.ntmps8
    go_wp2
    go_ret
    exact ⟨rfl, by go_grown⟩
  · by_cases h2 : (s.size : Int) + (zs.length : Int) ≤ left
    · rw [if_pos h2]
      have e : (if (zs.length : Int) ≤ left - s.size then left - s.size - zs.length else -1) = left - s.size - zs.length := if_pos (by omega)
      go_enter Tryz.func8, Tryz.ntmps8
      go_wp2_with (go_at_call 35; refine ((szI_any _ _ _ _ (by omega) (by omega) _)).mono ?_; rintro e w1 ⟨rfl, rfl⟩)
      go_ret
      exact ⟨rfl, by go_grown⟩
    · rw [if_neg h2]
      go_enter Tryz.func8, Tryz.ntmps8
      go_wp2_with (go_at_call 35; refine ((szI_any _ _ _ _ (by omega) (by omega) _)).mono ?_; rintro e w1 ⟨rfl, rfl⟩)
      go_ret
      exact ⟨rfl, by go_grown⟩

theorem toI_bareR (v : Value) (zs : List Int) (w : World) (h : RdI w v zs) (hn : zs.length ≤ 1000000) :
    Calls Tryz.prog 39 #[v, .bool true] w fun e w' => ∃ v', e = .returned v' ∧ RowI w' w.heap.size w'.heap.size v' zs ∧ Below w.heap.size w w' := by
  by_cases hz : zs = []
  · subst hz
    obtain ⟨A, c, rfl, hl, _⟩ := RdI_slice h
    clear h
    go_enter Tryz.func39, Tryz.ntmps39
    go_wp2
    go_ret
    exact ⟨_, rfl, RowI_nil _ _ _, Below.refl _ _⟩
  · exact (toI_row v zs true w h hn (Or.inr hz)).mono fun e w' ⟨v', he, hc, hb⟩ => ⟨v', he, CopyI_row hc, hb⟩

theorem toLf_false (k : Lf) (c : Value) (w : World) (hr : RdI w c k.af) (hn : k.af.length ≤ 1000000) :
    Calls Tryz.prog 12 #[.agg #[.string k.nm, .int .i64 k.wt, .int .i64 k.fx, .int .i64 k.fy, .int .i64 k.tx, .int .i64 k.ty, .int .i64 k.h, .int .i64 k.dl, c], .bool false] w fun e w' => ∃ c', e = .returned (.agg #[.string k.nm, .int .i64 k.wt, .int .i64 k.fx, .int .i64 k.fy, .int .i64 k.tx, .int .i64 k.ty, .int .i64 k.h, .int .i64 k.dl, c']) ∧ CopyI w' w.heap.size w'.heap.size c' k.af ∧ Below w.heap.size w w' := by
  obtain ⟨A0, cp0, rfl, _, _⟩ := RdI_slice hr
  have H := Lib.hid hr; clear hr
  obtain ⟨s, i1, i2, i3, i4, i5, i6, i7, zs⟩ := k
  dsimp only at *
  go_enter Tryz.func12, Tryz.ntmps12
  go_wp2_with fail
  refine (toPoint_any _ _ _).mono ?_
  rintro e w1 ⟨rfl, b1⟩
  refine kept_at b1 (w.heap.size) (by go_size) fun c1_0 z1_0 s1_0 => ?_
  refine kept_at b1 (w.heap.size + 1) (by go_size) fun c1_1 z1_1 s1_1 => ?_
  refine kept_at b1 (w.heap.size + 2) (by go_size) fun c1_2 z1_2 s1_2 => ?_
  replace b1 := kept_trans (a := w) (by go_grown) b1
  have l1 := kept_cell b1
  have zz1 := b1.size
  go_wp2_with fail
  refine (toPoint_any _ _ _).mono ?_
  rintro e w2 ⟨rfl, b2⟩
  refine kept_at b2 (w.heap.size) (by go_size) fun c2_0 z2_0 s2_0 => ?_
  refine kept_at b2 (w.heap.size + 1) (by go_size) fun c2_1 z2_1 s2_1 => ?_
  refine kept_at b2 (w.heap.size + 2) (by go_size) fun c2_2 z2_2 s2_2 => ?_
  replace b2 := kept_trans (a := w) (by go_grown) b2
  have l2 := kept_cell b2
  have zz2 := b2.size
  go_wp2_with fail
  refine (toI_false _ zs _ (RdI_kept H.out (by go_grown)) hn).mono ?_
  rintro e w3 ⟨c', rfl, hc, hb3⟩
  obtain ⟨A1, cp1, rfl, _, _⟩ := RdI_slice (CopyI_rd hc)
  have HC := Lib.hid hc; clear hc
  refine kept_at hb3 (w.heap.size + 1) (by go_size) fun c3_1 z3_1 s3_1 => ?_
  refine kept_at hb3 (w.heap.size + 2) (by go_size) fun c3_2 z3_2 s3_2 => ?_
  have b3 := kept_trans (a := w) (by go_grown) hb3
  go_wp2
  (try simp only [Exit.inBlock, Exit.then])
  refine bodyPost_ret (v := .agg #[.string s, .int .i64 i1, .int .i64 i2, .int .i64 i3, .int .i64 i4, .int .i64 i5, .int .i64 i6, .int .i64 i7, .slice A1 zs.length cp1]) ?_ rfl ⟨_, rfl, ?_, ?_⟩
  · rw [results_cell1 rfl]
    go_simp
  · refine CopyI_lo (lo := w2.heap.size) ?_ (by omega) (show w3.heap.size ≤ _ by simp)
    have := HC.out
    simp only [World.size_setCell] at this
    exact CopyI_set (CopyI_set (CopyI_set (CopyI_set (CopyI_set (CopyI_set (CopyI_set (CopyI_set (CopyI_set (CopyI_set this (by omega)) (by omega)) (by omega)) (by omega)) (by omega)) (by omega)) (by omega)) (by omega)) (by omega)) (by omega)
  · go_grown

theorem toLf_true (k : Lf) (c : Value) (w : World) (hr : RdI w c k.af) (hn : k.af.length ≤ 1000000) :
    Calls Tryz.prog 12 #[.agg #[.string k.nm, .int .i64 k.wt, .int .i64 k.fx, .int .i64 k.fy, .int .i64 k.tx, .int .i64 k.ty, .int .i64 k.h, .int .i64 k.dl, c], .bool true] w fun e w' => ∃ c', e = .returned (.agg #[.string k.nm, .int .i64 k.wt, .int .i64 k.fx, .int .i64 k.fy, .int .i64 k.tx, .int .i64 k.ty, .int .i64 k.h, .int .i64 k.dl, c']) ∧ RowI w' w.heap.size w'.heap.size c' k.af ∧ Below w.heap.size w w' := by
  obtain ⟨A0, cp0, rfl, _, _⟩ := RdI_slice hr
  have H := Lib.hid hr; clear hr
  obtain ⟨s, i1, i2, i3, i4, i5, i6, i7, zs⟩ := k
  dsimp only at *
  go_enter Tryz.func12, Tryz.ntmps12
  go_wp2_with fail
  refine (toPoint_any _ _ _).mono ?_
  rintro e w1 ⟨rfl, b1⟩
  refine kept_at b1 (w.heap.size) (by go_size) fun c1_0 z1_0 s1_0 => ?_
  refine kept_at b1 (w.heap.size + 1) (by go_size) fun c1_1 z1_1 s1_1 => ?_
  refine kept_at b1 (w.heap.size + 2) (by go_size) fun c1_2 z1_2 s1_2 => ?_
  replace b1 := kept_trans (a := w) (by go_grown) b1
  have l1 := kept_cell b1
  have zz1 := b1.size
  go_wp2_with fail
  refine (toPoint_any _ _ _).mono ?_
  rintro e w2 ⟨rfl, b2⟩
  refine kept_at b2 (w.heap.size) (by go_size) fun c2_0 z2_0 s2_0 => ?_
  refine kept_at b2 (w.heap.size + 1) (by go_size) fun c2_1 z2_1 s2_1 => ?_
  refine kept_at b2 (w.heap.size + 2) (by go_size) fun c2_2 z2_2 s2_2 => ?_
  replace b2 := kept_trans (a := w) (by go_grown) b2
  have l2 := kept_cell b2
  have zz2 := b2.size
  go_wp2_with fail
  refine (toI_bareR _ zs _ (RdI_kept H.out (by go_grown)) hn).mono ?_
  rintro e w3 ⟨c', rfl, hc, hb3⟩
  obtain ⟨A1, cp1, rfl, _, _⟩ := RdI_slice (RowI_rd hc)
  have HC := Lib.hid hc; clear hc
  refine kept_at hb3 (w.heap.size + 1) (by go_size) fun c3_1 z3_1 s3_1 => ?_
  refine kept_at hb3 (w.heap.size + 2) (by go_size) fun c3_2 z3_2 s3_2 => ?_
  have b3 := kept_trans (a := w) (by go_grown) hb3
  go_wp2
  (try simp only [Exit.inBlock, Exit.then])
  refine bodyPost_ret (v := .agg #[.string s, .int .i64 i1, .int .i64 i2, .int .i64 i3, .int .i64 i4, .int .i64 i5, .int .i64 i6, .int .i64 i7, .slice A1 zs.length cp1]) ?_ rfl ⟨_, rfl, ?_, ?_⟩
  · rw [results_cell1 rfl]
    go_simp
  · refine RowI_lo (lo := w2.heap.size) ?_ (by omega) (show w3.heap.size ≤ _ by simp)
    have := HC.out
    simp only [World.size_setCell] at this
    exact RowI_set (RowI_set (RowI_set (RowI_set (RowI_set (RowI_set (RowI_set (RowI_set (RowI_set (RowI_set this (by omega)) (by omega)) (by omega)) (by omega)) (by omega)) (by omega)) (by omega)) (by omega)) (by omega)) (by omega)
  · go_grown

theorem intactLf_same (k : Lf) (c1 c2 : Value) (lo1 hi1 lo2 hi2 : Nat) (w : World) (h1 : CopyI w lo1 hi1 c1 k.af) (h2 : CopyI w lo2 hi2 c2 k.af) :
    Calls Tryz.prog 15 #[.agg #[.string k.nm, .int .i64 k.wt, .int .i64 k.fx, .int .i64 k.fy, .int .i64 k.tx, .int .i64 k.ty, .int .i64 k.h, .int .i64 k.dl, c1], .agg #[.string k.nm, .int .i64 k.wt, .int .i64 k.fx, .int .i64 k.fy, .int .i64 k.tx, .int .i64 k.ty, .int .i64 k.h, .int .i64 k.dl, c2]] w fun e w' => e = .returned (.bool true) ∧ Below w.heap.size w w' := by
  obtain ⟨A1, cp1, rfl, _, _⟩ := RdI_slice (CopyI_rd h1)
  obtain ⟨A2, cp2, rfl, _, _⟩ := RdI_slice (CopyI_rd h2)
  have H1 := Lib.hid h1; clear h1
  have H2 := Lib.hid h2; clear h2
  obtain ⟨s, i1, i2, i3, i4, i5, i6, i7, zs⟩ := k
  dsimp only at *
  go_enter Tryz.func15, Tryz.ntmps15
  go_wp2_with fail
  refine (eqPoint_same _ _ _).mono ?_
  rintro e w1 ⟨rfl, b1⟩
  refine kept_at b1 (w.heap.size) (by go_size) fun c1_0 z1_0 s1_0 => ?_
  refine kept_at b1 (w.heap.size + 1) (by go_size) fun c1_1 z1_1 s1_1 => ?_
  replace b1 := kept_trans (a := w) (by go_grown) b1
  have l1 := kept_cell b1
  have zz1 := b1.size
  go_wp2_with fail
  refine (eqPoint_same _ _ _).mono ?_
  rintro e w2 ⟨rfl, b2⟩
  refine kept_at b2 (w.heap.size) (by go_size) fun c2_0 z2_0 s2_0 => ?_
  refine kept_at b2 (w.heap.size + 1) (by go_size) fun c2_1 z2_1 s2_1 => ?_
  replace b2 := kept_trans (a := w) (by go_grown) b2
  have l2 := kept_cell b2
  have zz2 := b2.size
  go_wp2_with fail
  refine (intactI_same _ _ zs _ _ _ _ _ (CopyI_kept H1.out (by go_grown)) (CopyI_kept H2.out (by go_grown))).mono ?_
  rintro e w3 ⟨rfl, hb3⟩
  have b3 := kept_trans (a := w) (by go_grown) hb3
  go_wp2
  go_ret
  exact ⟨rfl, b3⟩

/-- Cells that read as a slice of numbers. -/
theorem open_i64C {H : Type} {enc : TypeId × Value → H} {P : Program} {W : World} {t e : TypeId} {base fuel : Nat} {sp : Nat → Bool} {held : Bool} {cs : List Value} {z : DataW H × List MemPlace}
    (ht : P.underlying t = some (.slice e)) (he : P.underlying e = some (.int .i64)) (hc : P.cellsOf e = 1) (h : DataW.trod enc P W base sp held fuel t cs = some z) :
    ∃ (v : Value) (zs : List Int), cs = [v] ∧ RdI W v zs := by
  rcases Deep.open_slice1 ht hc h with ⟨hcs, hx⟩ | ⟨a, len, cap, m, n', V, D, Pl, hcs, _, hl, hm, hmm, hx, hi⟩
  · exact ⟨_, [], hcs, rdI0' W⟩
  · have hlm : len ≤ m := by rw [hmm]; split <;> omega
    have each : ∀ i, i < len → ∃ q : Int, V i = .int .i64 q := by
      intro i hlt
      obtain ⟨_, g0⟩ := hi i (by omega)
      obtain ⟨x, e0, _, _⟩ := DataW.trod_int he g0
      simp at e0
      exact ⟨x, e0⟩
    obtain ⟨q, hq⟩ := Deep.choose_lt each
    obtain ⟨b, off, spot⟩ := a
    refine ⟨_, (List.range len).map q, hcs, by simp; unfold maxLen at hm; omega, some ⟨b, off, spot⟩, cap, by simp, fun j hj => ?_⟩
    simp only [List.length_map, List.length_range] at hj
    obtain ⟨h0, _⟩ := hi j (by omega)
    have hspot : spot = none := by simpa [Addr.add] using World.cell?_spot (hi 0 (by omega)).1
    subst hspot
    rw [add_plain, hq j hj] at h0
    exact ⟨b, off, rfl, World.block_lt_of_cell? _ _ h0, by rw [h0]; simp⟩

set_option maxRecDepth 100000 in
/-- Cells that read as a lift. -/
theorem open_liftC {H : Type} {enc : TypeId × Value → H} {W : World} {base fuel : Nat} {sp : Nat → Bool} {held : Bool} {cs : List Value} {z : DataW H × List MemPlace}
    (h : DataW.trod enc Tryz.prog W base sp held fuel 31 cs = some z) : ∃ (k : Lf) (c : Value), cs = encLf (k, c) ∧ RdI W c k.af ∧ wfLf k := by
  obtain ⟨xs, n, _, _, hl, hlen, hf⟩ := DataW.trod_struct Tryz.underlying31 h
  have hl9 : cs.length = 9 := hl.trans (by kernel_rfl)
  have h0 : DataW.trod enc Tryz.prog W base sp held n 9 ((cs.drop 0).take (Tryz.prog.cellsOf 9)) = xs[0]? := hf 0 _ rfl
  have h1 : DataW.trod enc Tryz.prog W base sp held n 2 ((cs.drop 1).take (Tryz.prog.cellsOf 2)) = xs[1]? := hf 1 _ rfl
  have h2 : DataW.trod enc Tryz.prog W base sp held n 23 ((cs.drop 2).take (Tryz.prog.cellsOf 23)) = xs[2]? := hf 2 _ rfl
  have h3 : DataW.trod enc Tryz.prog W base sp held n 23 ((cs.drop 4).take (Tryz.prog.cellsOf 23)) = xs[3]? := hf 3 _ rfl
  have h4 : DataW.trod enc Tryz.prog W base sp held n 2 ((cs.drop 6).take (Tryz.prog.cellsOf 2)) = xs[4]? := hf 4 _ rfl
  have h5 : DataW.trod enc Tryz.prog W base sp held n 2 ((cs.drop 7).take (Tryz.prog.cellsOf 2)) = xs[5]? := hf 5 _ rfl
  have h6 : DataW.trod enc Tryz.prog W base sp held n 29 ((cs.drop 8).take (Tryz.prog.cellsOf 29)) = xs[6]? := hf 6 _ rfl
  have z0 : Tryz.prog.cellsOf 9 = 1 := by kernel_rfl
  have z1 : Tryz.prog.cellsOf 23 = 2 := by kernel_rfl
  have z2 : Tryz.prog.cellsOf 2 = 1 := by kernel_rfl
  have z3 : Tryz.prog.cellsOf 29 = 1 := by kernel_rfl
  match cs, hl9 with
  | [c0, c1, c2, c3, c4, c5, c6, c7, c8], _ =>
    have i0 : xs[0]? = some (xs[0]'(by rw [hlen]; decide)) := List.getElem?_eq_getElem _
    have i1 : xs[1]? = some (xs[1]'(by rw [hlen]; decide)) := List.getElem?_eq_getElem _
    have i2 : xs[2]? = some (xs[2]'(by rw [hlen]; decide)) := List.getElem?_eq_getElem _
    have i3 : xs[3]? = some (xs[3]'(by rw [hlen]; decide)) := List.getElem?_eq_getElem _
    have i4 : xs[4]? = some (xs[4]'(by rw [hlen]; decide)) := List.getElem?_eq_getElem _
    have i5 : xs[5]? = some (xs[5]'(by rw [hlen]; decide)) := List.getElem?_eq_getElem _
    have i6 : xs[6]? = some (xs[6]'(by rw [hlen]; decide)) := List.getElem?_eq_getElem _
    simp only [i0, i1, i2, i3, i4, i5, i6, z0, z1, z2, z3, List.drop_succ_cons, List.drop_zero, List.take_succ_cons, List.take_zero] at h0 h1 h2 h3 h4 h5 h6
    obtain ⟨s, e0, _, ws⟩ := DataW.trod_string Tryz.underlying9 h0
    obtain ⟨a1, e1, _, w1⟩ := DataW.trod_int Tryz.underlying2 h1
    obtain ⟨Y0p, Y1p, mp, _, _, p0', p1'⟩ := trod_struct2 Tryz.underlying23 h2
    have p0 : DataW.trod enc Tryz.prog W base sp held mp 2 (([c2, c3].drop 0).take (Tryz.prog.cellsOf 2)) = some Y0p := p0'
    have p1 : DataW.trod enc Tryz.prog W base sp held mp 2 (([c2, c3].drop 1).take (Tryz.prog.cellsOf 2)) = some Y1p := p1'
    simp only [z2, List.drop_succ_cons, List.drop_zero, List.take_succ_cons, List.take_zero] at p0 p1
    obtain ⟨Y0q, Y1q, mq, _, _, q0', q1'⟩ := trod_struct2 Tryz.underlying23 h3
    have q0 : DataW.trod enc Tryz.prog W base sp held mq 2 (([c4, c5].drop 0).take (Tryz.prog.cellsOf 2)) = some Y0q := q0'
    have q1 : DataW.trod enc Tryz.prog W base sp held mq 2 (([c4, c5].drop 1).take (Tryz.prog.cellsOf 2)) = some Y1q := q1'
    simp only [z2, List.drop_succ_cons, List.drop_zero, List.take_succ_cons, List.take_zero] at q0 q1
    obtain ⟨a2, e2, _, w2⟩ := DataW.trod_int Tryz.underlying2 p0
    obtain ⟨a3, e3, _, w3⟩ := DataW.trod_int Tryz.underlying2 p1
    obtain ⟨a4, e4, _, w4⟩ := DataW.trod_int Tryz.underlying2 q0
    obtain ⟨a5, e5, _, w5⟩ := DataW.trod_int Tryz.underlying2 q1
    obtain ⟨a6, e6, _, w6⟩ := DataW.trod_int Tryz.underlying2 h4
    obtain ⟨a7, e7, _, w7⟩ := DataW.trod_int Tryz.underlying2 h5
    obtain ⟨c, zs, e8, hr⟩ := open_i64C Tryz.underlying29 Tryz.underlying2 (by kernel_rfl) h6
    simp only [List.cons.injEq, and_true] at e0 e1 e2 e3 e4 e5 e6 e7 e8
    subst e0 e1 e2 e3 e4 e5 e6 e7 e8
    exact ⟨⟨s, a1, a2, a3, a4, a5, a6, a7, zs⟩, _, rfl, hr, ws, w1, w2, w3, w4, w5, w6, w7⟩

set_option maxRecDepth 100000 in
theorem open_lift {H : Type} {enc : TypeId × Value → H} {W : World} {base : Nat} {v : Value} {d : DataW H} {p : List MemPlace}
    (hv : Value.okWide Tryz.prog W .any base 31 v) (h : DataW.Trod enc Tryz.prog W 0 (fun _ => true) true 31 v d p) :
    ∃ (k : Lf) (c : Value), v = .agg #[.string k.nm, .int .i64 k.wt, .int .i64 k.fx, .int .i64 k.fy, .int .i64 k.tx, .int .i64 k.ty, .int .i64 k.h, .int .i64 k.dl, c] ∧ RdI W c k.af ∧ wfLf k := by
  obtain ⟨cs, rfl, hsz⟩ := okWide_struct Tryz.underlying31 hv
  obtain ⟨fuel, hf⟩ := h
  obtain ⟨k, c, e, hr, wk⟩ := open_liftC (by simpa [Value.cells] using hf)
  refine ⟨k, c, ?_, hr, wk⟩
  rw [show cs = #[.string k.nm, .int .i64 k.wt, .int .i64 k.fx, .int .i64 k.fy, .int .i64 k.tx, .int .i64 k.ty, .int .i64 k.h, .int .i64 k.dl, c] from Array.toList_inj.1 (by rw [e]; rfl)]

/-- The first m numbers rise strictly, from 0 to less than n. -/
def RisesP (zs : List Int) (n : Int) (m : Nat) : Prop := ∀ i (h : i < zs.length), i < m → (0 ≤ zs[i] ∧ zs[i] ≤ n - 1) ∧ ∀ _ : 0 < i, zs[i - 1] < zs[i]

open Classical in
noncomputable def risesB (zs : List Int) (n : Int) : Bool := decide (RisesP zs n zs.length)

theorem risesB_true {zs : List Int} {n : Int} (h : RisesP zs n zs.length) : risesB zs n = true := by simp [risesB, h]

theorem risesB_false {zs : List Int} {n : Int} (h : ¬ RisesP zs n zs.length) : risesB zs n = false := by simp [risesB, h]

theorem RisesP_step {zs : List Int} {n : Int} {m : Nat} (h : RisesP zs n m) (hm : m < zs.length) (h1 : 0 ≤ zs[m] ∧ zs[m] ≤ n - 1) (h2 : ∀ _ : 0 < m, zs[m - 1] < zs[m]) : RisesP zs n (m + 1) := by
  intro i hi hlt
  rcases Nat.lt_or_ge i m with h3 | h3
  · exact h i hi h3
  · obtain rfl : i = m := by omega
    exact ⟨h1, h2⟩

/-- The fields of a lift, but After, are valid. -/
noncomputable def fldB (k : Lf) : Bool := nameB k.nm && (inB k.wt 1 50000 && (okP k.fx k.fy && (okP k.tx k.ty && (inB k.h 0 2000 && inB k.dl 1 1000000))))

/-- The lift with an index is valid, but for its name's being taken. -/
noncomputable def oneB (k : Lf) (i : Int) : Bool := fldB k && risesB k.af i

theorem same_below {P : Program} {f : FuncId} {args : Array Value} {w : World} {v : Ending} (h : Calls P f args w fun e w' => e = v ∧ w = w') : Calls P f args w fun e w' => e = v ∧ Below w.heap.size w w' :=
  h.mono fun _ _ ⟨h1, h2⟩ => ⟨h1, by rw [← h2]; exact Below.refl _ _⟩

theorem specRises_any (v : Value) (zs : List Int) (n : Int) (hn : 0 ≤ n ∧ n ≤ 1000000) (w : World) (h : RdI w v zs) :
    Calls Tryz.prog 125 #[v, .int .i64 n] w fun e w' => e = .returned (.bool (risesB zs n)) ∧ Below w.heap.size w w' := by
  obtain ⟨A, c, rfl, hl, r1⟩ := RdI_slice h
  clear h
  have R := Lib.hid r1; clear r1
  have HBAD := Lib.hid (fun i (hi : i < zs.length) (hno : ¬ ((0 ≤ zs[i] ∧ zs[i] ≤ n - 1) ∧ ∀ _ : 0 < i, zs[i - 1] < zs[i])) => risesB_false (n := n) (fun hp => hno (hp i hi hi)))
  have HEND := Lib.hid (fun h => risesB_true (zs := zs) (n := n) h)
  generalize risesB zs n = G at *
  go_enter Tryz.func125, Tryz.ntmps125
  go_wp2_with fail
  go_loopw [5] (fun i wr => ∃ m : Nat, m ≤ zs.length ∧ i = .int .i64 (m : Int) ∧ RisesP zs n m ∧ Below w.heap.size w wr) (fun i _ => zs.length - (intOf i).toNat)
  case atStart => exact ⟨0, by omega, rfl, fun i _ h => by omega, Below.refl _ _⟩
  case round =>
    obtain ⟨m, hm, rfl, hrp, hb⟩ := hrel
    by_cases hlt : m < zs.length
    · obtain ⟨b, off, rfl, hbl, hc⟩ := R.out m hlt
      rw [← kept_cell hb b _ hbl] at hc
      have hbad := HBAD.out m hlt
      have hnx := RisesP_step hrp hlt
      have hwb := fun u => same_below (in_any zs[m] 0 (n - 1) u)
      have hblw : b < wr.heap.size := Nat.lt_of_lt_of_le hbl hb.size
      have fc := fun x : BelowBy wr => (kept_cell x.h b (off + m) hblw).trans hc
      by_cases h1 : 0 ≤ zs[m] ∧ zs[m] ≤ n - 1
      · have hin : inB zs[m] 0 (n - 1) = true := by simp [inB, h1]
        rw [hin] at hwb
        have HW := Lib.hid hwb; clear hwb hin
        by_cases h0 : 0 < m
        · obtain ⟨b', off', e', hbl', hc'⟩ := R.out (m - 1) (by omega)
          cases e'
          rw [← kept_cell hb b _ hbl'] at hc'
          rw [show off + (m - 1) = off + m - 1 by omega] at hc'
          have fd := fun x : BelowBy wr => (kept_cell x.h b (off + m - 1) hblw).trans hc'
          have hm1 : ((m : Int) - 1).toNat = m - 1 := by omega
          have hm2 : off + (m - 1) = off + m - 1 := by omega
          by_cases h2 : zs[m - 1] < zs[m]
          · have HNX := Lib.hid (hnx h1 (fun _ => h2)); clear hnx hbad hrp
            have h3 : ¬ zs[m] ≤ zs[m - 1] := by omega
            clear h1 h2
            generalize zs[m - 1] = y at *
            generalize zs[m] = x at *
            go_wp2_with fail
            refine wp_region_below (by kernel_rfl) (by kernel_rfl) ?_
            repeat (go_big_quiet_step ((go_at_call 78; exact below_call (fun _ => HW.out _))))
            refine wpQuiet_nil ?_
            intro wq hw'
            obtain ⟨⟨_, hbq⟩, hwq⟩ := hw'
            subst hwq
            (try dsimp only)
            go_wp2
            go_roundw
            case rel => exact ⟨m + 1, by omega, by go_num, HNX.out, kept_trans hb hbq⟩
            case measure => simp [intOf]; omega
          · have hG := hbad (fun hx => h2 (hx.2 h0))
            clear hbad hnx hrp
            have h3 : zs[m] ≤ zs[m - 1] := by omega
            subst hG
            clear h1 h2
            generalize zs[m - 1] = y at *
            generalize zs[m] = x at *
            go_wp2_with fail
            refine wp_region_below (by kernel_rfl) (by kernel_rfl) ?_
            repeat (go_big_quiet_step ((go_at_call 78; exact below_call (fun _ => HW.out _))))
            refine wpQuiet_nil ?_
            intro wq hw'
            obtain ⟨⟨_, hbq⟩, hwq⟩ := hw'
            subst hwq
            (try dsimp only)
            go_wp2
            go_ret
            exact ⟨rfl, kept_trans hb hbq⟩
        · have HNX := Lib.hid (hnx h1 (fun h => absurd h h0)); clear hnx hbad hrp
          have hm0 : m = 0 := by omega
          subst hm0
          clear h1
          generalize zs[0] = x at *
          have fd := fun u : BelowBy wr => (show u.w.cell? ⟨b, off, none⟩ = some (.int .i64 x) from fc u)
          clear fc
          go_wp2_with fail
          refine wp_region_below (by kernel_rfl) (by kernel_rfl) ?_
          repeat (go_big_quiet_step ((go_at_call 78; exact below_call (fun _ => HW.out _))))
          refine wpQuiet_nil ?_
          intro wq hw'
          obtain ⟨⟨_, hbq⟩, hwq⟩ := hw'
          subst hwq
          (try dsimp only)
          go_wp2
          go_roundw
          case rel => exact ⟨1, by omega, by go_num, HNX.out, kept_trans hb hbq⟩
          case measure => simp [intOf]; omega
      · have hG := hbad (fun hx => h1 hx.1)
        clear hbad hnx hrp
        subst hG
        have hin : inB zs[m] 0 (n - 1) = false := by simp [inB]; omega
        rw [hin] at hwb
        have HW := Lib.hid hwb; clear hwb hin h1
        generalize zs[m] = x at *
        go_wp2_with fail
        refine wp_region_below (by kernel_rfl) (by kernel_rfl) ?_
        repeat (go_big_quiet_step ((go_at_call 78; exact below_call (fun _ => HW.out _))))
        refine wpQuiet_nil ?_
        intro wq hw'
        obtain ⟨⟨_, hbq⟩, hwq⟩ := hw'
        subst hwq
        (try dsimp only)
        go_wp2
        go_ret
        exact ⟨rfl, kept_trans hb hbq⟩
    · have : m = zs.length := by omega
      subst this
      have hE := HEND.out hrp
      clear hrp
      subst hE
      go_wp2
      go_ret
      exact ⟨rfl, hb⟩

set_option maxHeartbeats 4000000 in
theorem specOne_any (b o : Nat) (k : Lf) (c : Value) (i : Int) (hi : 0 ≤ i ∧ i ≤ 1000000) (w : World) (h : LfAt w b o k c) (hs : k.nm.size ≤ 1000000) :
    Calls Tryz.prog 97 #[.pointer (some ⟨b, o, none⟩), .int .i64 i] w fun e w' => e = .returned (.bool (oneB k i)) ∧ Below w.heap.size w w' := by
  obtain ⟨hb, ⟨c0, c1, c2, c3, c4, c5, c6, c7, c8⟩, hr⟩ := h
  obtain ⟨A, cp, rfl, hl, _⟩ := RdI_slice hr
  have H := Lib.hid hr; clear hr
  have HN := Lib.hid (fun u => specIsName_any k.nm u hs)
  have HR := Lib.hid (fun u (q : RdI u (.slice A k.af.length cp) k.af) => specRises_any _ _ i hi u q)
  unfold oneB fldB
  obtain ⟨s, i1, i2, i3, i4, i5, i6, i7, zs⟩ := k
  dsimp only at *
  have HC := Lib.hid (show ∀ u, Below w.heap.size w u → u.cell? ⟨b, o + 4, none⟩ = some (.int .i64 i4) ∧ u.cell? ⟨b, o + 5, none⟩ = some (.int .i64 i5) ∧ u.cell? ⟨b, o + 6, none⟩ = some (.int .i64 i6) ∧ u.cell? ⟨b, o + 7, none⟩ = some (.int .i64 i7) ∧ u.cell? ⟨b, o + 8, none⟩ = some (.slice A zs.length cp) from
    fun u q => ⟨by rw [kept_cell q b _ hb]; exact c4, by rw [kept_cell q b _ hb]; exact c5, by rw [kept_cell q b _ hb]; exact c6, by rw [kept_cell q b _ hb]; exact c7, by rw [kept_cell q b _ hb]; exact c8⟩)
  have HP := fun u => specOk_any i2 i3 u
  have HQ := fun u => specOk_any i4 i5 u
  have HI := fun u => in_any i1 1 50000 u
  have HJ := fun u => in_any i6 0 2000 u
  have HK := fun u => in_any i7 1 1000000 u
  generalize inB i1 1 50000 = p2 at *
  generalize okP i2 i3 = p3 at *
  generalize okP i4 i5 = p4 at *
  generalize inB i6 0 2000 = p5 at *
  generalize inB i7 1 1000000 = p6 at *
  generalize nameB s = p1 at *
  generalize risesB zs i = p7 at *
  have HP := Lib.hid HP
  have HQ := Lib.hid HQ
  have HI := Lib.hid HI
  have HJ := Lib.hid HJ
  have HK := Lib.hid HK
  clear c4 c5 c6 c7 c8
  by_cases hF : (p1 && p2 && p3) = true
  case neg =>
    rw [show (p1 && (p2 && (p3 && (p4 && (p5 && p6)))) && p7) = false by cases p1 <;> cases p2 <;> cases p3 <;> simp_all]
    cases p1
    all_goals (try (cases p2))
    all_goals (try (cases p3))
    all_goals (try (exact absurd rfl hF))
    all_goals
      clear hF HC HJ HK HR
      go_enter Tryz.func97, Tryz.ntmps97
      go_wp2_with (first | (go_at_call 122; refine (HN.out _).mono ?_; rintro e w1 ⟨rfl, rfl⟩) | (go_at_call 78; refine (HI.out _).mono ?_; rintro e w1 ⟨rfl, rfl⟩) | (go_at_call 43; refine (HP.out _).mono ?_; rintro e w1 ⟨rfl, hb1⟩))
      go_ret
      first | exact ⟨rfl, by assumption⟩ | exact ⟨rfl, Below.refl _ _⟩
  case pos =>
    simp only [Bool.and_eq_true] at hF
    obtain ⟨⟨rfl, rfl⟩, rfl⟩ := hF
    simp only [Bool.true_and]
    cases p4
    case false =>
      go_enter Tryz.func97, Tryz.ntmps97
      go_wp2_with (first | (go_at_call 122; refine (HN.out _).mono ?_; rintro e w1 ⟨rfl, rfl⟩) | (go_at_call 78; refine (HI.out _).mono ?_; rintro e w1 ⟨rfl, rfl⟩))
      refine (HP.out _).mono ?_
      rintro e w1 ⟨rfl, b1⟩
      obtain ⟨c4, c5, c6, c7, c8⟩ := HC.out _ b1
      go_wp2_with fail
      refine (HQ.out _).mono ?_
      rintro e w2 ⟨rfl, b2⟩
      go_wp2
      go_ret
      exact ⟨rfl, kept_trans b1 b2⟩
    case true =>
    cases p5
    · simp only [Bool.false_and]
      go_enter Tryz.func97, Tryz.ntmps97
      go_wp2_with (first | (go_at_call 122; refine (HN.out _).mono ?_; rintro e w1 ⟨rfl, rfl⟩) | (go_at_call 78; refine (HI.out _).mono ?_; rintro e w1 ⟨rfl, rfl⟩))
      refine (HP.out _).mono ?_
      rintro e w1 ⟨rfl, b1⟩
      obtain ⟨c4, c5, c6, c7, c8⟩ := HC.out _ b1
      go_wp2_with fail
      refine (HQ.out _).mono ?_
      rintro e w2 ⟨rfl, b2⟩
      replace b2 := kept_trans b1 b2
      obtain ⟨_, _, d6, d7, d8⟩ := HC.out _ b2
      clear c4 c5 c6 c7 c8
      go_wp2_with fail
      refine (HJ.out _).mono ?_
      rintro e w0 ⟨rfl, rfl⟩
      go_wp2
      go_ret
      exact ⟨rfl, b2⟩
    cases p6
    · simp only [Bool.false_and, Bool.true_and]
      go_enter Tryz.func97, Tryz.ntmps97
      go_wp2_with (first | (go_at_call 122; refine (HN.out _).mono ?_; rintro e w1 ⟨rfl, rfl⟩) | (go_at_call 78; refine (HI.out _).mono ?_; rintro e w1 ⟨rfl, rfl⟩))
      refine (HP.out _).mono ?_
      rintro e w1 ⟨rfl, b1⟩
      obtain ⟨c4, c5, c6, c7, c8⟩ := HC.out _ b1
      go_wp2_with fail
      refine (HQ.out _).mono ?_
      rintro e w2 ⟨rfl, b2⟩
      replace b2 := kept_trans b1 b2
      obtain ⟨_, _, d6, d7, d8⟩ := HC.out _ b2
      clear c4 c5 c6 c7 c8
      go_wp2_with fail
      refine (HJ.out _).mono ?_
      rintro e w0 ⟨rfl, rfl⟩
      go_wp2_with fail
      refine (HK.out _).mono ?_
      rintro e w0 ⟨rfl, rfl⟩
      go_wp2
      go_ret
      exact ⟨rfl, b2⟩
    · simp only [Bool.true_and]
      go_enter Tryz.func97, Tryz.ntmps97
      go_wp2_with (first | (go_at_call 122; refine (HN.out _).mono ?_; rintro e w1 ⟨rfl, rfl⟩) | (go_at_call 78; refine (HI.out _).mono ?_; rintro e w1 ⟨rfl, rfl⟩))
      refine (HP.out _).mono ?_
      rintro e w1 ⟨rfl, b1⟩
      obtain ⟨c4, c5, c6, c7, c8⟩ := HC.out _ b1
      go_wp2_with fail
      refine (HQ.out _).mono ?_
      rintro e w2 ⟨rfl, b2⟩
      replace b2 := kept_trans b1 b2
      obtain ⟨_, _, d6, d7, d8⟩ := HC.out _ b2
      clear c4 c5 c6 c7 c8
      go_wp2_with fail
      refine (HJ.out _).mono ?_
      rintro e w0 ⟨rfl, rfl⟩
      go_wp2_with fail
      refine (HK.out _).mono ?_
      rintro e w0 ⟨rfl, rfl⟩
      go_wp2_with fail
      refine (HR.out _ (RdI_kept H.out b2)).mono ?_
      rintro e w3 ⟨rfl, b3⟩
      go_wp2
      go_ret
      exact ⟨rfl, kept_trans b2 b3⟩

theorem within1_any (lo hi n : Int) (g c : Nat) (w : World) (hg : g < w.heap.size) (h0 : w.cell? ⟨g, 0, none⟩ = some (.int .i64 n)) :
    Calls Tryz.prog 88 #[.int .i64 lo, .int .i64 hi, .slice (some ⟨g, 0, none⟩) 1 c] w fun e w' => e = .returned (.bool (inB n lo hi)) ∧ Below w.heap.size w w' := by
  have H := within_any lo hi _ [n] w (rdI1 (c := c) hg h0)
  rwa [show ([n].all fun n => inB n lo hi) = inB n lo hi by simp] at H

/-- One more than the number before a place; 0 at the start. -/
def lastU (zs : List Int) (m : Nat) : Int := if m = 0 then 0 else (zs[m - 1]?).getD 0 + 1

theorem lastU_in {zs : List Int} {k : Int} {m : Nat} (hr : RisesP zs k m) (hm : m < zs.length) : inB zs[m] (lastU zs m) (k - 1) = true ↔ (0 ≤ zs[m] ∧ zs[m] ≤ k - 1) ∧ ∀ _ : 0 < m, zs[m - 1] < zs[m] := by
  unfold lastU
  by_cases h0 : m = 0
  · subst h0
    simp [inB]
  · have h1 := (hr (m - 1) (by omega) (by omega)).1
    have hm0 : 0 < m := by omega
    rw [if_neg h0, List.getElem?_eq_getElem (by omega)]
    simp only [Option.getD_some, inB, Bool.and_eq_true, decide_eq_true_eq]
    constructor
    · intro h
      exact ⟨⟨by omega, by omega⟩, fun _ => by omega⟩
    · rintro ⟨⟨_, h2⟩, h3⟩
      have := h3 hm0
      exact ⟨by omega, h2⟩

theorem lastU_step {zs : List Int} {m : Nat} (hm : m < zs.length) : lastU zs (m + 1) = zs[m] + 1 := by
  simp [lastU, hm]

theorem implAfter_any (v : Value) (zs : List Int) (k : Int) (hk : 0 ≤ k ∧ k ≤ 1000000) (w : World) (h : RdI w v zs) :
    Calls Tryz.prog 116 #[v, .int .i64 k] w fun e w' => e = .returned (.bool (risesB zs k)) ∧ Below w.heap.size w w' := by
  obtain ⟨A, c, rfl, hl, r1⟩ := RdI_slice h
  clear h
  have R := Lib.hid r1; clear r1
  have HBAD := Lib.hid (fun i (hi : i < zs.length) (hno : ¬ ((0 ≤ zs[i] ∧ zs[i] ≤ k - 1) ∧ ∀ _ : 0 < i, zs[i - 1] < zs[i])) => risesB_false (n := k) (fun hp => hno (hp i hi hi)))
  have HEND := Lib.hid (fun h => risesB_true (zs := zs) (n := k) h)
  generalize risesB zs k = G at *
  go_enter Tryz.func116, Tryz.ntmps116
  go_wp2_with fail
  go_loopw [5, 10] (fun l i wr => ∃ m : Nat, m ≤ zs.length ∧ i = .int .i64 (m : Int) ∧ l = .int .i64 (lastU zs m) ∧ RisesP zs k m ∧ Below w.heap.size w wr) (fun _ i _ => zs.length - (intOf i).toNat)
  case atStart => exact ⟨0, by omega, rfl, rfl, fun i _ h => by omega, Below.refl _ _⟩
  case round =>
    obtain ⟨m, hm, rfl, rfl, hrp, hb⟩ := hrel
    by_cases hlt : m < zs.length
    · obtain ⟨b, off, rfl, hbl, hc⟩ := R.out m hlt
      rw [← kept_cell hb b _ hbl] at hc
      have hbad := HBAD.out m hlt
      have hnx := RisesP_step hrp hlt
      have hin := lastU_in hrp hlt
      have hst := lastU_step hlt
      have hW := fun (g : Nat) (u : World) (q1 : g < u.heap.size) (q2 : u.cell? ⟨g, 0, none⟩ = some (.int .i64 zs[m])) => within1_any (lastU zs m) (k - 1) zs[m] g 1 u q1 q2
      clear hrp
      have HST := Lib.hid hst; clear hst
      generalize lastU zs m = l at *
      cases hI : inB zs[m] l (k - 1)
      · rw [hI] at hin hW
        have hG := hbad (fun hx => by cases hin.2 hx)
        subst hG
        have HW := Lib.hid hW; clear hW hin hbad hnx hI
        generalize zs[m] = x at *
        go_wp2_with fail
        refine (HW.out _ _ (by go_size) (by go_simp)).mono ?_
        rintro e w1 ⟨rfl, hb1⟩
        have b1 := kept_trans (a := wr) (by go_grown) hb1
        go_wp2
        go_ret
        exact ⟨rfl, kept_trans hb b1⟩
      · rw [hI] at hin hW
        have hp := hin.1 rfl
        have HNX := Lib.hid (hnx hp.1 hp.2)
        have hxb := hp.1
        have HW := Lib.hid hW; clear hW hin hbad hnx hI hp
        generalize zs[m] = x at *
        go_wp2_with fail
        refine (HW.out _ _ (by go_size) (by go_simp)).mono ?_
        rintro e w1 ⟨rfl, hb1⟩
        have b1 := kept_trans (a := wr) (by go_grown) hb1
        go_wp2
        go_roundw
        case rel => exact ⟨m + 1, by omega, by go_num, by rw [HST.out], HNX.out, kept_trans hb b1⟩
        case measure => simp [intOf]; omega
    · have : m = zs.length := by omega
      subst this
      have hE := HEND.out hrp
      clear hrp
      subst hE
      go_wp2
      go_ret
      exact ⟨rfl, hb⟩

set_option maxHeartbeats 4000000 in
theorem implOne_any (k : Lf) (c : Value) (i : Int) (hi : 0 ≤ i ∧ i ≤ 1000000) (w : World) (hr : RdI w c k.af) (hs : k.nm.size ≤ 1000000) :
    Calls Tryz.prog 89 #[.agg #[.string k.nm, .int .i64 k.wt, .int .i64 k.fx, .int .i64 k.fy, .int .i64 k.tx, .int .i64 k.ty, .int .i64 k.h, .int .i64 k.dl, c], .int .i64 i] w fun e w' => e = .returned (.bool (oneB k i)) ∧ Below w.heap.size w w' := by
  obtain ⟨A, cp, rfl, hl, _⟩ := RdI_slice hr
  have H := Lib.hid hr; clear hr
  have HN := Lib.hid (fun u => implIsName_any k.nm u hs)
  have HR := Lib.hid (fun u (q : RdI u (.slice A k.af.length cp) k.af) => implAfter_any _ _ i hi u q)
  unfold oneB fldB
  obtain ⟨s, i1, i2, i3, i4, i5, i6, i7, zs⟩ := k
  dsimp only at *
  have HP := fun u => validPlace_any i2 i3 u
  have HQ := fun u => validPlace_any i4 i5 u
  have HI := fun g u q1 q2 => within1_any 1 50000 i1 g 1 u q1 q2
  have HJ := fun u => validHeight_any i6 u
  have HK := fun g u q1 q2 => within1_any 1 1000000 i7 g 1 u q1 q2
  generalize inB i1 1 50000 = p2 at *
  generalize okP i2 i3 = p3 at *
  generalize okP i4 i5 = p4 at *
  generalize inB i6 0 2000 = p5 at *
  generalize inB i7 1 1000000 = p6 at *
  generalize nameB s = p1 at *
  generalize risesB zs i = p7 at *
  have HP := Lib.hid HP
  have HQ := Lib.hid HQ
  have HI := Lib.hid HI
  have HJ := Lib.hid HJ
  have HK := Lib.hid HK
  cases p1
  · go_enter Tryz.func89, Tryz.ntmps89
    go_wp2_with fail
    refine (HN.out _).mono ?_
    rintro e w1 ⟨rfl, b1⟩
    refine kept_at b1 (w.heap.size) (by go_size) fun c1_0 z1_0 s1_0 => ?_
    replace b1 := kept_trans (a := w) (by go_grown) b1
    have l1 := kept_cell b1
    have zz1 := b1.size
    go_wp2
    go_ret
    exact ⟨rfl, b1⟩
  cases p2
  · go_enter Tryz.func89, Tryz.ntmps89
    go_wp2_with fail
    refine (HN.out _).mono ?_
    rintro e w1 ⟨rfl, b1⟩
    refine kept_at b1 (w.heap.size) (by go_size) fun c1_0 z1_0 s1_0 => ?_
    replace b1 := kept_trans (a := w) (by go_grown) b1
    have l1 := kept_cell b1
    have zz1 := b1.size
    go_wp2_with fail
    refine (HI.out _ _ (by go_size) (by go_simp)).mono ?_
    rintro e w2 ⟨rfl, b2⟩
    refine kept_at b2 (w.heap.size) (by go_size) fun c2_0 z2_0 s2_0 => ?_
    replace b2 := kept_trans (a := w) (by go_grown) b2
    have l2 := kept_cell b2
    have zz2 := b2.size
    go_wp2
    go_ret
    exact ⟨rfl, b2⟩
  cases p3
  · go_enter Tryz.func89, Tryz.ntmps89
    go_wp2_with fail
    refine (HN.out _).mono ?_
    rintro e w1 ⟨rfl, b1⟩
    refine kept_at b1 (w.heap.size) (by go_size) fun c1_0 z1_0 s1_0 => ?_
    replace b1 := kept_trans (a := w) (by go_grown) b1
    have l1 := kept_cell b1
    have zz1 := b1.size
    go_wp2_with fail
    refine (HI.out _ _ (by go_size) (by go_simp)).mono ?_
    rintro e w2 ⟨rfl, b2⟩
    refine kept_at b2 (w.heap.size) (by go_size) fun c2_0 z2_0 s2_0 => ?_
    replace b2 := kept_trans (a := w) (by go_grown) b2
    have l2 := kept_cell b2
    have zz2 := b2.size
    go_wp2_with fail
    refine (HP.out _).mono ?_
    rintro e w3 ⟨rfl, b3⟩
    refine kept_at b3 (w.heap.size) (by go_size) fun c3_0 z3_0 s3_0 => ?_
    replace b3 := kept_trans (a := w) (by go_grown) b3
    have l3 := kept_cell b3
    have zz3 := b3.size
    go_wp2
    go_ret
    exact ⟨rfl, b3⟩
  cases p4
  · go_enter Tryz.func89, Tryz.ntmps89
    go_wp2_with fail
    refine (HN.out _).mono ?_
    rintro e w1 ⟨rfl, b1⟩
    refine kept_at b1 (w.heap.size) (by go_size) fun c1_0 z1_0 s1_0 => ?_
    replace b1 := kept_trans (a := w) (by go_grown) b1
    have l1 := kept_cell b1
    have zz1 := b1.size
    go_wp2_with fail
    refine (HI.out _ _ (by go_size) (by go_simp)).mono ?_
    rintro e w2 ⟨rfl, b2⟩
    refine kept_at b2 (w.heap.size) (by go_size) fun c2_0 z2_0 s2_0 => ?_
    replace b2 := kept_trans (a := w) (by go_grown) b2
    have l2 := kept_cell b2
    have zz2 := b2.size
    go_wp2_with fail
    refine (HP.out _).mono ?_
    rintro e w3 ⟨rfl, b3⟩
    refine kept_at b3 (w.heap.size) (by go_size) fun c3_0 z3_0 s3_0 => ?_
    replace b3 := kept_trans (a := w) (by go_grown) b3
    have l3 := kept_cell b3
    have zz3 := b3.size
    go_wp2_with fail
    refine (HQ.out _).mono ?_
    rintro e w4 ⟨rfl, b4⟩
    refine kept_at b4 (w.heap.size) (by go_size) fun c4_0 z4_0 s4_0 => ?_
    replace b4 := kept_trans (a := w) (by go_grown) b4
    have l4 := kept_cell b4
    have zz4 := b4.size
    go_wp2
    go_ret
    exact ⟨rfl, b4⟩
  cases p5
  · go_enter Tryz.func89, Tryz.ntmps89
    go_wp2_with fail
    refine (HN.out _).mono ?_
    rintro e w1 ⟨rfl, b1⟩
    refine kept_at b1 (w.heap.size) (by go_size) fun c1_0 z1_0 s1_0 => ?_
    replace b1 := kept_trans (a := w) (by go_grown) b1
    have l1 := kept_cell b1
    have zz1 := b1.size
    go_wp2_with fail
    refine (HI.out _ _ (by go_size) (by go_simp)).mono ?_
    rintro e w2 ⟨rfl, b2⟩
    refine kept_at b2 (w.heap.size) (by go_size) fun c2_0 z2_0 s2_0 => ?_
    replace b2 := kept_trans (a := w) (by go_grown) b2
    have l2 := kept_cell b2
    have zz2 := b2.size
    go_wp2_with fail
    refine (HP.out _).mono ?_
    rintro e w3 ⟨rfl, b3⟩
    refine kept_at b3 (w.heap.size) (by go_size) fun c3_0 z3_0 s3_0 => ?_
    replace b3 := kept_trans (a := w) (by go_grown) b3
    have l3 := kept_cell b3
    have zz3 := b3.size
    go_wp2_with fail
    refine (HQ.out _).mono ?_
    rintro e w4 ⟨rfl, b4⟩
    refine kept_at b4 (w.heap.size) (by go_size) fun c4_0 z4_0 s4_0 => ?_
    replace b4 := kept_trans (a := w) (by go_grown) b4
    have l4 := kept_cell b4
    have zz4 := b4.size
    go_wp2_with fail
    refine (HJ.out _).mono ?_
    rintro e w0 ⟨rfl, rfl⟩
    go_wp2
    go_ret
    exact ⟨rfl, b4⟩
  cases p6
  · go_enter Tryz.func89, Tryz.ntmps89
    go_wp2_with fail
    refine (HN.out _).mono ?_
    rintro e w1 ⟨rfl, b1⟩
    refine kept_at b1 (w.heap.size) (by go_size) fun c1_0 z1_0 s1_0 => ?_
    replace b1 := kept_trans (a := w) (by go_grown) b1
    have l1 := kept_cell b1
    have zz1 := b1.size
    go_wp2_with fail
    refine (HI.out _ _ (by go_size) (by go_simp)).mono ?_
    rintro e w2 ⟨rfl, b2⟩
    refine kept_at b2 (w.heap.size) (by go_size) fun c2_0 z2_0 s2_0 => ?_
    replace b2 := kept_trans (a := w) (by go_grown) b2
    have l2 := kept_cell b2
    have zz2 := b2.size
    go_wp2_with fail
    refine (HP.out _).mono ?_
    rintro e w3 ⟨rfl, b3⟩
    refine kept_at b3 (w.heap.size) (by go_size) fun c3_0 z3_0 s3_0 => ?_
    replace b3 := kept_trans (a := w) (by go_grown) b3
    have l3 := kept_cell b3
    have zz3 := b3.size
    go_wp2_with fail
    refine (HQ.out _).mono ?_
    rintro e w4 ⟨rfl, b4⟩
    refine kept_at b4 (w.heap.size) (by go_size) fun c4_0 z4_0 s4_0 => ?_
    replace b4 := kept_trans (a := w) (by go_grown) b4
    have l4 := kept_cell b4
    have zz4 := b4.size
    go_wp2_with fail
    refine (HJ.out _).mono ?_
    rintro e w0 ⟨rfl, rfl⟩
    go_wp2_with fail
    refine (HK.out _ _ (by go_size) (by go_simp)).mono ?_
    rintro e w6 ⟨rfl, b6⟩
    refine kept_at b6 (w.heap.size) (by go_size) fun c6_0 z6_0 s6_0 => ?_
    replace b6 := kept_trans (a := w) (by go_grown) b6
    have l6 := kept_cell b6
    have zz6 := b6.size
    go_wp2
    go_ret
    exact ⟨rfl, b6⟩
  · go_enter Tryz.func89, Tryz.ntmps89
    go_wp2_with fail
    refine (HN.out _).mono ?_
    rintro e w1 ⟨rfl, b1⟩
    refine kept_at b1 (w.heap.size) (by go_size) fun c1_0 z1_0 s1_0 => ?_
    replace b1 := kept_trans (a := w) (by go_grown) b1
    have l1 := kept_cell b1
    have zz1 := b1.size
    go_wp2_with fail
    refine (HI.out _ _ (by go_size) (by go_simp)).mono ?_
    rintro e w2 ⟨rfl, b2⟩
    refine kept_at b2 (w.heap.size) (by go_size) fun c2_0 z2_0 s2_0 => ?_
    replace b2 := kept_trans (a := w) (by go_grown) b2
    have l2 := kept_cell b2
    have zz2 := b2.size
    go_wp2_with fail
    refine (HP.out _).mono ?_
    rintro e w3 ⟨rfl, b3⟩
    refine kept_at b3 (w.heap.size) (by go_size) fun c3_0 z3_0 s3_0 => ?_
    replace b3 := kept_trans (a := w) (by go_grown) b3
    have l3 := kept_cell b3
    have zz3 := b3.size
    go_wp2_with fail
    refine (HQ.out _).mono ?_
    rintro e w4 ⟨rfl, b4⟩
    refine kept_at b4 (w.heap.size) (by go_size) fun c4_0 z4_0 s4_0 => ?_
    replace b4 := kept_trans (a := w) (by go_grown) b4
    have l4 := kept_cell b4
    have zz4 := b4.size
    go_wp2_with fail
    refine (HJ.out _).mono ?_
    rintro e w0 ⟨rfl, rfl⟩
    go_wp2_with fail
    refine (HK.out _ _ (by go_size) (by go_simp)).mono ?_
    rintro e w6 ⟨rfl, b6⟩
    refine kept_at b6 (w.heap.size) (by go_size) fun c6_0 z6_0 s6_0 => ?_
    replace b6 := kept_trans (a := w) (by go_grown) b6
    have l6 := kept_cell b6
    have zz6 := b6.size
    go_wp2_with fail
    refine (HR.out _ (RdI_kept H.out b6)).mono ?_
    rintro e w7 ⟨rfl, b7⟩
    replace b7 := kept_trans (a := w) (by go_grown) b7
    have l7 := kept_cell b7
    have zz7 := b7.size
    go_wp2
    go_ret
    exact ⟨rfl, b7⟩

/-- A block begins with these values. -/
def BoxR (u : World) (b : Nat) (row : List Value) : Prop := b < u.heap.size ∧ ∀ i v, row[i]? = some v → u.cell? ⟨b, i, none⟩ = some v

theorem BoxR_kept {u u1 : World} {b : Nat} {row : List Value} (h : BoxR u b row) (hb : Below u.heap.size u u1) : BoxR u1 b row :=
  ⟨Nat.lt_of_lt_of_le h.1 hb.size, fun i v hv => (kept_cell hb b i h.1).trans (h.2 i v hv)⟩

theorem BoxR_new' {u : World} {b : Nat} {arr : Array Value} {t : TypeId} (h : b = u.heap.size) : BoxR (u.alloc (.cells arr t)) b arr.toList := by
  subst h
  refine ⟨by simp, fun i v hv => ?_⟩
  rw [cell_of_row _ _ i _ _ _ (heap_alloc_new u _)]
  simpa using hv

theorem BoxR_up {u : World} {b : Nat} {row : List Value} {x : Obj} (h : BoxR u b row) : BoxR (u.alloc x) b row := BoxR_kept h (by go_grown)

theorem wrap_in {n : Int} (h : -9223372036854775808 ≤ n ∧ n ≤ 9223372036854775807) : IntKind.i64.wrap n = n := IntWalk.i64_in n (by omega)

theorem radiusAt_any (b o : Nat) (k : Cr) (c : Value) (u v : Int) (w : World) (h : CrAt w b o k c) :
    Calls Tryz.prog 93 #[.pointer (some ⟨b, o, none⟩), .agg #[.int .i64 u, .int .i64 v]] w fun e w' => e = .returned (.int .i64 (radL k.x k.y u v).1) ∧ Below w.heap.size w w' := by
  have HR := Lib.hid (fun W => implRadius_any k.x k.y u v W)
  obtain ⟨hb, ⟨_, g1, g2, _⟩, _⟩ := h
  generalize (radL k.x k.y u v).1 = R at *
  generalize (radL k.x k.y u v).2 = R2 at *
  obtain ⟨s, x, y, hh, j, bb, zs⟩ := k
  dsimp only at *
  have B0 : Hid (Below w.heap.size w (w.alloc (.cells #[.int .i64 u, .int .i64 v] 36))) := Lib.hid (by go_grown)
  have K0 : Hid (BoxR (w.alloc (.cells #[.int .i64 u, .int .i64 v] 36)) w.heap.size [.int .i64 u, .int .i64 v]) := Lib.hid (BoxR_new' rfl)
  have f1 := fun x : BelowBy (w.alloc (.cells #[.int .i64 u, .int .i64 v] 36)) => (kept_cell (kept_trans B0.out x.h) _ _ hb).trans g1
  have f2 := fun x : BelowBy (w.alloc (.cells #[.int .i64 u, .int .i64 v] 36)) => (kept_cell (kept_trans B0.out x.h) _ _ hb).trans g2
  have f3 := fun x : BelowBy (w.alloc (.cells #[.int .i64 u, .int .i64 v] 36)) => (BoxR_kept K0.out x.h).2 0 _ rfl
  have f4 := fun x : BelowBy (w.alloc (.cells #[.int .i64 u, .int .i64 v] 36)) => (BoxR_kept K0.out x.h).2 1 _ rfl
  go_enter Tryz.func93, Tryz.ntmps93
  go_wp2_with fail
  refine wp_region_below (by kernel_rfl) (by kernel_rfl) ?_
  repeat (go_big_quiet_step ((go_at_call 121; exact below_call (fun _ => HR.out _))))
  refine wpQuiet_nil ?_
  intro wq hw'
  obtain ⟨⟨_, hbq⟩, hwq⟩ := hw'
  subst hwq
  (try dsimp only)
  go_wp2
  go_ret
  exact ⟨rfl, kept_trans B0.out hbq⟩

theorem directionAt_any (b o : Nat) (k : Cr) (c : Value) (u v : Int) (w : World) (h : CrAt w b o k c) (ht : VecTab w) :
    Calls Tryz.prog 92 #[.pointer (some ⟨b, o, none⟩), .agg #[.int .i64 u, .int .i64 v]] w fun e w' => e = .returned (.int .i64 (dirToL k.x k.y u v).1) ∧ Below w.heap.size w w' := by
  have HR := Lib.hid (fun W (q : Below w.heap.size w W) => implDirectionTo_any k.x k.y u v W (VecTab_kept ht q))
  obtain ⟨hb, ⟨_, g1, g2, _⟩, _⟩ := h
  generalize (dirToL k.x k.y u v).1 = R at *
  generalize (dirToL k.x k.y u v).2 = R2 at *
  obtain ⟨s, x, y, hh, j, bb, zs⟩ := k
  dsimp only at *
  have B0 : Hid (Below w.heap.size w (w.alloc (.cells #[.int .i64 u, .int .i64 v] 36))) := Lib.hid (by go_grown)
  have K0 : Hid (BoxR (w.alloc (.cells #[.int .i64 u, .int .i64 v] 36)) w.heap.size [.int .i64 u, .int .i64 v]) := Lib.hid (BoxR_new' rfl)
  have f1 := fun x : BelowBy (w.alloc (.cells #[.int .i64 u, .int .i64 v] 36)) => (kept_cell (kept_trans B0.out x.h) _ _ hb).trans g1
  have f2 := fun x : BelowBy (w.alloc (.cells #[.int .i64 u, .int .i64 v] 36)) => (kept_cell (kept_trans B0.out x.h) _ _ hb).trans g2
  have f3 := fun x : BelowBy (w.alloc (.cells #[.int .i64 u, .int .i64 v] 36)) => (BoxR_kept K0.out x.h).2 0 _ rfl
  have f4 := fun x : BelowBy (w.alloc (.cells #[.int .i64 u, .int .i64 v] 36)) => (BoxR_kept K0.out x.h).2 1 _ rfl
  go_enter Tryz.func92, Tryz.ntmps92
  go_wp2_with fail
  refine wp_region_below (by kernel_rfl) (by kernel_rfl) ?_
  repeat (go_big_quiet_step ((go_at_call 120; exact below_call (fun hbx => HR.out _ (kept_trans B0.out hbx)))))
  refine wpQuiet_nil ?_
  intro wq hw'
  obtain ⟨⟨_, hbq⟩, hwq⟩ := hw'
  subst hwq
  (try dsimp only)
  go_wp2
  go_ret
  exact ⟨rfl, kept_trans B0.out hbq⟩

theorem fldB_true {k : Lf} (h : fldB k = true) : (1 ≤ k.wt ∧ k.wt ≤ 50000) ∧ okP k.fx k.fy = true ∧ okP k.tx k.ty = true ∧ (0 ≤ k.h ∧ k.h ≤ 2000) ∧ (1 ≤ k.dl ∧ k.dl ≤ 1000000) := by
  simp only [fldB, Bool.and_eq_true] at h
  obtain ⟨_, h2, h3, h4, h5, h6⟩ := h
  exact ⟨inB_true h2, h3, h4, inB_true h5, inB_true h6⟩

/-- The direction to a place; 0 if it is the place itself. -/
def dir9 (x y u v : Int) : Int := if x = u ∧ y = v then 0 else (stL (u - x) (v - y) 24).1

/-- The load of a valid crane at a place; -1 if there is none. -/
noncomputable def place9 (k : Cr) (u v : Int) : Int := if reachB k u v then loadL k.ch (distL k u v) else -1

noncomputable def load9 (k : Cr) (l : Lf) : Int := min (place9 k l.fx l.fy) (place9 k l.tx l.ty)

noncomputable def can9 (k : Cr) (l : Lf) : Bool := decide (l.wt ≤ load9 k l) && decide (l.h + 30 ≤ k.h)

theorem risesB_nil (n : Int) : risesB [] n = true := risesB_true (fun i h => absurd h (by simp))

theorem oneB_plain (k : Lf) : oneB { k with af := [] } 0 = fldB k := by
  unfold oneB
  rw [risesB_nil, Bool.and_true]
  rfl

theorem LfAt_box (s : ByteArray) (i1 i2 i3 i4 i5 i6 i7 : Int) (zs : List Int) (c : Value) (w : World) (t : TypeId) (h : RdI w c zs) :
    LfAt (w.alloc (.cells #[.string s, .int .i64 i1, .int .i64 i2, .int .i64 i3, .int .i64 i4, .int .i64 i5, .int .i64 i6, .int .i64 i7, c] t)) w.heap.size 0 ⟨s, i1, i2, i3, i4, i5, i6, i7, zs⟩ c :=
  ⟨by simp, by simp, RdI_kept h (by go_grown)⟩

theorem CrAt_box (s : ByteArray) (x y hh j b : Int) (zs : List (Int × Int)) (c : Value) (w : World) (t : TypeId) (h : RdP w c zs) :
    CrAt (w.alloc (.cells #[.string s, .int .i64 x, .int .i64 y, .int .i64 hh, .int .i64 j, .int .i64 b, c] t)) w.heap.size 0 ⟨s, x, y, hh, j, b, zs⟩ c :=
  ⟨by simp, by simp, RdP_kept h (by go_grown)⟩

theorem specPlain_any (b o : Nat) (l : Lf) (c : Value) (w : World) (h : LfAt w b o l c) (hs : l.nm.size ≤ 1000000) :
    Calls Tryz.prog 69 #[.pointer (some ⟨b, o, none⟩)] w fun e w' => e = .returned (.bool (fldB l)) ∧ Below w.heap.size w w' := by
  have HO := fun b u (q : LfAt u b 0 { l with af := [] } (.slice none 0 0)) => specOne_any b 0 { l with af := [] } _ 0 (by omega) u q hs
  rw [oneB_plain] at HO
  have HO := Lib.hid HO
  obtain ⟨hb, ⟨c0, c1, c2, c3, c4, c5, c6, c7, c8⟩, hr⟩ := h
  obtain ⟨A, cp, rfl, hl, _⟩ := RdI_slice hr
  clear hr
  generalize fldB l = R at *
  obtain ⟨s, i1, i2, i3, i4, i5, i6, i7, zs⟩ := l
  dsimp only at *
  go_enter Tryz.func69, Tryz.ntmps69
  go_wp2_with fail
  refine (HO.out _ _ (LfAt_box _ _ _ _ _ _ _ _ [] _ _ _ (rdI0' _))).mono ?_
  rintro e w1 ⟨rfl, hb1⟩
  have b1 := kept_trans (a := w) (by go_grown) hb1
  go_wp2
  go_ret
  exact ⟨rfl, b1⟩

theorem implPlain_any (l : Lf) (d : Value) (w : World) (h : RdI w d l.af) (hs : l.nm.size ≤ 1000000) :
    Calls Tryz.prog 47 #[.agg #[.string l.nm, .int .i64 l.wt, .int .i64 l.fx, .int .i64 l.fy, .int .i64 l.tx, .int .i64 l.ty, .int .i64 l.h, .int .i64 l.dl, d]] w fun e w' => e = .returned (.bool (fldB l)) ∧ Below w.heap.size w w' := by
  have HO := fun u => implOne_any { l with af := [] } _ 0 (by omega) u (rdI0' u) hs
  rw [oneB_plain] at HO
  have HO := Lib.hid HO
  obtain ⟨A, cp, rfl, hl, _⟩ := RdI_slice h
  clear h
  generalize fldB l = R at *
  obtain ⟨s, i1, i2, i3, i4, i5, i6, i7, zs⟩ := l
  dsimp only at *
  go_enter Tryz.func47, Tryz.ntmps47
  go_wp2_with fail
  refine (HO.out _).mono ?_
  rintro e w1 ⟨rfl, hb1⟩
  have b1 := kept_trans (a := w) (by go_grown) hb1
  go_wp2
  go_ret
  exact ⟨rfl, b1⟩

theorem specCode9_any (b1 b2 : Nat) (k : Cr) (l : Lf) (c d : Value) (w : World) (h1 : CrAt w b1 0 k c) (h2 : LfAt w b2 0 l d) (hk : k.nm.size ≤ 1000000) (hl : l.nm.size ≤ 1000000) :
    Calls Tryz.prog 72 #[.pointer (some ⟨b1, 0, none⟩), .pointer (some ⟨b2, 0, none⟩)] w fun e w' => e = .returned (.int .i64 (if craneB k && fldB l then 0 else 1)) ∧ Below w.heap.size w w' := by
  have HC := Lib.hid (specCrane_any b1 0 k c w h1 hk)
  have HP := Lib.hid (fun u (q : Below w.heap.size w u) => specPlain_any b2 0 l d u (LfAt_kept h2 q) hl)
  clear h1 h2
  cases p1 : craneB k <;> rw [p1] at HC
  · go_enter Tryz.func72, Tryz.ntmps72
    go_wp2_with fail
    refine HC.out.mono ?_
    rintro e w1 ⟨rfl, b1⟩
    go_wp2
    go_ret
    exact ⟨rfl, b1⟩
  · cases p2 : fldB l <;> rw [p2] at HP
    all_goals
      go_enter Tryz.func72, Tryz.ntmps72
      go_wp2_with fail
      refine HC.out.mono ?_
      rintro e w1 ⟨rfl, b1⟩
      go_wp2_with fail
      refine (HP.out _ b1).mono ?_
      rintro e w2 ⟨rfl, b2⟩
      go_wp2
      go_ret
      exact ⟨rfl, kept_trans b1 b2⟩

theorem min2_any {P : Program} (w : World) (ts : Array TypeId) (t : TypeId) (x y : Int) : (Builtin.min_ ts t #[.int .i64 x, .int .i64 y]).run P w = .ok (.int .i64 (min x y)) w := by
  have e1 : (if y < x then y else x) = min x y := by rw [Int.min_def]; split <;> split <;> omega
  simp [Builtin.min_, Builtin.min2, e1]

theorem place9_lo {k : Cr} {u v : Int} (hc : craneB k = true) : -1 ≤ place9 k u v ∧ (reachB k u v = true → 0 ≤ place9 k u v) ∧ place9 k u v ≤ 50000 := by
  unfold place9
  cases h : reachB k u v
  · simp
  · have h1 := loadL_reach (u := u) (v := v) hc h
    have hk := (craneB_true hc).2.2.2.2.1
    have h2 : loadL k.ch (distL k u v) ≤ 50000 := by
      have hh := h
      simp only [reachB, decide_eq_true_eq] at hh
      exact (loadL_bd hk ((find_last hk _).2 hh)).2
    simp
    omega

set_option maxHeartbeats 2000000 in
theorem specLoad9_any (b1 o1 b2 o2 : Nat) (k : Cr) (l : Lf) (c d : Value) (w : World) (h1 : CrAt w b1 o1 k c) (h2 : LfAt w b2 o2 l d) (hc : craneB k = true) (hf : fldB l = true) :
    Calls Tryz.prog 107 #[.pointer (some ⟨b1, o1, none⟩), .pointer (some ⟨b2, o2, none⟩)] w fun e w' => e = .returned (.int .i64 (load9 k l)) ∧ Below w.heap.size w w' := by
  have f := fldB_true hf
  have HG := Lib.hid (fun u (q : Below w.heap.size w u) x y (ok : okP x y = true) => specKLoad_any b1 o1 k c x y u (CrAt_kept h1 q) hc ok)
  have HM := Lib.hid (fun u x y => same_below (min_any x y u))
  have hl : load9 k l = min (place9 k l.fx l.fy) (place9 k l.tx l.ty) := rfl
  rw [hl]
  have HG : Hid (∀ u, Below w.heap.size w u → ∀ x y, okP x y = true → Calls Tryz.prog 130 #[.pointer (some ⟨b1, o1, none⟩), .agg #[.int .i64 x, .int .i64 y]] u fun e w' => e = .returned (.int .i64 (place9 k x y)) ∧ Below u.heap.size u w') := Lib.hid HG.out
  have k1 := f.2.1
  have k2 := f.2.2.1
  clear hl f hc hf h1
  obtain ⟨hb, ⟨_, _, c2, c3, c4, c5, _, _, _⟩, _⟩ := h2
  generalize place9 k = G at *
  obtain ⟨ls, i1, i2, i3, i4, i5, i6, i7, us⟩ := l
  dsimp only at *
  have f2 := fun x : BelowBy w => (kept_cell x.h _ _ hb).trans c2
  have f3 := fun x : BelowBy w => (kept_cell x.h _ _ hb).trans c3
  have f4 := fun x : BelowBy w => (kept_cell x.h _ _ hb).trans c4
  have f5 := fun x : BelowBy w => (kept_cell x.h _ _ hb).trans c5
  clear c2 c3 c4 c5
  go_enter Tryz.func107, Tryz.ntmps107
  go_wp2_with fail
  refine wp_region_below (by kernel_rfl) (by kernel_rfl) ?_
  repeat (go_big_quiet_step ((first | (go_at_call 130; exact below_call (fun hbx => HG.out _ hbx _ _ (by first | exact k1 | exact k2))) | (go_at_call 129; exact below_call (fun _ => HM.out _ _ _)))))
  refine wpQuiet_nil ?_
  intro wq hw'
  obtain ⟨⟨_, hbq⟩, hwq⟩ := hw'
  subst hwq
  (try dsimp only)
  go_wp2
  go_ret
  exact ⟨rfl, hbq⟩

/-- What the filter of a lift tells beside whether the crane reaches both places. -/
noncomputable def liftX (k : Cr) (l : Lf) : Int := min (if reachB k l.fx l.fy then loadL k.ch (distL k l.fx l.fy) else 0) (if reachB k l.tx l.ty then loadL k.ch (distL k l.tx l.ty) else 0)

noncomputable def reach9 (k : Cr) (l : Lf) : Bool := reachB k l.fx l.fy && reachB k l.tx l.ty

theorem reach9_load {k : Cr} {l : Lf} (hc : craneB k = true) : (reach9 k l = true → liftX k l = load9 k l ∧ 0 ≤ load9 k l) ∧ (reach9 k l = false → load9 k l < 0) := by
  have h1 := place9_lo (u := l.fx) (v := l.fy) hc
  have h2 := place9_lo (u := l.tx) (v := l.ty) hc
  unfold reach9 liftX load9
  cases r1 : reachB k l.fx l.fy <;> cases r2 : reachB k l.tx l.ty <;> simp only [r1, r2, place9, if_true, if_false, Bool.false_eq_true, forall_const] at * <;> simp <;> omega

set_option maxHeartbeats 4000000 in
theorem liftFn_any (b o lb : Nat) (k : Cr) (l : Lf) (c d : Value) (w : World) (h1 : CrAt w b o k c) (h2 : LfAt w lb 0 l d) (hc : craneB k = true) (hf : fldB l = true) (hk : k.nm.size ≤ 1000000) :
    Calls Tryz.prog 133 #[.pointer (some ⟨b, o, none⟩), .pointer (some ⟨lb, 0, none⟩)] w fun e w' => e = .returned (.tuple #[.int .i64 (liftX k l), .bool (reach9 k l)]) ∧ Below w.heap.size w w' := by
  have f := fldB_true hf
  have e1 : loadPlaceL k l.fx l.fy = if reachB k l.fx l.fy then (loadL k.ch (distL k l.fx l.fy), 0) else (0, 3) := by simp [loadPlaceL, hc, f.2.1]
  have e2 : loadPlaceL k l.tx l.ty = if reachB k l.tx l.ty then (loadL k.ch (distL k l.tx l.ty), 0) else (0, 3) := by simp [loadPlaceL, hc, f.2.2.1]
  have hA := fun u (q : Below w.heap.size w u) => implLoadPlace_any k c l.fx l.fy u (RdP_kept h1.2.2 q) hk
  have hB := fun u (q : Below w.heap.size w u) => implLoadPlace_any k c l.tx l.ty u (RdP_kept h1.2.2 q) hk
  rw [e1] at hA
  rw [e2] at hB
  unfold liftX reach9
  clear e1 e2 f hc hf
  obtain ⟨hb1, ⟨g0, g1, g2, g3, g4, g5, g6⟩, hr⟩ := h1
  obtain ⟨hb2, ⟨_, _, c2, c3, c4, c5, _, _, _⟩, _⟩ := h2
  obtain ⟨A, cp, rfl, _, _⟩ := RdP_slice hr
  simp only [Nat.zero_add] at c2 c3 c4 c5
  generalize loadL k.ch (distL k l.fx l.fy) = L1 at *
  generalize loadL k.ch (distL k l.tx l.ty) = L2 at *
  generalize reachB k l.fx l.fy = r1 at *
  generalize reachB k l.tx l.ty = r2 at *
  obtain ⟨ls, i1, i2, i3, i4, i5, i6, i7, us⟩ := l
  obtain ⟨s, x, y, hh, j, bb, zs⟩ := k
  dsimp only at *
  have HG := Lib.hid (show ∀ u, Below w.heap.size w u → u.cell? ⟨b, o, none⟩ = some (.string s) ∧ u.cell? ⟨b, o + 1, none⟩ = some (.int .i64 x) ∧ u.cell? ⟨b, o + 2, none⟩ = some (.int .i64 y) ∧ u.cell? ⟨b, o + 3, none⟩ = some (.int .i64 hh) ∧ u.cell? ⟨b, o + 4, none⟩ = some (.int .i64 j) ∧ u.cell? ⟨b, o + 5, none⟩ = some (.int .i64 bb) ∧ u.cell? ⟨b, o + 6, none⟩ = some (.slice A zs.length cp) ∧ u.cell? ⟨lb, 4, none⟩ = some (.int .i64 i4) ∧ u.cell? ⟨lb, 5, none⟩ = some (.int .i64 i5) ∧ b < u.heap.size ∧ lb < u.heap.size from
    fun u q => ⟨by rw [kept_cell q b _ hb1]; exact g0, by rw [kept_cell q b _ hb1]; exact g1, by rw [kept_cell q b _ hb1]; exact g2, by rw [kept_cell q b _ hb1]; exact g3, by rw [kept_cell q b _ hb1]; exact g4, by rw [kept_cell q b _ hb1]; exact g5, by rw [kept_cell q b _ hb1]; exact g6, by rw [kept_cell q lb _ hb2]; exact c4, by rw [kept_cell q lb _ hb2]; exact c5, Nat.lt_of_lt_of_le hb1 q.size, Nat.lt_of_lt_of_le hb2 q.size⟩)
  have q0 := fun x : BelowBy w => (kept_cell x.h _ _ hb1).trans g0
  have q1 := fun x : BelowBy w => (kept_cell x.h _ _ hb1).trans g1
  have q2 := fun x : BelowBy w => (kept_cell x.h _ _ hb1).trans g2
  have q3 := fun x : BelowBy w => (kept_cell x.h _ _ hb1).trans g3
  have q4 := fun x : BelowBy w => (kept_cell x.h _ _ hb1).trans g4
  have q5 := fun x : BelowBy w => (kept_cell x.h _ _ hb1).trans g5
  have q6 := fun x : BelowBy w => (kept_cell x.h _ _ hb1).trans g6
  have p2 := fun x : BelowBy w => (kept_cell x.h _ _ hb2).trans c2
  have p3 := fun x : BelowBy w => (kept_cell x.h _ _ hb2).trans c3
  clear g0 g1 g2 g3 g4 g5 g6 c2 c3 c4 c5
  have hmn := fun ts t u (a b : Int) => min2_any (P := Tryz.prog) u ts t a b
  cases r1 <;> cases r2
  all_goals
    simp only [if_true, if_false, Bool.false_eq_true] at hA hB
    have HA := Lib.hid hA; have HB := Lib.hid hB; clear hA hB
    go_enter Tryz.func133, Tryz.ntmps133
    go_wp2_with fail
    refine wp_region_below (by kernel_rfl) (by kernel_rfl) ?_
    repeat (go_big_quiet_step ((go_at_call 134; exact below_call (fun hbx => HA.out _ hbx))))
    refine wpQuiet_nil ?_
    intro wq hw'
    obtain ⟨⟨_, hbq⟩, hwq⟩ := hw'
    subst hwq
    (try dsimp only)
    obtain ⟨d0, d1, d2, d3, d4, d5, d6, d7, d8, l1, l2⟩ := HG.out _ hbq
    clear q0 q1 q2 q3 q4 q5 q6 p2 p3
    have HBQ := Lib.hid hbq
    have q0 := fun x : BelowBy wq => (kept_cell x.h _ _ l1).trans d0
    have q1 := fun x : BelowBy wq => (kept_cell x.h _ _ l1).trans d1
    have q2 := fun x : BelowBy wq => (kept_cell x.h _ _ l1).trans d2
    have q3 := fun x : BelowBy wq => (kept_cell x.h _ _ l1).trans d3
    have q4 := fun x : BelowBy wq => (kept_cell x.h _ _ l1).trans d4
    have q5 := fun x : BelowBy wq => (kept_cell x.h _ _ l1).trans d5
    have q6 := fun x : BelowBy wq => (kept_cell x.h _ _ l1).trans d6
    have p2 := fun x : BelowBy wq => (kept_cell x.h _ _ l2).trans d7
    have p3 := fun x : BelowBy wq => (kept_cell x.h _ _ l2).trans d8
    clear d0 d1 d2 d3 d4 d5 d6 d7 d8 hbq
    go_wp2_with fail
    refine wp_region_below (by kernel_rfl) (by kernel_rfl) ?_
    repeat (go_big_quiet_step ((go_at_call 134; exact below_call (fun hbx => HB.out _ (kept_trans HBQ.out hbx)))))
    refine wpQuiet_nil ?_
    intro wq hw'
    obtain ⟨⟨_, hbq⟩, hwq⟩ := hw'
    subst hwq
    (try dsimp only)
    go_wp2
    go_ret2
    exact ⟨by simp, kept_trans HBQ.out hbq⟩

theorem load9_bd {k : Cr} {l : Lf} (hc : craneB k = true) : -1 ≤ load9 k l ∧ load9 k l ≤ 50000 := by
  have h1 := place9_lo (u := l.fx) (v := l.fy) hc
  have h2 := place9_lo (u := l.tx) (v := l.ty) hc
  unfold load9
  omega

theorem implLiftLoad_any (l : Lf) (d : Value) (w : World) (hd : RdI w d l.af) :
    Calls Tryz.prog 117 #[.agg #[.string l.nm, .int .i64 l.wt, .int .i64 l.fx, .int .i64 l.fy, .int .i64 l.tx, .int .i64 l.ty, .int .i64 l.h, .int .i64 l.dl, d]] w fun e w' => ∃ lb, e = .returned (.func (.func 133) #[] #[.pointer (some ⟨lb, 0, none⟩)]) ∧ LfAt w' lb 0 l d ∧ Below w.heap.size w w' := by
  have hmf : ∀ (fn : Fn) (first cap : Array Value) (w : World), (Instr.makeFunc fn first cap).run Tryz.prog w = .ok (.func fn first cap) w := fun _ _ _ _ => rfl
  obtain ⟨A2, cp2, rfl, _, _⟩ := RdI_slice hd
  have HD := Lib.hid hd; clear hd
  obtain ⟨ls, i1, i2, i3, i4, i5, i6, i7, us⟩ := l
  dsimp only at *
  go_enter Tryz.func117, Tryz.ntmps117
  go_wp2
  go_ret
  exact ⟨_, rfl, LfAt_box ls i1 i2 i3 i4 i5 i6 i7 us _ w _ HD.out, by go_grown⟩

theorem can9_reach {k : Cr} {l : Lf} (hc : craneB k = true) (hf : fldB l = true) : can9 k l = (reach9 k l && decide (l.wt ≤ liftX k l) && decide (l.h + 30 ≤ k.h)) := by
  have h := reach9_load (l := l) hc
  have hw := (fldB_true hf).1
  unfold can9
  cases r : reach9 k l
  · have := h.2 r
    have e : decide (l.wt ≤ load9 k l) = false := by simp; omega
    simp [e]
  · rw [(h.1 r).1, Bool.true_and]

set_option maxHeartbeats 2000000 in
theorem specCan9_any (b1 o1 b2 o2 : Nat) (k : Cr) (l : Lf) (c d : Value) (w : World) (h1 : CrAt w b1 o1 k c) (h2 : LfAt w b2 o2 l d) (hc : craneB k = true) (hf : fldB l = true) :
    Calls Tryz.prog 73 #[.pointer (some ⟨b1, o1, none⟩), .pointer (some ⟨b2, o2, none⟩)] w fun e w' => e = .returned (.bool (can9 k l)) ∧ Below w.heap.size w w' := by
  have f := fldB_true hf
  have HL := Lib.hid (fun u (q : Below w.heap.size w u) => specLoad9_any b1 o1 b2 o2 k l c d u (CrAt_kept h1 q) (LfAt_kept h2 q) hc hf)
  have hbd := load9_bd (l := l) hc
  obtain ⟨hb1, ⟨_, _, _, g3, _, _, _⟩, _⟩ := h1
  obtain ⟨hb2, ⟨_, c1, _, _, _, _, c6, _, _⟩, _⟩ := h2
  unfold can9
  have hw := f.1
  have hh := f.2.2.2.1
  have e30 : wrap64 (l.h + 30) = l.h + 30 := by unfold wrap64; omega
  clear f hc hf
  generalize load9 k l = X at *
  obtain ⟨ls, i1, i2, i3, i4, i5, i6, i7, us⟩ := l
  obtain ⟨s, x, y, hgt, j, b, zs⟩ := k
  dsimp only at *
  have f1 := fun x : BelowBy w => (kept_cell x.h _ _ hb2).trans c1
  have f6 := fun x : BelowBy w => (kept_cell x.h _ _ hb2).trans c6
  have f3 := fun x : BelowBy w => (kept_cell x.h _ _ hb1).trans g3
  clear c1 c6 g3
  cases e1 : decide (i1 ≤ X) <;> cases e2 : decide (i6 + 30 ≤ hgt)
  all_goals
    go_enter Tryz.func73, Tryz.ntmps73
    go_wp2_with fail
    refine wp_region_below (by kernel_rfl) (by kernel_rfl) ?_
    repeat (go_big_quiet_step ((go_at_call 107; exact below_call (fun hbx => HL.out _ hbx))))
    refine wpQuiet_nil ?_
    intro wq hw'
    obtain ⟨⟨_, hbq⟩, hwq⟩ := hw'
    subst hwq
    (try dsimp only)
    go_wp2
    go_ret
    exact ⟨by simp, hbq⟩

set_option maxHeartbeats 4000000 in
theorem ableFn_any (b o fb mb lb : Nat) (k : Cr) (l : Lf) (c d d2 : Value) (w : World) (h1 : CrAt w b o k c) (h2 : LfAt w lb 0 l d) (h3 : LfAt w mb 0 l d2) (hfb : fb < w.heap.size) (hfc : w.cell? ⟨fb, 0, none⟩ = some (.func (.func 133) #[] #[.pointer (some ⟨mb, 0, none⟩)])) (hc : craneB k = true) (hf : fldB l = true) (hk : k.nm.size ≤ 1000000) :
    Calls Tryz.prog 118 #[.pointer (some ⟨b, o, none⟩), .pointer (some ⟨fb, 0, none⟩), .pointer (some ⟨lb, 0, none⟩)] w fun e w' => e = .returned (.tuple #[.int .i64 (liftX k l), .bool (can9 k l)]) ∧ Below w.heap.size w w' := by
  have HL := Lib.hid (fun u (q : Below w.heap.size w u) => liftFn_any b o mb k l c d2 u (CrAt_kept h1 q) (LfAt_kept h3 q) hc hf hk)
  have f := fldB_true hf
  rw [can9_reach hc hf]
  obtain ⟨hb1, ⟨_, _, _, g3, _, _, _⟩, _⟩ := h1
  obtain ⟨hb2, ⟨_, c1, _, _, _, _, c6, _, _⟩, _⟩ := h2
  simp only [Nat.zero_add] at c1 c6
  have hh := f.2.2.2.1
  have e30 : wrap64 (l.h + 30) = l.h + 30 := by unfold wrap64; omega
  clear f hc hf h3
  generalize liftX k l = X at *
  generalize reach9 k l = r at *
  obtain ⟨ls, i1, i2, i3, i4, i5, i6, i7, us⟩ := l
  obtain ⟨s, x, y, hgt, j, bb, zs⟩ := k
  dsimp only at *
  have hb1L := hb1
  have hb2L := hb2
  have HG := Lib.hid (show ∀ u, Below w.heap.size w u → u.cell? ⟨b, o + 3, none⟩ = some (.int .i64 hgt) ∧ u.cell? ⟨lb, 1, none⟩ = some (.int .i64 i1) ∧ u.cell? ⟨lb, 6, none⟩ = some (.int .i64 i6) from
    fun u q => ⟨by rw [kept_cell q b _ hb1]; exact g3, by rw [kept_cell q lb _ hb2]; exact c1, by rw [kept_cell q lb _ hb2]; exact c6⟩)
  clear g3 c1 c6
  cases r <;> cases e1 : decide (i1 ≤ X) <;> cases e2 : decide (i6 + 30 ≤ hgt)
  all_goals
    go_enter Tryz.func118, Tryz.ntmps118
    go_wp2_with fail
    refine (HL.out _ (Below.refl _ _)).mono ?_
    rintro e w1 ⟨rfl, hb1⟩
    obtain ⟨m3, m1, m6⟩ := HG.out _ hb1
    have f3 := fun x : BelowBy w1 => (kept_cell x.h _ _ (Nat.lt_of_lt_of_le hb1L hb1.size)).trans m3
    have f1 := fun x : BelowBy w1 => (kept_cell x.h _ _ (Nat.lt_of_lt_of_le hb2L hb1.size)).trans m1
    have f6 := fun x : BelowBy w1 => (kept_cell x.h _ _ (Nat.lt_of_lt_of_le hb2L hb1.size)).trans m6
    clear m3 m1 m6
    have HB1 := Lib.hid hb1; clear hb1
    go_wp2_with fail
    refine wp_region_below (by kernel_rfl) (by kernel_rfl) ?_
    repeat (go_big_quiet_step (fail))
    refine wpQuiet_nil ?_
    intro wq hw'
    obtain ⟨⟨_, hbq⟩, hwq⟩ := hw'
    subst hwq
    (try dsimp only)
    go_wp2
    go_ret2
    exact ⟨by simp, kept_trans HB1.out hbq⟩

theorem implAbleLoad_any (l : Lf) (d : Value) (w : World) (hd : RdI w d l.af) :
    Calls Tryz.prog 90 #[.agg #[.string l.nm, .int .i64 l.wt, .int .i64 l.fx, .int .i64 l.fy, .int .i64 l.tx, .int .i64 l.ty, .int .i64 l.h, .int .i64 l.dl, d]] w fun e w' => ∃ fb mb lb, e = .returned (.func (.func 118) #[] #[.pointer (some ⟨fb, 0, none⟩), .pointer (some ⟨lb, 0, none⟩)]) ∧ LfAt w' lb 0 l d ∧ LfAt w' mb 0 l d ∧ fb < w'.heap.size ∧ w'.cell? ⟨fb, 0, none⟩ = some (.func (.func 133) #[] #[.pointer (some ⟨mb, 0, none⟩)]) ∧ Below w.heap.size w w' := by
  have hmf : ∀ (fn : Fn) (first cap : Array Value) (w : World), (Instr.makeFunc fn first cap).run Tryz.prog w = .ok (.func fn first cap) w := fun _ _ _ _ => rfl
  have hsf : ∀ (a : Addr) (fn : Fn) (first cap : Array Value) (m : Mode) (w : World), (store a (.func fn first cap) m).run Tryz.prog w = stored Tryz.prog w a (.func fn first cap) m := fun a fn first cap m w => run_store Tryz.prog w a _ m rfl
  have HLL := Lib.hid (fun u (q : RdI u d l.af) => implLiftLoad_any l d u q)
  obtain ⟨A2, cp2, rfl, _, _⟩ := RdI_slice hd
  have HD := Lib.hid hd; clear hd
  obtain ⟨ls, i1, i2, i3, i4, i5, i6, i7, us⟩ := l
  dsimp only at *
  have HB := Lib.hid (LfAt_box ls i1 i2 i3 i4 i5 i6 i7 us _ w 44 HD.out)
  go_enter Tryz.func90, Tryz.ntmps90
  go_wp2_with fail
  refine (HLL.out _ (RdI_kept HD.out (by go_grown))).mono ?_
  rintro e w1 ⟨mb, rfl, hmb, hb1⟩
  have K1 := Lib.hid (LfAt_kept HB.out hb1)
  have K2 := Lib.hid hmb; clear hmb
  have b1 := kept_trans (a := w) (by go_grown) hb1
  go_wp2
  go_ret
  exact ⟨w1.heap.size, mb, w.heap.size, rfl, LfAt_kept K1.out (by go_grown), LfAt_kept K2.out (by go_grown), by go_size, by go_simp, kept_trans b1 (by go_grown)⟩

theorem max2_any {P : Program} (w : World) (ts : Array TypeId) (t : TypeId) (x y : Int) : (Builtin.max_ ts t #[.int .i64 x, .int .i64 y]).run P w = .ok (.int .i64 (max x y)) w := by
  have e1 : (if x < y then y else x) = max x y := by rw [Int.max_def]; split <;> split <;> omega
  simp [Builtin.max_, Builtin.max2, e1]

theorem specDir9_any (x y u v : Int) (h1 : okP x y = true) (h2 : okP u v = true) (w : World) :
    Calls Tryz.prog 81 #[.agg #[.int .i64 x, .int .i64 y], .agg #[.int .i64 u, .int .i64 v]] w fun e w' => e = .returned (.int .i64 (dir9 x y u v)) ∧ Below w.heap.size w w' := by
  have hT := Lib.hid (l02To_any _ _ _ _ h1 h2)
  clear h1 h2
  unfold dir9
  rcases (show (x = u ∧ y = v) ∨ ((x == u) = false ∧ ¬ (x = u ∧ y = v)) ∨ ((x == u) = true ∧ (y == v) = false ∧ ¬ (x = u ∧ y = v)) by by_cases h1 : x = u <;> by_cases h2 : y = v <;> simp [h1, h2]) with ⟨rfl, rfl⟩ | ⟨e1, h⟩ | ⟨e1, e2, h⟩
  · simp only [and_self, if_true]
    go_enter Tryz.func81, Tryz.ntmps81
    go_wp2
    go_ret
    exact ⟨rfl, by go_grown⟩
  all_goals
    rw [if_neg h]
    clear h
    generalize (stL (u - x) (v - y) 24).1 = R at *
    go_enter Tryz.func81, Tryz.ntmps81
    go_wp2_with (go_at_call 110; refine (hT.out _).mono ?_; rintro e w3 ⟨rfl, hb3⟩; replace hb3 := kept_trans (a := w) (by go_grown) hb3)
    go_ret
    exact ⟨rfl, by go_grown⟩

/-- Speeds (seconds a direction, decimetres a second of the trolley and of the hook, seconds to hook) are as asked. -/
def spB (va vb vc vd : Int) : Bool := inB va 1 600 && inB vb 1 600 && inB vc 1 600 && inB vd 1 600

theorem spB_true {va vb vc vd : Int} (h : spB va vb vc vd = true) : (1 ≤ va ∧ va ≤ 600) ∧ (1 ≤ vb ∧ vb ≤ 600) ∧ (1 ≤ vc ∧ vc ≤ 600) ∧ (1 ≤ vd ∧ vd ≤ 600) := by
  simp only [spB, Bool.and_eq_true] at h
  obtain ⟨⟨⟨g0, g1⟩, g2⟩, g3⟩ := h
  exact ⟨inB_true g0, inB_true g1, inB_true g2, inB_true g3⟩

theorem turnL_bd (n : Int) : -11 ≤ turnL n ∧ turnL n ≤ 12 := by unfold turnL; split <;> omega

theorem tiltL_bd {n a : Int} (h : -a ≤ n ∧ n ≤ a) : 0 ≤ tiltL n ∧ tiltL n ≤ a := by unfold tiltL; omega

theorem speed_any (n : Int) (w : World) :
    Calls Tryz.prog 94 #[.int .i64 n] w fun e w' => e = .returned (.bool (inB n 1 600)) ∧ w = w' := by
  go_enter Tryz.func94, Tryz.ntmps94
  go_wp2_with (go_at_call 78; refine (in_any _ _ _ _).mono ?_; rintro e w1 ⟨rfl, rfl⟩)
  go_ret
  exact ⟨rfl, rfl⟩

theorem specSp_any (va vb vc vd : Int) (w : World) :
    Calls Tryz.prog 52 #[.agg #[.int .i64 va, .int .i64 vb, .int .i64 vc, .int .i64 vd]] w fun e w' => e = .returned (.bool (spB va vb vc vd)) ∧ Below w.heap.size w w' := by
  unfold spB
  rcases four (inB va 1 600) (inB vb 1 600) (inB vc 1 600) (inB vd 1 600) with g | ⟨g0, g⟩ | ⟨g0, g1, g⟩ | ⟨g0, g1, g2, g⟩ | ⟨g0, g1, g2, g⟩
  all_goals
    go_enter Tryz.func52, Tryz.ntmps52
    go_wp2_with (go_at_call 94; refine (speed_any _ _).mono ?_; rintro e w1 ⟨rfl, rfl⟩)
    go_ret
    exact ⟨by simp [*], by go_grown⟩

theorem rdI4 {w : World} {g c : Nat} {x y z t : Int} (hg : g < w.heap.size) (h0 : w.cell? ⟨g, 0, none⟩ = some (.int .i64 x)) (h1 : w.cell? ⟨g, 1, none⟩ = some (.int .i64 y)) (h2 : w.cell? ⟨g, 2, none⟩ = some (.int .i64 z)) (h3 : w.cell? ⟨g, 3, none⟩ = some (.int .i64 t)) : RdI w (.slice (some ⟨g, 0, none⟩) 4 c) [x, y, z, t] :=
  RdI_of w g c [x, y, z, t] (by simp) hg (fun k hk => by
    match k, hk with
    | 0, _ => exact h0
    | 1, _ => exact h1
    | 2, _ => exact h2
    | 3, _ => exact h3)

theorem implVSp_any (va vb vc vd : Int) (w : World) :
    Calls Tryz.prog 46 #[.agg #[.int .i64 va, .int .i64 vb, .int .i64 vc, .int .i64 vd]] w fun e w' => e = .returned (.bool (spB va vb vc vd)) ∧ Below w.heap.size w w' := by
  have e1 : spB va vb vc vd = ([va, vb, vc, vd].all (fun n => inB n 1 600)) := by simp [spB, Bool.and_assoc]
  rw [e1]; clear e1
  have H := Lib.hid (fun v u q => within_any 1 600 v [va, vb, vc, vd] u q)
  generalize [va, vb, vc, vd].all (fun n => inB n 1 600) = R at *
  go_enter Tryz.func46, Tryz.ntmps46
  go_wp2_with fail
  refine (H.out _ _ (rdI4 (by go_size) (by go_simp) (by go_simp) (by go_simp) (by go_simp))).mono ?_
  rintro e w1 ⟨rfl, b1⟩
  replace b1 := kept_trans (a := w) (by go_grown) b1
  go_wp2
  go_ret
  exact ⟨rfl, b1⟩

theorem size10_any (n : Int) (h : -1000000000000000000 ≤ n ∧ n ≤ 1000000000000000000) (w : World) :
    Calls Tryz.prog 79 #[.int .i64 n] w fun e w' => e = .returned (.int .i64 (tiltL n)) ∧ w = w' := by
  unfold tiltL
  go_enter Tryz.func79, Tryz.ntmps79
  go_wp2_with (go_at_call 84; refine (max_any _ _ _).mono ?_; rintro e w1 ⟨rfl, rfl⟩)
  go_ret
  exact ⟨rfl, rfl⟩

theorem toSp_any (va vb vc vd : Int) (w : World) :
    Calls Tryz.prog 11 #[.agg #[.int .i64 va, .int .i64 vb, .int .i64 vc, .int .i64 vd]] w fun e w' => e = .returned (.agg #[.int .i64 va, .int .i64 vb, .int .i64 vc, .int .i64 vd]) ∧ Below w.heap.size w w' := by
  go_enter Tryz.func11, Tryz.ntmps11
  go_wp2
  go_returns
  exact ⟨rfl, by go_grown⟩

theorem turnBL_bd (a b : Int) : -11 ≤ (turnBetweenL a b).1 ∧ (turnBetweenL a b).1 ≤ 12 := by
  unfold turnBetweenL
  split
  · exact turnL_bd _
  · simp

/-- How long a turn takes. -/
theorem turnSecs_any (va vb vc vd : Int) (a b : Int) (hv : 1 ≤ va ∧ va ≤ 600) (w : World) :
    Calls Tryz.prog 166 #[.agg #[.int .i64 a, .int .i64 b], .agg #[.int .i64 va, .int .i64 vb, .int .i64 vc, .int .i64 vd]] w fun e w' => e = .returned (.int .i64 (tiltL (turnBetweenL a b).1 * va)) ∧ Below w.heap.size w w' := by
  have ht := turnBL_bd a b
  have HT := Lib.hid (fun u => implTurnBetween_any a b u)
  generalize (turnBetweenL a b).1 = n at *
  generalize (turnBetweenL a b).2 = n2 at *
  have hz := tiltL_bd (n := n) (a := 12) (by omega)
  have hm := mul_bd (tiltL n) va 12 600 hz (by omega)
  have hmx := fun ts t u (a b : Int) => max2_any (P := Tryz.prog) u ts t a b
  have e1 : wrap64 (-n) = -n := IntWalk.wrap64_in _ (by omega)
  have e2 : wrap64 (max n (-n) * va) = tiltL n * va := IntWalk.wrap64_in _ (by unfold tiltL at hm; omega)
  generalize hmm : tiltL n * va = M at *
  go_enter Tryz.func166, Tryz.ntmps166
  go_wp2_with (go_at_call 167; refine (HT.out _).mono ?_; rintro e w1 ⟨rfl, rfl⟩)
  go_ret
  exact ⟨by simp [*], by go_grown⟩

/-- How long a straight way takes. -/
theorem stretchSecs_any (a b q : Int) (ha : 0 ≤ a ∧ a ≤ 1000000) (hb : 0 ≤ b ∧ b ≤ 1000000) (hq : 1 ≤ q ∧ q ≤ 600) (w : World) :
    Calls Tryz.prog 170 #[.agg #[.int .i64 a, .int .i64 b], .int .i64 q] w fun e w' => e = .returned (.int .i64 (upL (tiltL (b - a)) q)) ∧ Below w.heap.size w w' := by
  have hz := tiltL_bd (n := b - a) (a := 1000000) (by omega)
  have HU := Lib.hid (fun u => implUp_any (tiltL (b - a)) q (by omega) (by omega) u)
  have hmx := fun ts t u (a b : Int) => max2_any (P := Tryz.prog) u ts t a b
  have e1 : wrap64 (b - a) = b - a := IntWalk.wrap64_in _ (by omega)
  have e2 : wrap64 (a - b) = a - b := IntWalk.wrap64_in _ (by omega)
  have e3 : max (b - a) (a - b) = tiltL (b - a) := by unfold tiltL; omega
  generalize upL (tiltL (b - a)) q = M at *
  generalize tiltL (b - a) = T at *
  go_enter Tryz.func170, Tryz.ntmps170
  go_wp2_with (go_at_call 149; refine (HU.out _).mono ?_; rintro e w1 ⟨rfl, rfl⟩)
  go_ret
  exact ⟨by simp [*], by go_grown⟩

theorem rideSecs_any (va vb vc vd : Int) (a b : Int) (ha : 0 ≤ a ∧ a ≤ 1000000) (hb : 0 ≤ b ∧ b ≤ 1000000) (hv : 1 ≤ vb ∧ vb ≤ 600) (w : World) :
    Calls Tryz.prog 171 #[.agg #[.int .i64 a, .int .i64 b], .agg #[.int .i64 va, .int .i64 vb, .int .i64 vc, .int .i64 vd]] w fun e w' => e = .returned (.int .i64 (upL (tiltL (b - a)) vb)) ∧ Below w.heap.size w w' := by
  have H := Lib.hid (fun u => stretchSecs_any a b vb ha hb hv u)
  generalize upL (tiltL (b - a)) vb = M at *
  go_enter Tryz.func171, Tryz.ntmps171
  go_wp2_with fail
  refine (H.out _).mono ?_
  rintro e w1 ⟨rfl, b1⟩
  replace b1 := kept_trans (a := w) (by go_grown) b1
  go_wp2
  go_ret
  exact ⟨rfl, b1⟩

theorem hoistSecs_any (va vb vc vd : Int) (a b : Int) (ha : 0 ≤ a ∧ a ≤ 1000000) (hb : 0 ≤ b ∧ b ≤ 1000000) (hv : 1 ≤ vc ∧ vc ≤ 600) (w : World) :
    Calls Tryz.prog 173 #[.agg #[.int .i64 a, .int .i64 b], .agg #[.int .i64 va, .int .i64 vb, .int .i64 vc, .int .i64 vd]] w fun e w' => e = .returned (.int .i64 (upL (tiltL (b - a)) vc)) ∧ Below w.heap.size w w' := by
  have H := Lib.hid (fun u => stretchSecs_any a b vc ha hb hv u)
  generalize upL (tiltL (b - a)) vc = M at *
  go_enter Tryz.func173, Tryz.ntmps173
  go_wp2_with fail
  refine (H.out _).mono ?_
  rintro e w1 ⟨rfl, b1⟩
  replace b1 := kept_trans (a := w) (by go_grown) b1
  go_wp2
  go_ret
  exact ⟨rfl, b1⟩

theorem hookSecs_any (va vb vc vd : Int) (w : World) :
    Calls Tryz.prog 174 #[.agg #[], .agg #[.int .i64 va, .int .i64 vb, .int .i64 vc, .int .i64 vd]] w fun e w' => e = .returned (.int .i64 vd) ∧ Below w.heap.size w w' := by
  go_enter Tryz.func174, Tryz.ntmps174
  go_wp2
  go_ret
  exact ⟨rfl, by go_grown⟩

theorem hoistTo_any (h : Int) (w : World) :
    Calls Tryz.prog 119 #[.int .i64 h] w fun e w' => e = .returned (.agg #[.int .i64 0, .int .i64 h]) ∧ Below w.heap.size w w' := by
  go_enter Tryz.func119, Tryz.ntmps119
  go_wp2
  first
    | (go_returns; exact ⟨rfl, by go_grown⟩)
    | (go_ret; exact ⟨rfl, by go_grown⟩)

theorem dir9_bd (x y u v : Int) : 0 ≤ dir9 x y u v ∧ dir9 x y u v ≤ 23 := by
  unfold dir9
  split
  · omega
  · have := stL_scal (u - x) (v - y) 24 (by omega)
    omega

theorem distL_bd {k : Cr} {u v : Int} (h : okP k.x k.y = true) (h2 : okP u v = true) : 0 ≤ distL k u v ∧ distL k u v ≤ 30000 := by
  have g0 := okP_true h
  have g1 := okP_true h2
  have s1 := sq_bd (u - k.x) 20000 (by omega) (by omega)
  have s2 := sq_bd (v - k.y) 20000 (by omega) (by omega)
  exact rootL_le _ 30000 (by omega)

theorem upL_bd {n d : Int} (h1 : 0 ≤ n) (h2 : 1 ≤ d) : 0 ≤ upL n d ∧ upL n d ≤ n + d := by
  unfold upL
  have a := Int.ediv_nonneg (show 0 ≤ n + d - 1 by omega) (show 0 ≤ d by omega)
  have b := Int.ediv_le_self (a := n + d - 1) d (by omega)
  omega

/-- How long a crane takes from a place to another one. -/
noncomputable def moveN (k : Cr) (va vb fx fy tx ty : Int) : Int := max (tiltL (turnL (dir9 k.x k.y tx ty - dir9 k.x k.y fx fy)) * va) (upL (tiltL (distL k tx ty - distL k fx fy)) vb)

theorem moveN_bd {k : Cr} {va vb fx fy tx ty : Int} (h : okP k.x k.y = true) (h1 : okP fx fy = true) (h2 : okP tx ty = true) (ha : 1 ≤ va ∧ va ≤ 600) (hb : 1 ≤ vb ∧ vb ≤ 600) : 0 ≤ moveN k va vb fx fy tx ty ∧ moveN k va vb fx fy tx ty ≤ 40000 := by
  have t := turnL_bd (dir9 k.x k.y tx ty - dir9 k.x k.y fx fy)
  have z := tiltL_bd (n := turnL (dir9 k.x k.y tx ty - dir9 k.x k.y fx fy)) (a := 12) (by omega)
  have m := mul_bd (tiltL (turnL (dir9 k.x k.y tx ty - dir9 k.x k.y fx fy))) va 12 600 z (by omega)
  have d1 := distL_bd h h1
  have d2 := distL_bd h h2
  have z2 := tiltL_bd (n := distL k tx ty - distL k fx fy) (a := 30000) (by omega)
  have u := upL_bd (n := tiltL (distL k tx ty - distL k fx fy)) (d := vb) z2.1 hb.1
  unfold moveN
  omega

/-- How long a lift takes that a crane can do. -/
noncomputable def liftN (k : Cr) (va vb vc vd : Int) (l : Lf) : Int := 2 * vd + 2 * upL (l.h + 30) vc + moveN k va vb l.fx l.fy l.tx l.ty

/-- What JobTime returns. -/
noncomputable def jobL (k : Cr) (va vb vc vd : Int) (l : Lf) (u v : Int) : Int × Int := if craneB k && spB va vb vc vd && fldB l && okP u v then (if can9 k l then (moveN k va vb u v l.fx l.fy + liftN k va vb vc vd l, 0) else (0, 6)) else (0, 1)

/-- The square of a distance, as the spec reckons it. -/
def sqN (k : Cr) (x y : Int) : Int := wrap64 (wrap64 ((k.x - x) * (k.x - x)) + wrap64 ((k.y - y) * (k.y - y)))

theorem specSqN_any (k : Cr) (x y : Int) (hc : okP k.x k.y = true) (h : okP x y = true) (w : World) :
    Calls Tryz.prog 83 #[.agg #[.int .i64 k.x, .int .i64 k.y], .agg #[.int .i64 x, .int .i64 y]] w fun e w' => e = .returned (.int .i64 (sqN k x y)) ∧ Below w.heap.size w w' := by
  have g0 := okP_true hc
  have g1 := okP_true h
  exact l02Square_any k.x k.y x y (by omega) (by omega) (by omega) (by omega) w

theorem specRtN_any (k : Cr) (x y : Int) (hc : okP k.x k.y = true) (h : okP x y = true) (w : World) :
    Calls Tryz.prog 82 #[.int .i64 (sqN k x y)] w fun e w' => e = .returned (.int .i64 (distL k x y)) ∧ Below w.heap.size w w' := by
  have g0 := okP_true hc
  have g1 := okP_true h
  have E1 := sq_wrap (k.x - x) (k.y - y) (by omega) (by omega)
  have s1 := sq_bd (k.x - x) 20000 (by omega) (by omega)
  have s2 := sq_bd (k.y - y) 20000 (by omega) (by omega)
  have D1 : distL k x y = rootL (wrap64 (wrap64 ((k.x - x) * (k.x - x)) + wrap64 ((k.y - y) * (k.y - y)))) := by rw [E1, sq_sym k.x, sq_sym k.y]; rfl
  rw [D1]
  exact same_below (l02Root_any (wrap64 (wrap64 ((k.x - x) * (k.x - x)) + wrap64 ((k.y - y) * (k.y - y)))) w (by rw [E1]; omega) (by rw [E1]; omega))

set_option maxHeartbeats 4000000 in
theorem specMove_any (b o : Nat) (k : Cr) (va vb vc vd : Int) (fx fy tx ty : Int) (c : Value) (w : World) (h : CrAt w b o k c) (hc : okP k.x k.y = true) (h1 : okP fx fy = true) (h2 : okP tx ty = true) (ha : 1 ≤ va ∧ va ≤ 600) (hvb : 1 ≤ vb ∧ vb ≤ 600) :
    Calls Tryz.prog 44 #[.pointer (some ⟨b, o, none⟩), .agg #[.int .i64 va, .int .i64 vb, .int .i64 vc, .int .i64 vd], .agg #[.int .i64 fx, .int .i64 fy], .agg #[.int .i64 tx, .int .i64 ty]] w fun e w' => e = .returned (.int .i64 (moveN k va vb fx fy tx ty)) ∧ Below w.heap.size w w' := by
  have HDR := Lib.hid (fun u x y (q : okP x y = true) => specDir9_any k.x k.y x y hc q u)
  have HSQ := Lib.hid (fun u x y (q : okP x y = true) => specSqN_any k x y hc q u)
  have HRT := Lib.hid (fun u x y (q : okP x y = true) => specRtN_any k x y hc q u)
  have p1 := dir9_bd k.x k.y fx fy
  have p2 := dir9_bd k.x k.y tx ty
  have q1 := distL_bd hc h1
  have q2 := distL_bd hc h2
  unfold moveN
  have HTU := Lib.hid (fun u => same_below (l02Turn_any (dir9 k.x k.y fx fy) (dir9 k.x k.y tx ty) (by omega) (by omega) u))
  generalize dir9 k.x k.y = D at *
  generalize distL k = L at *
  generalize sqN k = N at *
  have t1 := turnL_bd (D tx ty - D fx fy)
  have t2 := tiltL_bd (n := turnL (D tx ty - D fx fy)) (a := 12) (by omega)
  have HZ1 := Lib.hid (fun u => same_below (size10_any (turnL (D tx ty - D fx fy)) (by omega) u))
  have HZ2 := Lib.hid (fun u => same_below (size10_any (L tx ty - L fx fy) (by omega) u))
  have t3 := tiltL_bd (n := L tx ty - L fx fy) (a := 30000) (by omega)
  have HUP := Lib.hid (fun u => same_below (specUp_any (tiltL (L tx ty - L fx fy)) vb (by omega) (by omega) u))
  have t4 := mul_bd (tiltL (turnL (D tx ty - D fx fy))) va 12 600 t2 (by omega)
  have HMX := Lib.hid (fun u => same_below (max_any (tiltL (turnL (D tx ty - D fx fy)) * va) (upL (tiltL (L tx ty - L fx fy)) vb) u))
  have e1 : IntKind.i64.wrap (tiltL (turnL (D tx ty - D fx fy)) * va) = tiltL (turnL (D tx ty - D fx fy)) * va := wrap_in (by omega)
  have e2 : IntKind.i64.wrap (L tx ty - L fx fy) = L tx ty - L fx fy := wrap_in (by omega)
  obtain ⟨hbk, ⟨_, g1, g2, _⟩, _⟩ := h
  clear p1 p2 q1 q2 t1 t2 t3 t4 ha hvb
  generalize turnL (D tx ty - D fx fy) = T at *
  generalize upL (tiltL (L tx ty - L fx fy)) vb = U at *
  generalize tiltL (L tx ty - L fx fy) = Z2 at *
  obtain ⟨M, hM⟩ : ∃ M, M = tiltL T * va := ⟨_, rfl⟩
  rw [← hM] at HMX e1 ⊢
  rw [hM] at e1
  replace e1 : IntKind.i64.wrap (tiltL T * va) = M := by rw [e1, hM]
  clear hM
  generalize tiltL T = Z1 at *
  obtain ⟨s, x, y, hh, j, bb, zs⟩ := k
  dsimp only at *
  have K0 : Hid (BoxR (((w.alloc (.cells #[.int .i64 va, .int .i64 vb, .int .i64 vc, .int .i64 vd] 41)).alloc (.cells #[.int .i64 fx, .int .i64 fy] 36)).alloc (.cells #[.int .i64 tx, .int .i64 ty] 36)) w.heap.size [.int .i64 va, .int .i64 vb, .int .i64 vc, .int .i64 vd]) := Lib.hid (BoxR_up (BoxR_up (BoxR_new' rfl)))
  have K1 : Hid (BoxR (((w.alloc (.cells #[.int .i64 va, .int .i64 vb, .int .i64 vc, .int .i64 vd] 41)).alloc (.cells #[.int .i64 fx, .int .i64 fy] 36)).alloc (.cells #[.int .i64 tx, .int .i64 ty] 36)) (w.heap.size + 1) [.int .i64 fx, .int .i64 fy]) := Lib.hid (BoxR_up (BoxR_new' (by simp)))
  have K2 : Hid (BoxR (((w.alloc (.cells #[.int .i64 va, .int .i64 vb, .int .i64 vc, .int .i64 vd] 41)).alloc (.cells #[.int .i64 fx, .int .i64 fy] 36)).alloc (.cells #[.int .i64 tx, .int .i64 ty] 36)) (w.heap.size + 2) [.int .i64 tx, .int .i64 ty]) := Lib.hid (BoxR_new' (by simp))
  have G1 : Hid (∀ u, Below w.heap.size w u → u.cell? ⟨b, o + 1, none⟩ = some (.int .i64 x) ∧ u.cell? ⟨b, o + 2, none⟩ = some (.int .i64 y)) := Lib.hid (fun u q => ⟨(kept_cell q _ _ hbk).trans g1, (kept_cell q _ _ hbk).trans g2⟩)
  clear g1 g2 hbk
  go_enter Tryz.func44, Tryz.ntmps44
  go_wp2_with fail
  have B0 : Below w.heap.size w (((w.alloc (.cells #[.int .i64 va, .int .i64 vb, .int .i64 vc, .int .i64 vd] 41)).alloc (.cells #[.int .i64 fx, .int .i64 fy] 36)).alloc (.cells #[.int .i64 tx, .int .i64 ty] 36)) := by go_grown
  have B0 := Lib.hid B0
  have r1 := fun x : BelowBy (((w.alloc (.cells #[.int .i64 va, .int .i64 vb, .int .i64 vc, .int .i64 vd] 41)).alloc (.cells #[.int .i64 fx, .int .i64 fy] 36)).alloc (.cells #[.int .i64 tx, .int .i64 ty] 36)) => (G1.out _ (kept_trans B0.out x.h)).1
  have r2 := fun x : BelowBy (((w.alloc (.cells #[.int .i64 va, .int .i64 vb, .int .i64 vc, .int .i64 vd] 41)).alloc (.cells #[.int .i64 fx, .int .i64 fy] 36)).alloc (.cells #[.int .i64 tx, .int .i64 ty] 36)) => (G1.out _ (kept_trans B0.out x.h)).2
  have r3 := fun x : BelowBy (((w.alloc (.cells #[.int .i64 va, .int .i64 vb, .int .i64 vc, .int .i64 vd] 41)).alloc (.cells #[.int .i64 fx, .int .i64 fy] 36)).alloc (.cells #[.int .i64 tx, .int .i64 ty] 36)) => (BoxR_kept K1.out x.h).2 0 _ rfl
  have r4 := fun x : BelowBy (((w.alloc (.cells #[.int .i64 va, .int .i64 vb, .int .i64 vc, .int .i64 vd] 41)).alloc (.cells #[.int .i64 fx, .int .i64 fy] 36)).alloc (.cells #[.int .i64 tx, .int .i64 ty] 36)) => (BoxR_kept K1.out x.h).2 1 _ rfl
  have r5 := fun x : BelowBy (((w.alloc (.cells #[.int .i64 va, .int .i64 vb, .int .i64 vc, .int .i64 vd] 41)).alloc (.cells #[.int .i64 fx, .int .i64 fy] 36)).alloc (.cells #[.int .i64 tx, .int .i64 ty] 36)) => (BoxR_kept K2.out x.h).2 0 _ rfl
  have r6 := fun x : BelowBy (((w.alloc (.cells #[.int .i64 va, .int .i64 vb, .int .i64 vc, .int .i64 vd] 41)).alloc (.cells #[.int .i64 fx, .int .i64 fy] 36)).alloc (.cells #[.int .i64 tx, .int .i64 ty] 36)) => (BoxR_kept K2.out x.h).2 1 _ rfl
  refine wp_region_below (by kernel_rfl) (by kernel_rfl) ?_
  repeat (go_big_quiet_step ((first | (go_at_call 81; exact below_call (fun _ => HDR.out _ _ _ (by first | exact h1 | exact h2))) | (go_at_call 80; exact below_call (fun _ => HTU.out _)) | (go_at_call 79; exact below_call (fun _ => HZ1.out _)))))
  refine wpQuiet_nil ?_
  intro wq hw'
  obtain ⟨⟨_, hbq⟩, hwq⟩ := hw'
  subst hwq
  (try dsimp only)
  clear r1 r2 r3 r4 r5 r6
  have B1 := Lib.hid (kept_trans B0.out hbq)
  replace K0 := Lib.hid (BoxR_kept K0.out hbq)
  replace K1 := Lib.hid (BoxR_kept K1.out hbq)
  replace K2 := Lib.hid (BoxR_kept K2.out hbq)
  clear B0 hbq
  have r1 := fun x : BelowBy wq => (G1.out _ (kept_trans B1.out x.h)).1
  have r2 := fun x : BelowBy wq => (G1.out _ (kept_trans B1.out x.h)).2
  have r3 := fun x : BelowBy wq => (BoxR_kept K1.out x.h).2 0 _ rfl
  have r4 := fun x : BelowBy wq => (BoxR_kept K1.out x.h).2 1 _ rfl
  go_wp2_with fail
  refine wp_region_below (by kernel_rfl) (by kernel_rfl) ?_
  repeat (go_big_quiet_step ((first | (go_at_call 83; exact below_call (fun _ => HSQ.out _ _ _ h1)) | (go_at_call 82; exact below_call (fun _ => HRT.out _ _ _ h1)))))
  refine wpQuiet_nil ?_
  intro wq hw'
  obtain ⟨⟨_, hbq⟩, hwq⟩ := hw'
  subst hwq
  (try dsimp only)
  clear r1 r2 r3 r4
  have B2 := Lib.hid (kept_trans B1.out hbq)
  replace K0 := Lib.hid (BoxR_kept K0.out hbq)
  replace K2 := Lib.hid (BoxR_kept K2.out hbq)
  clear B1 hbq K1
  have r1 := fun x : BelowBy wq => (G1.out _ (kept_trans B2.out x.h)).1
  have r2 := fun x : BelowBy wq => (G1.out _ (kept_trans B2.out x.h)).2
  have r5 := fun x : BelowBy wq => (BoxR_kept K2.out x.h).2 0 _ rfl
  have r6 := fun x : BelowBy wq => (BoxR_kept K2.out x.h).2 1 _ rfl
  go_wp2_with fail
  refine wp_region_below (by kernel_rfl) (by kernel_rfl) ?_
  repeat (go_big_quiet_step ((first | (go_at_call 83; exact below_call (fun _ => HSQ.out _ _ _ h2)) | (go_at_call 82; exact below_call (fun _ => HRT.out _ _ _ h2)))))
  refine wpQuiet_nil ?_
  intro wq hw'
  obtain ⟨⟨_, hbq⟩, hwq⟩ := hw'
  subst hwq
  (try dsimp only)
  clear r1 r2 r5 r6
  have B3 := Lib.hid (kept_trans B2.out hbq)
  replace K0 := Lib.hid (BoxR_kept K0.out hbq)
  clear B2 hbq K2
  have SOF := Lib.hid (show ∀ u, Below wq.heap.size wq u → (fun w' => w'.cell? ⟨w.heap.size, 0, none⟩ = some (.int .i64 va) ∧ w'.cell? ⟨w.heap.size, 1, none⟩ = some (.int .i64 vb)) u from fun u q => ⟨(BoxR_kept K0.out q).2 0 _ rfl, (BoxR_kept K0.out q).2 1 _ rfl⟩)
  go_wp2_with fail
  go_region_held3 (fun w' => w'.cell? ⟨w.heap.size, 0, none⟩ = some (.int .i64 va) ∧ w'.cell? ⟨w.heap.size, 1, none⟩ = some (.int .i64 vb)) (first | (refine SOF.out _ ?_; assumption) | (refine SOF.out _ ?_; go_grown)) (first
    | (go_at_call 84; have p2 := q2; refine (HMX.out _).mono ?_; rintro e v3 ⟨rfl, h3⟩; have q3 := kept_trans (a := wq) q2 h3)
    | (go_at_call 74; have p1 := q1; refine (HUP.out _).mono ?_; rintro e v2 ⟨rfl, h2⟩; have q2 := kept_trans (a := wq) q1 h2)
    | (go_at_call 79; refine (HZ2.out _).mono ?_; rintro e v1 ⟨rfl, h1⟩; have q1 := kept_trans (a := wq) (by go_grown) h1))
  go_wp2
  go_ret
  exact ⟨rfl, kept_trans B3.out q3⟩

set_option maxHeartbeats 4000000 in
theorem specLiftN_any (b1 o1 b2 o2 : Nat) (k : Cr) (va vb vc vd : Int) (l : Lf) (c d : Value) (w : World) (h : CrAt w b1 o1 k c) (hl : LfAt w b2 o2 l d) (hc : okP k.x k.y = true) (hf : fldB l = true) (hs : spB va vb vc vd = true) :
    Calls Tryz.prog 37 #[.pointer (some ⟨b1, o1, none⟩), .agg #[.int .i64 va, .int .i64 vb, .int .i64 vc, .int .i64 vd], .pointer (some ⟨b2, o2, none⟩)] w fun e w' => e = .returned (.int .i64 (liftN k va vb vc vd l)) ∧ Below w.heap.size w w' := by
  have g := spB_true hs
  have f := fldB_true hf
  have HM := Lib.hid (fun u (q : Below w.heap.size w u) => specMove_any b1 o1 k va vb vc vd l.fx l.fy l.tx l.ty c u (CrAt_kept h q) hc f.2.1 f.2.2.1 g.1 g.2.1)
  have mb := moveN_bd hc f.2.1 f.2.2.1 g.1 g.2.1
  have HU := Lib.hid (fun u => same_below (specUp_any (l.h + 30) vc (by omega) (by omega) u))
  have ub := upL_bd (n := l.h + 30) (d := vc) (by omega) (by omega)
  have e1 : IntKind.i64.wrap (2 * vd) = 2 * vd := wrap_in (by omega)
  have e2 : IntKind.i64.wrap (l.h + 30) = l.h + 30 := wrap_in (by omega)
  have e3 : IntKind.i64.wrap (2 * upL (l.h + 30) vc) = 2 * upL (l.h + 30) vc := wrap_in (by omega)
  have e4 : IntKind.i64.wrap (2 * vd + 2 * upL (l.h + 30) vc) = 2 * vd + 2 * upL (l.h + 30) vc := wrap_in (by omega)
  have e5 : IntKind.i64.wrap (2 * vd + 2 * upL (l.h + 30) vc + moveN k va vb l.fx l.fy l.tx l.ty) = 2 * vd + 2 * upL (l.h + 30) vc + moveN k va vb l.fx l.fy l.tx l.ty := wrap_in (by omega)
  unfold liftN
  obtain ⟨hb2, ⟨_, _, c2, c3, c4, c5, c6, _, _⟩, _⟩ := hl
  clear h g f mb ub hc hf hs
  generalize moveN k va vb l.fx l.fy l.tx l.ty = M at *
  obtain ⟨ls, i1, i2, i3, i4, i5, i6, i7, us⟩ := l
  dsimp only at *
  generalize upL (i6 + 30) vc = U at *
  have K0 : Hid (BoxR (w.alloc (.cells #[.int .i64 va, .int .i64 vb, .int .i64 vc, .int .i64 vd] 41)) w.heap.size [.int .i64 va, .int .i64 vb, .int .i64 vc, .int .i64 vd]) := Lib.hid (BoxR_new' rfl)
  have B0 : Hid (Below w.heap.size w (w.alloc (.cells #[.int .i64 va, .int .i64 vb, .int .i64 vc, .int .i64 vd] 41))) := Lib.hid (by go_grown)
  have f2 := fun x : BelowBy (w.alloc (.cells #[.int .i64 va, .int .i64 vb, .int .i64 vc, .int .i64 vd] 41)) => (kept_cell (kept_trans B0.out x.h) _ _ hb2).trans c2
  have f3 := fun x : BelowBy (w.alloc (.cells #[.int .i64 va, .int .i64 vb, .int .i64 vc, .int .i64 vd] 41)) => (kept_cell (kept_trans B0.out x.h) _ _ hb2).trans c3
  have f4 := fun x : BelowBy (w.alloc (.cells #[.int .i64 va, .int .i64 vb, .int .i64 vc, .int .i64 vd] 41)) => (kept_cell (kept_trans B0.out x.h) _ _ hb2).trans c4
  have f5 := fun x : BelowBy (w.alloc (.cells #[.int .i64 va, .int .i64 vb, .int .i64 vc, .int .i64 vd] 41)) => (kept_cell (kept_trans B0.out x.h) _ _ hb2).trans c5
  have f6 := fun x : BelowBy (w.alloc (.cells #[.int .i64 va, .int .i64 vb, .int .i64 vc, .int .i64 vd] 41)) => (kept_cell (kept_trans B0.out x.h) _ _ hb2).trans c6
  have r0 := fun x : BelowBy (w.alloc (.cells #[.int .i64 va, .int .i64 vb, .int .i64 vc, .int .i64 vd] 41)) => (BoxR_kept K0.out x.h).2 0 _ rfl
  have r1 := fun x : BelowBy (w.alloc (.cells #[.int .i64 va, .int .i64 vb, .int .i64 vc, .int .i64 vd] 41)) => (BoxR_kept K0.out x.h).2 1 _ rfl
  have r2 := fun x : BelowBy (w.alloc (.cells #[.int .i64 va, .int .i64 vb, .int .i64 vc, .int .i64 vd] 41)) => (BoxR_kept K0.out x.h).2 2 _ rfl
  have r3 := fun x : BelowBy (w.alloc (.cells #[.int .i64 va, .int .i64 vb, .int .i64 vc, .int .i64 vd] 41)) => (BoxR_kept K0.out x.h).2 3 _ rfl
  clear c2 c3 c4 c5 c6 hb2
  go_enter Tryz.func37, Tryz.ntmps37
  go_wp2_with fail
  refine wp_region_below (by kernel_rfl) (by kernel_rfl) ?_
  repeat (go_big_quiet_step ((first | (go_at_call 74; exact below_call (fun _ => HU.out _)) | (go_at_call 44; exact below_call (fun hbx => HM.out _ (kept_trans B0.out hbx))))))
  refine wpQuiet_nil ?_
  intro wq hw'
  obtain ⟨⟨_, hbq⟩, hwq⟩ := hw'
  subst hwq
  (try dsimp only)
  go_wp2
  go_ret
  exact ⟨rfl, kept_trans B0.out hbq⟩

theorem specCode10_any (b1 b2 : Nat) (k : Cr) (va vb vc vd : Int) (l : Lf) (c d : Value) (w : World) (h1 : CrAt w b1 0 k c) (h2 : LfAt w b2 0 l d) (hk : k.nm.size ≤ 1000000) (hl : l.nm.size ≤ 1000000) :
    Calls Tryz.prog 36 #[.pointer (some ⟨b1, 0, none⟩), .agg #[.int .i64 va, .int .i64 vb, .int .i64 vc, .int .i64 vd], .pointer (some ⟨b2, 0, none⟩)] w fun e w' => e = .returned (.int .i64 (if spB va vb vc vd && (craneB k && fldB l) then (if can9 k l then 0 else 6) else 1)) ∧ Below w.heap.size w w' := by
  have HV := Lib.hid (fun u => specSp_any va vb vc vd u)
  have HC := Lib.hid (fun u (q : Below w.heap.size w u) => specCode9_any b1 b2 k l c d u (CrAt_kept h1 q) (LfAt_kept h2 q) hk hl)
  have HN := Lib.hid (fun u (q : Below w.heap.size w u) hc hf => specCan9_any b1 0 b2 0 k l c d u (CrAt_kept h1 q) (LfAt_kept h2 q) hc hf)
  clear h1 h2
  cases p0 : spB va vb vc vd <;> rw [p0] at HV
  · clear HC HN p0
    go_enter Tryz.func36, Tryz.ntmps36
    go_wp2_with fail
    refine (HV.out _).mono ?_
    rintro e w1 ⟨rfl, b1⟩
    replace b1 := kept_trans (a := w) (by go_grown) b1
    have l1 := kept_cell b1
    have zz1 := b1.size
    go_wp2
    go_ret
    exact ⟨by simp, b1⟩
  cases p1 : craneB k && fldB l <;> rw [p1] at HC
  · clear HN p0 p1
    go_enter Tryz.func36, Tryz.ntmps36
    go_wp2_with fail
    refine (HV.out _).mono ?_
    rintro e w1 ⟨rfl, b1⟩
    replace b1 := kept_trans (a := w) (by go_grown) b1
    have l1 := kept_cell b1
    have zz1 := b1.size
    go_wp2_with fail
    refine (HC.out _ b1).mono ?_
    rintro e w2 ⟨rfl, hb2⟩
    have b2 := kept_trans b1 hb2
    go_wp2
    go_ret
    exact ⟨by simp, b2⟩
  · obtain ⟨q1, q2⟩ := Bool.and_eq_true_iff.mp p1
    have HX := Lib.hid (fun u q => HN.out u q q1 q2)
    clear HN p0 p1 q1 q2
    generalize can9 k l = r at *
    cases r
    all_goals
      go_enter Tryz.func36, Tryz.ntmps36
      go_wp2_with fail
      refine (HV.out _).mono ?_
      rintro e w1 ⟨rfl, b1⟩
      replace b1 := kept_trans (a := w) (by go_grown) b1
      have l1 := kept_cell b1
      have zz1 := b1.size
      go_wp2_with fail
      refine (HC.out _ b1).mono ?_
      rintro e w2 ⟨rfl, hb2⟩
      have b2 := kept_trans b1 hb2
      go_wp2_with fail
      refine (HX.out _ b2).mono ?_
      rintro e w3 ⟨rfl, hb3⟩
      have b3 := kept_trans b2 hb3
      go_wp2
      go_ret
      exact ⟨by simp, b3⟩

set_option maxHeartbeats 4000000 in
theorem swing_any (b o : Nat) (k : Cr) (fx fy tx ty : Int) (c : Value) (w : World) (h : CrAt w b o k c) (ht : VecTab w) :
    Calls Tryz.prog 50 #[.pointer (some ⟨b, o, none⟩), .agg #[.int .i64 fx, .int .i64 fy], .agg #[.int .i64 tx, .int .i64 ty]] w fun e w' => ∃ g, e = .returned (.iface 145 (.slice (some ⟨g, 0, none⟩) 2 2)) ∧
      BoxR w' g [.iface 140 (.agg #[.int .i64 (dirToL k.x k.y fx fy).1, .int .i64 (dirToL k.x k.y tx ty).1]), .iface 143 (.agg #[.int .i64 (radL k.x k.y fx fy).1, .int .i64 (radL k.x k.y tx ty).1])] ∧ Below w.heap.size w w' := by
  have hW : Below w.heap.size w ((w.alloc (.cells #[.int .i64 fx, .int .i64 fy] 36)).alloc (.cells #[.int .i64 tx, .int .i64 ty] 36)) := by go_grown
  have K1 : BoxR ((w.alloc (.cells #[.int .i64 fx, .int .i64 fy] 36)).alloc (.cells #[.int .i64 tx, .int .i64 ty] 36)) w.heap.size [.int .i64 fx, .int .i64 fy] := BoxR_up (BoxR_new' rfl)
  have K2 : BoxR ((w.alloc (.cells #[.int .i64 fx, .int .i64 fy] 36)).alloc (.cells #[.int .i64 tx, .int .i64 ty] 36)) (w.heap.size + 1) [.int .i64 tx, .int .i64 ty] := BoxR_new' (by simp)
  obtain ⟨D, hD⟩ : ∃ D : Int → Int → Int, D = fun x y => (dirToL k.x k.y x y).1 := ⟨_, rfl⟩
  obtain ⟨R, hR⟩ : ∃ R : Int → Int → Int, R = fun x y => (radL k.x k.y x y).1 := ⟨_, rfl⟩
  rw [show (dirToL k.x k.y fx fy).1 = D fx fy by rw [hD], show (dirToL k.x k.y tx ty).1 = D tx ty by rw [hD], show (radL k.x k.y fx fy).1 = R fx fy by rw [hR], show (radL k.x k.y tx ty).1 = R tx ty by rw [hR]]
  have HDA : Hid (∀ u x y, Below ((w.alloc (.cells #[.int .i64 fx, .int .i64 fy] 36)).alloc (.cells #[.int .i64 tx, .int .i64 ty] 36)).heap.size ((w.alloc (.cells #[.int .i64 fx, .int .i64 fy] 36)).alloc (.cells #[.int .i64 tx, .int .i64 ty] 36)) u → Calls Tryz.prog 92 #[.pointer (some ⟨b, o, none⟩), .agg #[.int .i64 x, .int .i64 y]] u fun e w' => e = .returned (.int .i64 (D x y)) ∧ Below u.heap.size u w') := Lib.hid (fun u x y q => by subst hD; exact directionAt_any b o k c x y u (CrAt_kept h (kept_trans hW q)) (VecTab_kept ht (kept_trans hW q)))
  have HRA : Hid (∀ u x y, Below ((w.alloc (.cells #[.int .i64 fx, .int .i64 fy] 36)).alloc (.cells #[.int .i64 tx, .int .i64 ty] 36)).heap.size ((w.alloc (.cells #[.int .i64 fx, .int .i64 fy] 36)).alloc (.cells #[.int .i64 tx, .int .i64 ty] 36)) u → Calls Tryz.prog 93 #[.pointer (some ⟨b, o, none⟩), .agg #[.int .i64 x, .int .i64 y]] u fun e w' => e = .returned (.int .i64 (R x y)) ∧ Below u.heap.size u w') := Lib.hid (fun u x y q => by subst hR; exact radiusAt_any b o k c x y u (CrAt_kept h (kept_trans hW q)))
  clear h ht hD hR
  have HB := Lib.hid hW; clear hW
  have SOF := Lib.hid (show ∀ u, Below ((w.alloc (.cells #[.int .i64 fx, .int .i64 fy] 36)).alloc (.cells #[.int .i64 tx, .int .i64 ty] 36)).heap.size ((w.alloc (.cells #[.int .i64 fx, .int .i64 fy] 36)).alloc (.cells #[.int .i64 tx, .int .i64 ty] 36)) u → (fun w' => w'.cell? ⟨w.heap.size, 0, none⟩ = some (.int .i64 fx) ∧ w'.cell? ⟨w.heap.size, 1, none⟩ = some (.int .i64 fy) ∧ w'.cell? ⟨w.heap.size + 1, 0, none⟩ = some (.int .i64 tx) ∧ w'.cell? ⟨w.heap.size + 1, 1, none⟩ = some (.int .i64 ty)) u from fun u q => ⟨(BoxR_kept K1 q).2 0 _ rfl, (BoxR_kept K1 q).2 1 _ rfl, (BoxR_kept K2 q).2 0 _ rfl, (BoxR_kept K2 q).2 1 _ rfl⟩)
  clear K1 K2
  have hrefl := Below.refl ((w.alloc (.cells #[.int .i64 fx, .int .i64 fy] 36)).alloc (.cells #[.int .i64 tx, .int .i64 ty] 36)).heap.size ((w.alloc (.cells #[.int .i64 fx, .int .i64 fy] 36)).alloc (.cells #[.int .i64 tx, .int .i64 ty] 36))
  go_enter Tryz.func50, Tryz.ntmps50
  go_wp2_with fail
  first
    | go_region_held3 (fun w' => w'.cell? ⟨w.heap.size, 0, none⟩ = some (.int .i64 fx) ∧ w'.cell? ⟨w.heap.size, 1, none⟩ = some (.int .i64 fy) ∧ w'.cell? ⟨w.heap.size + 1, 0, none⟩ = some (.int .i64 tx) ∧ w'.cell? ⟨w.heap.size + 1, 1, none⟩ = some (.int .i64 ty)) (first | (refine SOF.out _ ?_; assumption) | (refine SOF.out _ (kept_trans k4 ?_); go_grown) | (refine SOF.out _ ?_; go_grown)) (first
        | (go_at_call 93; have p3 := k3; refine (HRA.out _ _ _ k3).mono ?_; rintro e w4 ⟨rfl, h4⟩; have k4 := kept_trans (a := ((w.alloc (.cells #[.int .i64 fx, .int .i64 fy] 36)).alloc (.cells #[.int .i64 tx, .int .i64 ty] 36))) k3 h4)
        | (go_at_call 93; have p2 := k2; refine (HRA.out _ _ _ k2).mono ?_; rintro e w3 ⟨rfl, h3⟩; have k3 := kept_trans (a := ((w.alloc (.cells #[.int .i64 fx, .int .i64 fy] 36)).alloc (.cells #[.int .i64 tx, .int .i64 ty] 36))) k2 h3)
        | (go_at_call 92; have p1 := k1; refine (HDA.out _ _ _ k1).mono ?_; rintro e w2 ⟨rfl, h2⟩; have k2 := kept_trans (a := ((w.alloc (.cells #[.int .i64 fx, .int .i64 fy] 36)).alloc (.cells #[.int .i64 tx, .int .i64 ty] 36))) k1 h2)
        | (go_at_call 92; refine (HDA.out _ _ _ (by go_grown)).mono ?_; rintro e w1 ⟨rfl, h1⟩; have k1 := kept_trans (a := ((w.alloc (.cells #[.int .i64 fx, .int .i64 fy] 36)).alloc (.cells #[.int .i64 tx, .int .i64 ty] 36))) (by go_grown) h1))
    | fail
  go_wp2
  go_ret
  exact ⟨_, rfl, BoxR_new' rfl, kept_trans HB.out (kept_trans k4 (by go_grown))⟩

/-- The longest of the first two moves. -/
def togT (x y : Int) : Nat → Int
  | 0 => 0
  | 1 => max 0 x
  | _ => max (max 0 x) y

set_option maxHeartbeats 2000000 in
theorem togSecs_any (va vb vc vd : Int) (g : Nat) (a b x y : Int) (hx : 0 ≤ x ∧ x ≤ 1000000) (hy : 0 ≤ y ∧ y ≤ 1000000) (hva : 1 ≤ va ∧ va ≤ 600) (hvb : 1 ≤ vb ∧ vb ≤ 600) (w : World)
    (hg : BoxR w g [.iface 140 (.agg #[.int .i64 a, .int .i64 b]), .iface 143 (.agg #[.int .i64 x, .int .i64 y])]) :
    Calls Tryz.prog 172 #[.slice (some ⟨g, 0, none⟩) 2 2, .agg #[.int .i64 va, .int .i64 vb, .int .i64 vc, .int .i64 vd]] w fun e w' => e = .returned (.int .i64 (max (max 0 (tiltL (turnBetweenL a b).1 * va)) (upL (tiltL (y - x)) vb))) ∧ Below w.heap.size w w' := by
  have HT := Lib.hid (fun u => turnSecs_any va vb vc vd a b hva u)
  have HR := Lib.hid (fun u => rideSecs_any va vb vc vd x y hx hy hvb u)
  have hmx := fun ts t u (a b : Int) => max2_any (P := Tryz.prog) u ts t a b
  clear hx hy hva hvb
  have hR : max (max 0 (tiltL (turnBetweenL a b).1 * va)) (upL (tiltL (y - x)) vb) = togT (tiltL (turnBetweenL a b).1 * va) (upL (tiltL (y - x)) vb) 2 := rfl
  rw [hR]
  generalize tiltL (turnBetweenL a b).1 * va = X at *
  generalize upL (tiltL (y - x)) vb = Y at *
  clear hR
  have G := Lib.hid (fun u (q : Below w.heap.size w u) => BoxR_kept hg q)
  have hgl := hg.1
  clear hg
  go_enter Tryz.func172, Tryz.ntmps172
  go_wp2_with fail
  go_loopw [5, 10] (fun m i wr => ∃ k : Nat, k ≤ 2 ∧ i = .int .i64 k ∧ m = .int .i64 (togT X Y k) ∧ Below (w.alloc (.cells #[.int .i64 va, .int .i64 vb, .int .i64 vc, .int .i64 vd] 41)).heap.size (w.alloc (.cells #[.int .i64 va, .int .i64 vb, .int .i64 vc, .int .i64 vd] 41)) wr) (fun _ i _ => 2 - (intOf i).toNat)
  case atStart => exact ⟨0, by omega, rfl, rfl, Below.refl _ _⟩
  case round =>
    obtain ⟨k, hk, rfl, rfl, hb⟩ := hrel
    have hw0 : Below w.heap.size w wr := kept_trans (by go_grown) hb
    obtain ⟨gl, gc⟩ := G.out _ hw0
    refine kept_at hb w.heap.size (by go_size) fun c0 z0 s0 => ?_
    rcases (show k = 0 ∨ k = 1 ∨ k = 2 by omega) with rfl | rfl | rfl
    · have hc := gc 0 _ rfl
      clear gc
      go_wp2_with fail
      refine (HT.out _).mono ?_
      rintro e w1 ⟨rfl, hb1⟩
      have b1 := kept_trans hb hb1
      go_wp2
      go_roundw
      case rel => exact ⟨1, by omega, rfl, rfl, b1⟩
      case measure => simp [intOf]
    · have hc := gc 1 _ rfl
      clear gc
      go_wp2_with fail
      refine (HR.out _).mono ?_
      rintro e w1 ⟨rfl, hb1⟩
      have b1 := kept_trans hb hb1
      go_wp2
      go_roundw
      case rel => exact ⟨2, by omega, rfl, rfl, b1⟩
      case measure => simp [intOf]
    · go_wp2
      go_ret
      exact ⟨rfl, hw0⟩

theorem move_eq {k : Cr} {va vb fx fy tx ty : Int} (hc : okP k.x k.y = true) (h1 : okP fx fy = true) (h2 : okP tx ty = true) (ha : 1 ≤ va ∧ va ≤ 600) :
    max (max 0 (tiltL (turnBetweenL (dirToL k.x k.y fx fy).1 (dirToL k.x k.y tx ty).1).1 * va)) (upL (tiltL ((radL k.x k.y tx ty).1 - (radL k.x k.y fx fy).1)) vb) = moveN k va vb fx fy tx ty := by
  have e1 : (dirToL k.x k.y fx fy).1 = dir9 k.x k.y fx fy := by unfold dirToL dir9; simp only [hc, h1, Bool.and_self, if_true]; split <;> rfl
  have e2 : (dirToL k.x k.y tx ty).1 = dir9 k.x k.y tx ty := by unfold dirToL dir9; simp only [hc, h2, Bool.and_self, if_true]; split <;> rfl
  have e3 : (radL k.x k.y fx fy).1 = distL k fx fy := by simp [radL, distL, hc, h1]
  have e4 : (radL k.x k.y tx ty).1 = distL k tx ty := by simp [radL, distL, hc, h2]
  have p1 := dir9_bd k.x k.y fx fy
  have p2 := dir9_bd k.x k.y tx ty
  have e5 : (turnBetweenL (dir9 k.x k.y fx fy) (dir9 k.x k.y tx ty)).1 = turnL (dir9 k.x k.y tx ty - dir9 k.x k.y fx fy) := by
    unfold turnBetweenL
    rw [if_pos (by simp [inB]; omega)]
  have t := turnL_bd (dir9 k.x k.y tx ty - dir9 k.x k.y fx fy)
  have z := tiltL_bd (n := turnL (dir9 k.x k.y tx ty - dir9 k.x k.y fx fy)) (a := 12) (by omega)
  have m := mul_bd (tiltL (turnL (dir9 k.x k.y tx ty - dir9 k.x k.y fx fy))) va 12 600 z (by omega)
  rw [e1, e2, e3, e4, e5]
  unfold moveN
  omega

set_option maxHeartbeats 4000000 in
theorem specJbT_any (k : Cr) (va vb vc vd : Int) (l : Lf) (u v : Int) (c d : Value) (w : World) (hr : RdP w c k.ch) (hd : RdI w d l.af) (hk : k.nm.size ≤ 1000000) (hl : l.nm.size ≤ 1000000) :
    Calls Tryz.prog 16 #[.agg #[.string k.nm, .int .i64 k.x, .int .i64 k.y, .int .i64 k.h, .int .i64 k.j, .int .i64 k.b, c], .agg #[.int .i64 va, .int .i64 vb, .int .i64 vc, .int .i64 vd], .agg #[.string l.nm, .int .i64 l.wt, .int .i64 l.fx, .int .i64 l.fy, .int .i64 l.tx, .int .i64 l.ty, .int .i64 l.h, .int .i64 l.dl, d], .agg #[.int .i64 u, .int .i64 v]] w fun e w' => e = .returned (.tuple #[.int .i64 (jobL k va vb vc vd l u v).1, .int .i64 (jobL k va vb vc vd l u v).2]) ∧ Below w.heap.size w w' := by
  have hA0 : CrAt ((((w.alloc (.cells #[.string k.nm, .int .i64 k.x, .int .i64 k.y, .int .i64 k.h, .int .i64 k.j, .int .i64 k.b, c] 39)).alloc (.cells #[.int .i64 va, .int .i64 vb, .int .i64 vc, .int .i64 vd] 41)).alloc (.cells #[.string l.nm, .int .i64 l.wt, .int .i64 l.fx, .int .i64 l.fy, .int .i64 l.tx, .int .i64 l.ty, .int .i64 l.h, .int .i64 l.dl, d] 44)).alloc (.cells #[.int .i64 u, .int .i64 v] 36)) w.heap.size 0 k c := CrAt_kept (CrAt_box k.nm k.x k.y k.h k.j k.b k.ch c w 39 hr) (by go_grown)
  have hL1 : LfAt (((w.alloc (.cells #[.string k.nm, .int .i64 k.x, .int .i64 k.y, .int .i64 k.h, .int .i64 k.j, .int .i64 k.b, c] 39)).alloc (.cells #[.int .i64 va, .int .i64 vb, .int .i64 vc, .int .i64 vd] 41)).alloc (.cells #[.string l.nm, .int .i64 l.wt, .int .i64 l.fx, .int .i64 l.fy, .int .i64 l.tx, .int .i64 l.ty, .int .i64 l.h, .int .i64 l.dl, d] 44)) (w.heap.size + 2) 0 l d := (by have := LfAt_box l.nm l.wt l.fx l.fy l.tx l.ty l.h l.dl l.af d ((w.alloc (.cells #[.string k.nm, .int .i64 k.x, .int .i64 k.y, .int .i64 k.h, .int .i64 k.j, .int .i64 k.b, c] 39)).alloc (.cells #[.int .i64 va, .int .i64 vb, .int .i64 vc, .int .i64 vd] 41)) 44 (RdI_kept hd (by go_grown)); simpa using this)
  have hL0 : LfAt ((((w.alloc (.cells #[.string k.nm, .int .i64 k.x, .int .i64 k.y, .int .i64 k.h, .int .i64 k.j, .int .i64 k.b, c] 39)).alloc (.cells #[.int .i64 va, .int .i64 vb, .int .i64 vc, .int .i64 vd] 41)).alloc (.cells #[.string l.nm, .int .i64 l.wt, .int .i64 l.fx, .int .i64 l.fy, .int .i64 l.tx, .int .i64 l.ty, .int .i64 l.h, .int .i64 l.dl, d] 44)).alloc (.cells #[.int .i64 u, .int .i64 v] 36)) (w.heap.size + 2) 0 l d := LfAt_kept hL1 (by first | exact Below.refl _ _ | go_grown)
  have HP := Lib.hid (fun z => specOk_any u v z)
  have HC := Lib.hid (fun z (q : Below ((((w.alloc (.cells #[.string k.nm, .int .i64 k.x, .int .i64 k.y, .int .i64 k.h, .int .i64 k.j, .int .i64 k.b, c] 39)).alloc (.cells #[.int .i64 va, .int .i64 vb, .int .i64 vc, .int .i64 vd] 41)).alloc (.cells #[.string l.nm, .int .i64 l.wt, .int .i64 l.fx, .int .i64 l.fy, .int .i64 l.tx, .int .i64 l.ty, .int .i64 l.h, .int .i64 l.dl, d] 44)).alloc (.cells #[.int .i64 u, .int .i64 v] 36)).heap.size ((((w.alloc (.cells #[.string k.nm, .int .i64 k.x, .int .i64 k.y, .int .i64 k.h, .int .i64 k.j, .int .i64 k.b, c] 39)).alloc (.cells #[.int .i64 va, .int .i64 vb, .int .i64 vc, .int .i64 vd] 41)).alloc (.cells #[.string l.nm, .int .i64 l.wt, .int .i64 l.fx, .int .i64 l.fy, .int .i64 l.tx, .int .i64 l.ty, .int .i64 l.h, .int .i64 l.dl, d] 44)).alloc (.cells #[.int .i64 u, .int .i64 v] 36)) z) => specCode10_any w.heap.size (w.heap.size + 2) k va vb vc vd l c d z (CrAt_kept hA0 q) (LfAt_kept hL0 q) hk hl)
  have HN := Lib.hid (fun z (q : Below ((((w.alloc (.cells #[.string k.nm, .int .i64 k.x, .int .i64 k.y, .int .i64 k.h, .int .i64 k.j, .int .i64 k.b, c] 39)).alloc (.cells #[.int .i64 va, .int .i64 vb, .int .i64 vc, .int .i64 vd] 41)).alloc (.cells #[.string l.nm, .int .i64 l.wt, .int .i64 l.fx, .int .i64 l.fy, .int .i64 l.tx, .int .i64 l.ty, .int .i64 l.h, .int .i64 l.dl, d] 44)).alloc (.cells #[.int .i64 u, .int .i64 v] 36)).heap.size ((((w.alloc (.cells #[.string k.nm, .int .i64 k.x, .int .i64 k.y, .int .i64 k.h, .int .i64 k.j, .int .i64 k.b, c] 39)).alloc (.cells #[.int .i64 va, .int .i64 vb, .int .i64 vc, .int .i64 vd] 41)).alloc (.cells #[.string l.nm, .int .i64 l.wt, .int .i64 l.fx, .int .i64 l.fy, .int .i64 l.tx, .int .i64 l.ty, .int .i64 l.h, .int .i64 l.dl, d] 44)).alloc (.cells #[.int .i64 u, .int .i64 v] 36)) z) hc hf hs => specLiftN_any w.heap.size 0 (w.heap.size + 2) 0 k va vb vc vd l c d z (CrAt_kept hA0 q) (LfAt_kept hL0 q) hc hf hs)
  have HM := Lib.hid (fun z (q : Below ((((w.alloc (.cells #[.string k.nm, .int .i64 k.x, .int .i64 k.y, .int .i64 k.h, .int .i64 k.j, .int .i64 k.b, c] 39)).alloc (.cells #[.int .i64 va, .int .i64 vb, .int .i64 vc, .int .i64 vd] 41)).alloc (.cells #[.string l.nm, .int .i64 l.wt, .int .i64 l.fx, .int .i64 l.fy, .int .i64 l.tx, .int .i64 l.ty, .int .i64 l.h, .int .i64 l.dl, d] 44)).alloc (.cells #[.int .i64 u, .int .i64 v] 36)).heap.size ((((w.alloc (.cells #[.string k.nm, .int .i64 k.x, .int .i64 k.y, .int .i64 k.h, .int .i64 k.j, .int .i64 k.b, c] 39)).alloc (.cells #[.int .i64 va, .int .i64 vb, .int .i64 vc, .int .i64 vd] 41)).alloc (.cells #[.string l.nm, .int .i64 l.wt, .int .i64 l.fx, .int .i64 l.fy, .int .i64 l.tx, .int .i64 l.ty, .int .i64 l.h, .int .i64 l.dl, d] 44)).alloc (.cells #[.int .i64 u, .int .i64 v] 36)) z) hc h1 h2 ha hb => specMove_any w.heap.size 0 k va vb vc vd u v l.fx l.fy c z (CrAt_kept hA0 q) hc h1 h2 ha hb)
  have KV : BoxR ((((w.alloc (.cells #[.string k.nm, .int .i64 k.x, .int .i64 k.y, .int .i64 k.h, .int .i64 k.j, .int .i64 k.b, c] 39)).alloc (.cells #[.int .i64 va, .int .i64 vb, .int .i64 vc, .int .i64 vd] 41)).alloc (.cells #[.string l.nm, .int .i64 l.wt, .int .i64 l.fx, .int .i64 l.fy, .int .i64 l.tx, .int .i64 l.ty, .int .i64 l.h, .int .i64 l.dl, d] 44)).alloc (.cells #[.int .i64 u, .int .i64 v] 36)) (w.heap.size + 1) [.int .i64 va, .int .i64 vb, .int .i64 vc, .int .i64 vd] := BoxR_up (BoxR_up (BoxR_new' (by simp)))
  have KP : BoxR ((((w.alloc (.cells #[.string k.nm, .int .i64 k.x, .int .i64 k.y, .int .i64 k.h, .int .i64 k.j, .int .i64 k.b, c] 39)).alloc (.cells #[.int .i64 va, .int .i64 vb, .int .i64 vc, .int .i64 vd] 41)).alloc (.cells #[.string l.nm, .int .i64 l.wt, .int .i64 l.fx, .int .i64 l.fy, .int .i64 l.tx, .int .i64 l.ty, .int .i64 l.h, .int .i64 l.dl, d] 44)).alloc (.cells #[.int .i64 u, .int .i64 v] 36)) (w.heap.size + 3) [.int .i64 u, .int .i64 v] := BoxR_new' (by simp)
  have RF := Lib.hid (fun z (q : Below ((((w.alloc (.cells #[.string k.nm, .int .i64 k.x, .int .i64 k.y, .int .i64 k.h, .int .i64 k.j, .int .i64 k.b, c] 39)).alloc (.cells #[.int .i64 va, .int .i64 vb, .int .i64 vc, .int .i64 vd] 41)).alloc (.cells #[.string l.nm, .int .i64 l.wt, .int .i64 l.fx, .int .i64 l.fy, .int .i64 l.tx, .int .i64 l.ty, .int .i64 l.h, .int .i64 l.dl, d] 44)).alloc (.cells #[.int .i64 u, .int .i64 v] 36)).heap.size ((((w.alloc (.cells #[.string k.nm, .int .i64 k.x, .int .i64 k.y, .int .i64 k.h, .int .i64 k.j, .int .i64 k.b, c] 39)).alloc (.cells #[.int .i64 va, .int .i64 vb, .int .i64 vc, .int .i64 vd] 41)).alloc (.cells #[.string l.nm, .int .i64 l.wt, .int .i64 l.fx, .int .i64 l.fy, .int .i64 l.tx, .int .i64 l.ty, .int .i64 l.h, .int .i64 l.dl, d] 44)).alloc (.cells #[.int .i64 u, .int .i64 v] 36)) z) => And.intro (BoxR_kept KV q).2 (And.intro (BoxR_kept KP q).2 (LfAt_kept hL0 q).2.1))
  obtain ⟨A, cp, rfl, _, _⟩ := RdP_slice hr
  obtain ⟨A2, cp2, rfl, _, _⟩ := RdI_slice hd
  clear hr hd hA0 hL0 hL1 KV KP
  have HW0 : Hid (Below w.heap.size w ((((w.alloc (.cells #[.string k.nm, .int .i64 k.x, .int .i64 k.y, .int .i64 k.h, .int .i64 k.j, .int .i64 k.b, .slice A k.ch.length cp] 39)).alloc (.cells #[.int .i64 va, .int .i64 vb, .int .i64 vc, .int .i64 vd] 41)).alloc (.cells #[.string l.nm, .int .i64 l.wt, .int .i64 l.fx, .int .i64 l.fy, .int .i64 l.tx, .int .i64 l.ty, .int .i64 l.h, .int .i64 l.dl, .slice A2 l.af.length cp2] 44)).alloc (.cells #[.int .i64 u, .int .i64 v] 36))) := Lib.hid (by go_grown)
  have hE : jobL k va vb vc vd l u v = if okP u v then (if (if spB va vb vc vd && (craneB k && fldB l) then (if can9 k l then (0 : Int) else 6) else 1) = 0 then (moveN k va vb u v l.fx l.fy + liftN k va vb vc vd l, 0) else (0, (if spB va vb vc vd && (craneB k && fldB l) then (if can9 k l then (0 : Int) else 6) else 1))) else (0, 1) := by unfold jobL; cases okP u v <;> cases spB va vb vc vd <;> cases craneB k <;> cases fldB l <;> cases can9 k l <;> simp
  rw [hE]
  clear hE
  cases p0 : okP u v <;> rw [p0] at HP
  · simp only [Bool.false_eq_true, if_false]
    clear HC HN HM
    obtain ⟨s, x, y, hh, j, b, zs⟩ := k
    obtain ⟨ls, i1, i2, i3, i4, i5, i6, i7, us⟩ := l
    dsimp only at *
    go_enter Tryz.func16, Tryz.ntmps16
    go_wp2_with fail
    refine (HP.out _).mono ?_
    rintro e w1 ⟨rfl, k1⟩
    go_wp2
    go_ret2
    exact ⟨rfl, kept_trans HW0.out k1⟩
  simp only [if_true]
  by_cases hC : (if spB va vb vc vd && (craneB k && fldB l) then (if can9 k l then (0 : Int) else 6) else 1) = 0
  · rw [hC] at HC
    rw [if_pos hC]
    have hv : spB va vb vc vd = true := by cases h : spB va vb vc vd <;> simp [h] at hC ⊢
    have hcr : craneB k = true := by cases h : craneB k <;> simp [h] at hC ⊢
    have hf : fldB l = true := by cases h : fldB l <;> simp [h] at hC ⊢
    have g := spB_true hv
    have hc := (craneB_true hcr).1
    have f := fldB_true hf
    have HX := Lib.hid (fun z q => HN.out z q hc hf hv)
    have HY := Lib.hid (fun z q => HM.out z q hc p0 f.2.1 g.1 g.2.1)
    have m1 := moveN_bd hc p0 f.2.1 g.1 g.2.1
    have m2 := moveN_bd hc f.2.1 f.2.2.1 g.1 g.2.1
    have u2 := upL_bd (n := l.h + 30) (d := vc) (by omega) (by omega)
    have e1 : IntKind.i64.wrap (moveN k va vb u v l.fx l.fy + liftN k va vb vc vd l) = moveN k va vb u v l.fx l.fy + liftN k va vb vc vd l := wrap_in (by unfold liftN; omega)
    clear HN HM hC hv hcr hf g hc f m1 m2 u2 p0
    generalize liftN k va vb vc vd l = M at *
    generalize moveN k va vb u v l.fx l.fy = M2 at *
    obtain ⟨s, x, y, hh, j, b, zs⟩ := k
    obtain ⟨ls, i1, i2, i3, i4, i5, i6, i7, us⟩ := l
    dsimp only at *
    go_enter Tryz.func16, Tryz.ntmps16
    go_wp2_with fail
    refine (HP.out _).mono ?_
    rintro e w1 ⟨rfl, k1⟩
    have q0 := (RF.out _ k1).1 0 _ rfl
    have q1 := (RF.out _ k1).1 1 _ rfl
    have q2 := (RF.out _ k1).1 2 _ rfl
    have q3 := (RF.out _ k1).1 3 _ rfl
    go_wp2_with fail
    refine (HC.out _ k1).mono ?_
    rintro e w2 ⟨rfl, hb2⟩
    have k2 := kept_trans (a := ((((w.alloc (.cells #[.string s, .int .i64 x, .int .i64 y, .int .i64 hh, .int .i64 j, .int .i64 b, .slice A zs.length cp] 39)).alloc (.cells #[.int .i64 va, .int .i64 vb, .int .i64 vc, .int .i64 vd] 41)).alloc (.cells #[.string ls, .int .i64 i1, .int .i64 i2, .int .i64 i3, .int .i64 i4, .int .i64 i5, .int .i64 i6, .int .i64 i7, .slice A2 us.length cp2] 44)).alloc (.cells #[.int .i64 u, .int .i64 v] 36))) k1 hb2
    clear q0 q1 q2 q3
    have r0 := fun z : BelowBy w2 => (RF.out _ (kept_trans k2 z.h)).1 0 _ rfl
    have r1 := fun z : BelowBy w2 => (RF.out _ (kept_trans k2 z.h)).1 1 _ rfl
    have r2 := fun z : BelowBy w2 => (RF.out _ (kept_trans k2 z.h)).1 2 _ rfl
    have r3 := fun z : BelowBy w2 => (RF.out _ (kept_trans k2 z.h)).1 3 _ rfl
    have r4 := fun z : BelowBy w2 => (RF.out _ (kept_trans k2 z.h)).2.1 0 _ rfl
    have r5 := fun z : BelowBy w2 => (RF.out _ (kept_trans k2 z.h)).2.1 1 _ rfl
    have r6 := fun z : BelowBy w2 => (RF.out _ (kept_trans k2 z.h)).2.2.2.2.1
    have r7 := fun z : BelowBy w2 => (RF.out _ (kept_trans k2 z.h)).2.2.2.2.2.1
    simp only [Nat.zero_add] at r6 r7
    go_wp2_with fail
    refine wp_region_below (by kernel_rfl) (by kernel_rfl) ?_
    repeat (go_big_quiet_step ((first | (go_at_call 44; exact below_call (fun hbx => HY.out _ (kept_trans k2 hbx))) | (go_at_call 37; exact below_call (fun hbx => HX.out _ (kept_trans k2 hbx))))))
    refine wpQuiet_nil ?_
    intro wq hw'
    obtain ⟨⟨_, hbq⟩, hwq⟩ := hw'
    subst hwq
    (try dsimp only)
    go_wp2
    go_ret2
    exact ⟨rfl, kept_trans HW0.out (kept_trans k2 hbq)⟩
  · rw [if_neg hC]
    have hC1 : ((if spB va vb vc vd && (craneB k && fldB l) then (if can9 k l then (0 : Int) else 6) else 1) == 0) = false := by simpa using hC
    have hC2 : ((if spB va vb vc vd && (craneB k && fldB l) then (if can9 k l then (0 : Int) else 6) else 1) != 0) = true := by simpa using hC
    clear HN HM
    generalize (if spB va vb vc vd && (craneB k && fldB l) then (if can9 k l then (0 : Int) else 6) else 1) = K at *
    obtain ⟨s, x, y, hh, j, b, zs⟩ := k
    obtain ⟨ls, i1, i2, i3, i4, i5, i6, i7, us⟩ := l
    dsimp only at *
    go_enter Tryz.func16, Tryz.ntmps16
    go_wp2_with fail
    refine (HP.out _).mono ?_
    rintro e w1 ⟨rfl, k1⟩
    have q0 := (RF.out _ k1).1 0 _ rfl
    have q1 := (RF.out _ k1).1 1 _ rfl
    have q2 := (RF.out _ k1).1 2 _ rfl
    have q3 := (RF.out _ k1).1 3 _ rfl
    go_wp2_with fail
    refine (HC.out _ k1).mono ?_
    rintro e w2 ⟨rfl, hb2⟩
    have k2 := kept_trans (a := ((((w.alloc (.cells #[.string s, .int .i64 x, .int .i64 y, .int .i64 hh, .int .i64 j, .int .i64 b, .slice A zs.length cp] 39)).alloc (.cells #[.int .i64 va, .int .i64 vb, .int .i64 vc, .int .i64 vd] 41)).alloc (.cells #[.string ls, .int .i64 i1, .int .i64 i2, .int .i64 i3, .int .i64 i4, .int .i64 i5, .int .i64 i6, .int .i64 i7, .slice A2 us.length cp2] 44)).alloc (.cells #[.int .i64 u, .int .i64 v] 36))) k1 hb2
    go_wp2
    go_ret2
    exact ⟨rfl, kept_trans HW0.out k2⟩

/-- The time of the first moves of a lift: to hook, to hoist, to swing, to lower, to unhook. -/
def inT (vd H T : Int) : Nat → Int
  | 0 => 0
  | 1 => vd
  | 2 => vd + H
  | 3 => vd + H + T
  | 4 => vd + H + T + H
  | _ => vd + H + T + H + vd

set_option maxHeartbeats 4000000 in
theorem inTurnSecs_any (va vb vc vd : Int) (g2 g : Nat) (h a b x y : Int) (hh : 0 ≤ h ∧ h ≤ 1000000) (hx : 0 ≤ x ∧ x ≤ 1000000) (hy : 0 ≤ y ∧ y ≤ 1000000) (hva : 1 ≤ va ∧ va ≤ 600) (hvb : 1 ≤ vb ∧ vb ≤ 600) (hvc : 1 ≤ vc ∧ vc ≤ 600) (hvd : 1 ≤ vd ∧ vd ≤ 600) (w : World)
    (hg2 : BoxR w g2 [.iface 166 (.agg #[]), .iface 163 (.agg #[.int .i64 0, .int .i64 (h)]), .iface 145 (.slice (some ⟨g, 0, none⟩) 2 2), .iface 163 (.agg #[.int .i64 0, .int .i64 (h)]), .iface 166 (.agg #[])]) (hg : BoxR w g [.iface 140 (.agg #[.int .i64 a, .int .i64 b]), .iface 143 (.agg #[.int .i64 x, .int .i64 y])]) :
    Calls Tryz.prog 175 #[.slice (some ⟨g2, 0, none⟩) 5 5, .agg #[.int .i64 va, .int .i64 vb, .int .i64 vc, .int .i64 vd]] w fun e w' => e = .returned (.int .i64 (inT vd (upL (tiltL (h - 0)) vc) (max (max 0 (tiltL (turnBetweenL a b).1 * va)) (upL (tiltL (y - x)) vb)) 5)) ∧ Below w.heap.size w w' := by
  have HT := Lib.hid (fun u (q : Below w.heap.size w u) => togSecs_any va vb vc vd g a b x y hx hy hva hvb u (BoxR_kept hg q))
  have HH := Lib.hid (fun u => hoistSecs_any va vb vc vd 0 h (by omega) hh hvc u)
  have HK := Lib.hid (fun u => hookSecs_any va vb vc vd u)
  have t1 := turnBL_bd a b
  have t2 := tiltL_bd (n := (turnBetweenL a b).1) (a := 12) (by omega)
  have t3 := mul_bd (tiltL (turnBetweenL a b).1) va 12 600 t2 (by omega)
  have t4 := tiltL_bd (n := y - x) (a := 1000000) (by omega)
  have t5 := upL_bd (n := tiltL (y - x)) (d := vb) (by omega) (by omega)
  have t6 := tiltL_bd (n := h - 0) (a := 1000000) (by omega)
  have t7 := upL_bd (n := tiltL (h - 0)) (d := vc) (by omega) (by omega)
  have t8 : 0 ≤ max (max 0 (tiltL (turnBetweenL a b).1 * va)) (upL (tiltL (y - x)) vb) ∧ max (max 0 (tiltL (turnBetweenL a b).1 * va)) (upL (tiltL (y - x)) vb) ≤ 2000000 := by omega
  have t9 : 0 ≤ upL (tiltL (h - 0)) vc ∧ upL (tiltL (h - 0)) vc ≤ 2000000 := by omega
  generalize max (max 0 (tiltL (turnBetweenL a b).1 * va)) (upL (tiltL (y - x)) vb) = T at *
  generalize upL (tiltL (h - 0)) vc = H at *
  obtain ⟨S, hS⟩ : ∃ S : Nat → Int, S = inT vd H T := ⟨_, rfl⟩
  have s0 : S 0 = 0 := by rw [hS]; rfl
  have s1 : wrap64 (S 0 + vd) = S 1 := by rw [IntWalk.wrap64_in _ (by rw [hS]; simp only [inT]; omega), hS]; simp only [inT]; omega
  have s1' : wrap64 vd = S 1 := by rw [← s1, s0, Int.zero_add]
  have s2 : wrap64 (S 1 + H) = S 2 := by rw [IntWalk.wrap64_in _ (by rw [hS]; simp only [inT]; omega), hS]; simp only [inT]
  have s3 : wrap64 (S 2 + T) = S 3 := by rw [IntWalk.wrap64_in _ (by rw [hS]; simp only [inT]; omega), hS]; simp only [inT]
  have s4 : wrap64 (S 3 + H) = S 4 := by rw [IntWalk.wrap64_in _ (by rw [hS]; simp only [inT]; omega), hS]; simp only [inT]
  have s5 : wrap64 (S 4 + vd) = S 5 := by rw [IntWalk.wrap64_in _ (by rw [hS]; simp only [inT]; omega), hS]; simp only [inT]
  rw [← hS]
  clear hS t1 t2 t3 t4 t5 t6 t7 t8 t9 hh hx hy hva hvb hvc hvd
  have G := Lib.hid (fun u (q : Below w.heap.size w u) => BoxR_kept hg2 q)
  have hgl := hg2.1
  clear hg hg2
  go_enter Tryz.func175, Tryz.ntmps175
  go_wp2_with fail
  go_loopw [5, 10] (fun m i wr => ∃ k : Nat, k ≤ 5 ∧ i = .int .i64 k ∧ m = .int .i64 (S k) ∧ Below (w.alloc (.cells #[.int .i64 va, .int .i64 vb, .int .i64 vc, .int .i64 vd] 41)).heap.size (w.alloc (.cells #[.int .i64 va, .int .i64 vb, .int .i64 vc, .int .i64 vd] 41)) wr) (fun _ i _ => 5 - (intOf i).toNat)
  case atStart => exact ⟨0, by omega, rfl, by rw [s0], Below.refl _ _⟩
  case round =>
    obtain ⟨k, hk, rfl, rfl, hb⟩ := hrel
    have hw0 : Below w.heap.size w wr := kept_trans (by go_grown) hb
    obtain ⟨gl, gc⟩ := G.out _ hw0
    refine kept_at hb w.heap.size (by go_size) fun c0 z0 s0' => ?_
    rcases (show k = 0 ∨ k = 1 ∨ k = 2 ∨ k = 3 ∨ k = 4 ∨ k = 5 by omega) with rfl | rfl | rfl | rfl | rfl | rfl
    · have hc := gc 0 _ rfl
      clear gc
      go_wp2_with fail
      refine (HK.out _).mono ?_
      rintro e w1 ⟨rfl, hb1⟩
      have b1 := kept_trans hb hb1
      go_wp2
      go_roundw
      case rel => exact ⟨1, by omega, rfl, by first | (simp [s1]; done) | simp [s1'], b1⟩
      case measure => simp [intOf]
    · have hc := gc 1 _ rfl
      clear gc
      go_wp2_with fail
      refine (HH.out _).mono ?_
      rintro e w1 ⟨rfl, hb1⟩
      have b1 := kept_trans hb hb1
      go_wp2
      go_roundw
      case rel => exact ⟨2, by omega, rfl, by first | (simp [s2]; done) | simp [s1'], b1⟩
      case measure => simp [intOf]
    · have hc := gc 2 _ rfl
      clear gc
      go_wp2_with fail
      refine (HT.out _ (kept_trans (a := w) hw0 (by first | exact Below.refl _ _ | go_grown))).mono ?_
      rintro e w1 ⟨rfl, hb1⟩
      have b1 := kept_trans hb hb1
      go_wp2
      go_roundw
      case rel => exact ⟨3, by omega, rfl, by first | (simp [s3]; done) | simp [s1'], b1⟩
      case measure => simp [intOf]
    · have hc := gc 3 _ rfl
      clear gc
      go_wp2_with fail
      refine (HH.out _).mono ?_
      rintro e w1 ⟨rfl, hb1⟩
      have b1 := kept_trans hb hb1
      go_wp2
      go_roundw
      case rel => exact ⟨4, by omega, rfl, by first | (simp [s4]; done) | simp [s1'], b1⟩
      case measure => simp [intOf]
    · have hc := gc 4 _ rfl
      clear gc
      go_wp2_with fail
      refine (HK.out _).mono ?_
      rintro e w1 ⟨rfl, hb1⟩
      have b1 := kept_trans hb hb1
      go_wp2
      go_roundw
      case rel => exact ⟨5, by omega, rfl, by first | (simp [s5]; done) | simp [s1'], b1⟩
      case measure => simp [intOf]
    · go_wp2
      go_ret
      exact ⟨rfl, hw0⟩

set_option maxHeartbeats 4000000 in
theorem carry_any (b o : Nat) (k : Cr) (l : Lf) (c d : Value) (w : World) (h : CrAt w b o k c) (hd : RdI w d l.af) (hh : 0 ≤ l.h ∧ l.h ≤ 2000) (ht : VecTab w) :
    Calls Tryz.prog 91 #[.pointer (some ⟨b, o, none⟩), .agg #[.string l.nm, .int .i64 l.wt, .int .i64 l.fx, .int .i64 l.fy, .int .i64 l.tx, .int .i64 l.ty, .int .i64 l.h, .int .i64 l.dl, d]] w fun e w' => ∃ g2 g, e = .returned (.iface 167 (.slice (some ⟨g2, 0, none⟩) 5 5)) ∧
      BoxR w' g2 [.iface 166 (.agg #[]), .iface 163 (.agg #[.int .i64 0, .int .i64 (l.h + 30)]), .iface 145 (.slice (some ⟨g, 0, none⟩) 2 2), .iface 163 (.agg #[.int .i64 0, .int .i64 (l.h + 30)]), .iface 166 (.agg #[])] ∧ BoxR w' g [.iface 140 (.agg #[.int .i64 (dirToL k.x k.y l.fx l.fy).1, .int .i64 (dirToL k.x k.y l.tx l.ty).1]), .iface 143 (.agg #[.int .i64 (radL k.x k.y l.fx l.fy).1, .int .i64 (radL k.x k.y l.tx l.ty).1])] ∧ Below w.heap.size w w' := by
  have HS := Lib.hid (fun u (q : Below w.heap.size w u) => swing_any b o k l.fx l.fy l.tx l.ty c u (CrAt_kept h q) (VecTab_kept ht q))
  have HH := Lib.hid (fun u => hoistTo_any (l.h + 30) u)
  obtain ⟨H, hH⟩ : ∃ H, H = l.h + 30 := ⟨_, rfl⟩
  have e1 : wrap64 (l.h + 30) = H := by rw [IntWalk.wrap64_in _ (by omega), hH]
  have e2 : IntKind.i64.wrap (l.h + 30) = H := by rw [wrap_in (by omega), hH]
  rw [← hH] at HH ⊢
  obtain ⟨A2, cp2, rfl, _, _⟩ := RdI_slice hd
  clear h ht hd hh hH
  generalize (dirToL k.x k.y l.fx l.fy).1 = D1 at *
  generalize (dirToL k.x k.y l.tx l.ty).1 = D2 at *
  generalize (radL k.x k.y l.fx l.fy).1 = R1 at *
  generalize (radL k.x k.y l.tx l.ty).1 = R2 at *
  obtain ⟨ls, i1, i2, i3, i4, i5, i6, i7, us⟩ := l
  dsimp only at *
  have HB := Lib.hid (BoxR_new' (u := w) (t := 44) (arr := #[.string ls, .int .i64 i1, .int .i64 i2, .int .i64 i3, .int .i64 i4, .int .i64 i5, .int .i64 i6, .int .i64 i7, .slice A2 us.length cp2]) (rfl : w.heap.size = w.heap.size))
  go_enter Tryz.func91, Tryz.ntmps91
  go_wp2_with fail
  refine (HH.out _).mono ?_
  rintro e w1 ⟨rfl, hb1⟩
  have k1 := kept_trans (a := w) (by go_grown) hb1
  have X1 := Lib.hid (BoxR_kept HB.out hb1)
  have KW : BoxR (w1.alloc (.cells #[.int .i64 0, .int .i64 H] 163)) w1.heap.size [.int .i64 0, .int .i64 H] := BoxR_new' rfl
  have SOF := Lib.hid (show ∀ u, Below (w1.alloc (.cells #[.int .i64 0, .int .i64 H] 163)).heap.size (w1.alloc (.cells #[.int .i64 0, .int .i64 H] 163)) u → (fun w' => w'.cell? ⟨w.heap.size, 2, none⟩ = some (.int .i64 i2) ∧ w'.cell? ⟨w.heap.size, 3, none⟩ = some (.int .i64 i3) ∧ w'.cell? ⟨w.heap.size, 4, none⟩ = some (.int .i64 i4) ∧ w'.cell? ⟨w.heap.size, 5, none⟩ = some (.int .i64 i5) ∧ w'.cell? ⟨w1.heap.size, 0, none⟩ = some (.int .i64 0) ∧ w'.cell? ⟨w1.heap.size, 1, none⟩ = some (.int .i64 H)) u from fun u q => by
    have h := BoxR_kept (BoxR_up X1.out) q
    have h2 := BoxR_kept KW q
    exact ⟨h.2 2 _ rfl, h.2 3 _ rfl, h.2 4 _ rfl, h.2 5 _ rfl, h2.2 0 _ rfl, h2.2 1 _ rfl⟩)
  have K1 := Lib.hid k1
  clear k1 KW
  go_wp2_with fail
  go_region_held3 (fun w' => w'.cell? ⟨w.heap.size, 2, none⟩ = some (.int .i64 i2) ∧ w'.cell? ⟨w.heap.size, 3, none⟩ = some (.int .i64 i3) ∧ w'.cell? ⟨w.heap.size, 4, none⟩ = some (.int .i64 i4) ∧ w'.cell? ⟨w.heap.size, 5, none⟩ = some (.int .i64 i5) ∧ w'.cell? ⟨w1.heap.size, 0, none⟩ = some (.int .i64 0) ∧ w'.cell? ⟨w1.heap.size, 1, none⟩ = some (.int .i64 H)) (first | (refine SOF.out _ ?_; assumption) | (refine SOF.out _ (kept_trans q1 ?_); go_grown) | (refine SOF.out _ ?_; go_grown)) (first
    | (go_at_call 50; refine (HS.out _ (kept_trans K1.out (by go_grown))).mono ?_; rintro e v1 ⟨g, rfl, hg, h1⟩; have q1 := kept_trans (a := (w1.alloc (.cells #[.int .i64 0, .int .i64 H] 163))) (by go_grown) h1))
  go_wp2
  go_ret
  exact ⟨_, g, rfl, BoxR_new' rfl, BoxR_kept hg (by go_grown), kept_trans K1.out (kept_trans (by go_grown : Below w1.heap.size w1 (w1.alloc (.cells #[.int .i64 0, .int .i64 H] 163))) (kept_trans q1 (by go_grown)))⟩

set_option maxHeartbeats 4000000 in
theorem timeOf_any (b o : Nat) (k : Cr) (va vb vc vd : Int) (l : Lf) (c d : Value) (w : World) (h : CrAt w b o k c) (hd : RdI w d l.af) (hc : craneB k = true) (hf : fldB l = true) (hs : spB va vb vc vd = true) (hk : k.nm.size ≤ 1000000) (ht : VecTab w) :
    Calls Tryz.prog 49 #[.agg #[.string l.nm, .int .i64 l.wt, .int .i64 l.fx, .int .i64 l.fy, .int .i64 l.tx, .int .i64 l.ty, .int .i64 l.h, .int .i64 l.dl, d, .int .i64 va, .int .i64 vb, .int .i64 vc, .int .i64 vd], .pointer (some ⟨b, o, none⟩)] w fun e w' => e = .returned (.tuple #[.int .i64 (if can9 k l then liftN k va vb vc vd l else 0), .bool (can9 k l)]) ∧ Below w.heap.size w w' := by
  have g := spB_true hs
  have f := fldB_true hf
  have hcp := (craneB_true hc).1
  have HLL := Lib.hid (fun u (q : RdI u d l.af) => implAbleLoad_any l d u q)
  have HFX := Lib.hid (fun fb mb lb u (q1 : Below w.heap.size w u) (q2 : LfAt u lb 0 l d) (q3 : LfAt u mb 0 l d) hfb hfc => ableFn_any b o fb mb lb k l c d d u (CrAt_kept h q1) q2 q3 hfb hfc hc hf hk)
  have HCA := Lib.hid (fun u (q : Below w.heap.size w u) => carry_any b o k l c d u (CrAt_kept h q) (RdI_kept hd q) f.2.2.2.1 (VecTab_kept ht q))
  have bR : ∀ u v, okP u v = true → 0 ≤ (radL k.x k.y u v).1 ∧ (radL k.x k.y u v).1 ≤ 1000000 := fun u v h => by rw [show (radL k.x k.y u v).1 = distL k u v by simp [radL, distL, hcp, h]]; have := distL_bd hcp h; omega
  have hIS := fun u g2 g3 q2 q3 => inTurnSecs_any va vb vc vd g2 g3 (l.h + 30) (dirToL k.x k.y l.fx l.fy).1 (dirToL k.x k.y l.tx l.ty).1 (radL k.x k.y l.fx l.fy).1 (radL k.x k.y l.tx l.ty).1 (by omega) (bR _ _ f.2.1) (bR _ _ f.2.2.1) g.1 g.2.1 g.2.2.1 g.2.2.2 u q2 q3
  have hE : inT vd (upL (tiltL (l.h + 30 - 0)) vc) (max (max 0 (tiltL (turnBetweenL (dirToL k.x k.y l.fx l.fy).1 (dirToL k.x k.y l.tx l.ty).1).1 * va)) (upL (tiltL ((radL k.x k.y l.tx l.ty).1 - (radL k.x k.y l.fx l.fy).1)) vb)) 5 = liftN k va vb vc vd l := by
    rw [move_eq hcp f.2.1 f.2.2.1 g.1, show tiltL (l.h + 30 - 0) = l.h + 30 by unfold tiltL; omega]
    simp only [inT, liftN]
    omega
  rw [hE] at hIS
  have HIS := Lib.hid hIS
  clear hE bR hIS g f hcp
  obtain ⟨A2, cp2, rfl, _, _⟩ := RdI_slice hd
  have HD := Lib.hid hd
  clear h hd hc hf hs hk ht
  generalize can9 k l = r at *
  generalize liftX k l = X at *
  generalize liftN k va vb vc vd l = M at *
  generalize (dirToL k.x k.y l.fx l.fy).1 = D1 at *
  generalize (dirToL k.x k.y l.tx l.ty).1 = D2 at *
  generalize (radL k.x k.y l.fx l.fy).1 = R1 at *
  generalize (radL k.x k.y l.tx l.ty).1 = R2 at *
  obtain ⟨ls, i1, i2, i3, i4, i5, i6, i7, us⟩ := l
  dsimp only at *
  have KJ := Lib.hid (BoxR_new' (u := w) (t := 94) (arr := #[.string ls, .int .i64 i1, .int .i64 i2, .int .i64 i3, .int .i64 i4, .int .i64 i5, .int .i64 i6, .int .i64 i7, .slice A2 us.length cp2, .int .i64 va, .int .i64 vb, .int .i64 vc, .int .i64 vd]) (rfl : w.heap.size = w.heap.size))
  have HW0 : Hid (Below w.heap.size w (w.alloc (.cells #[.string ls, .int .i64 i1, .int .i64 i2, .int .i64 i3, .int .i64 i4, .int .i64 i5, .int .i64 i6, .int .i64 i7, .slice A2 us.length cp2, .int .i64 va, .int .i64 vb, .int .i64 vc, .int .i64 vd] 94))) := Lib.hid (by go_grown)
  cases r
  all_goals
    go_enter Tryz.func49, Tryz.ntmps49
    have k0 := Below.refl (w.alloc (.cells #[.string ls, .int .i64 i1, .int .i64 i2, .int .i64 i3, .int .i64 i4, .int .i64 i5, .int .i64 i6, .int .i64 i7, .slice A2 us.length cp2, .int .i64 va, .int .i64 vb, .int .i64 vc, .int .i64 vd] 94)).heap.size (w.alloc (.cells #[.string ls, .int .i64 i1, .int .i64 i2, .int .i64 i3, .int .i64 i4, .int .i64 i5, .int .i64 i6, .int .i64 i7, .slice A2 us.length cp2, .int .i64 va, .int .i64 vb, .int .i64 vc, .int .i64 vd] 94))
    go_wp2_with fail
    refine (HLL.out _ (RdI_kept HD.out HW0.out)).mono ?_
    rintro e w1 ⟨fb, mb, lb, rfl, hlb, hmb, hfb, hfc, k1⟩
    have HLB := Lib.hid hlb; clear hlb
    have HMB := Lib.hid hmb; clear hmb
    have HFC := Lib.hid hfc; clear hfc
    go_wp2_with fail
    refine (HFX.out fb mb lb _ (kept_trans HW0.out k1) HLB.out HMB.out hfb HFC.out).mono ?_
    rintro e w2 ⟨rfl, hb2⟩
    have k2 := kept_trans (a := (w.alloc (.cells #[.string ls, .int .i64 i1, .int .i64 i2, .int .i64 i3, .int .i64 i4, .int .i64 i5, .int .i64 i6, .int .i64 i7, .slice A2 us.length cp2, .int .i64 va, .int .i64 vb, .int .i64 vc, .int .i64 vd] 94))) k1 hb2
  · go_wp2
    go_ret2
    exact ⟨by simp, kept_trans HW0.out k2⟩
  · clear HLB HMB HFC HFX HLL hfb
    have SOF := Lib.hid (show ∀ u, Below w2.heap.size w2 u → (fun w' => w'.cell? ⟨w.heap.size, 0, none⟩ = some (.string ls) ∧ w'.cell? ⟨w.heap.size, 1, none⟩ = some (.int .i64 i1) ∧ w'.cell? ⟨w.heap.size, 2, none⟩ = some (.int .i64 i2) ∧ w'.cell? ⟨w.heap.size, 3, none⟩ = some (.int .i64 i3) ∧ w'.cell? ⟨w.heap.size, 4, none⟩ = some (.int .i64 i4) ∧ w'.cell? ⟨w.heap.size, 5, none⟩ = some (.int .i64 i5) ∧ w'.cell? ⟨w.heap.size, 6, none⟩ = some (.int .i64 i6) ∧ w'.cell? ⟨w.heap.size, 7, none⟩ = some (.int .i64 i7) ∧ w'.cell? ⟨w.heap.size, 8, none⟩ = some (.slice A2 us.length cp2) ∧ w'.cell? ⟨w.heap.size, 9, none⟩ = some (.int .i64 va) ∧ w'.cell? ⟨w.heap.size, 10, none⟩ = some (.int .i64 vb) ∧ w'.cell? ⟨w.heap.size, 11, none⟩ = some (.int .i64 vc) ∧ w'.cell? ⟨w.heap.size, 12, none⟩ = some (.int .i64 vd)) u from fun u q => by have h := BoxR_kept KJ.out (kept_trans k2 q); exact ⟨h.2 0 _ rfl, h.2 1 _ rfl, h.2 2 _ rfl, h.2 3 _ rfl, h.2 4 _ rfl, h.2 5 _ rfl, h.2 6 _ rfl, h.2 7 _ rfl, h.2 8 _ rfl, h.2 9 _ rfl, h.2 10 _ rfl, h.2 11 _ rfl, h.2 12 _ rfl⟩)
    have hrefl := Below.refl w2.heap.size w2
    go_wp2_with fail
    first
      | go_region_held3 (fun w' => w'.cell? ⟨w.heap.size, 0, none⟩ = some (.string ls) ∧ w'.cell? ⟨w.heap.size, 1, none⟩ = some (.int .i64 i1) ∧ w'.cell? ⟨w.heap.size, 2, none⟩ = some (.int .i64 i2) ∧ w'.cell? ⟨w.heap.size, 3, none⟩ = some (.int .i64 i3) ∧ w'.cell? ⟨w.heap.size, 4, none⟩ = some (.int .i64 i4) ∧ w'.cell? ⟨w.heap.size, 5, none⟩ = some (.int .i64 i5) ∧ w'.cell? ⟨w.heap.size, 6, none⟩ = some (.int .i64 i6) ∧ w'.cell? ⟨w.heap.size, 7, none⟩ = some (.int .i64 i7) ∧ w'.cell? ⟨w.heap.size, 8, none⟩ = some (.slice A2 us.length cp2) ∧ w'.cell? ⟨w.heap.size, 9, none⟩ = some (.int .i64 va) ∧ w'.cell? ⟨w.heap.size, 10, none⟩ = some (.int .i64 vb) ∧ w'.cell? ⟨w.heap.size, 11, none⟩ = some (.int .i64 vc) ∧ w'.cell? ⟨w.heap.size, 12, none⟩ = some (.int .i64 vd)) (first | (refine SOF.out _ ?_; assumption) | (refine SOF.out _ ?_; go_grown)) (first
          | (go_at_call 175; have pq := q1; refine (HIS.out _ g2 g3 hg2 hg3).mono ?_; rintro e v2 ⟨rfl, h2⟩; have q2 := kept_trans (a := w2) q1 h2)
          | (go_at_call 91; refine (HCA.out _ (kept_trans HW0.out (kept_trans k2 (by go_grown)))).mono ?_; rintro e v1 ⟨g2, g3, rfl, hg2, hg3, h1⟩; have q1 := kept_trans (a := w2) (by go_grown) h1))
      | fail
    go_wp2
    go_ret2
    exact ⟨by simp, kept_trans HW0.out (kept_trans k2 q2)⟩

set_option maxHeartbeats 4000000 in
theorem implJbT_any (k : Cr) (va vb vc vd : Int) (l : Lf) (u v : Int) (c d : Value) (w : World) (hr : RdP w c k.ch) (hd : RdI w d l.af) (hk : k.nm.size ≤ 1000000) (hl : l.nm.size ≤ 1000000) (ht : VecTab w) :
    Calls Tryz.prog 18 #[.agg #[.string k.nm, .int .i64 k.x, .int .i64 k.y, .int .i64 k.h, .int .i64 k.j, .int .i64 k.b, c], .agg #[.int .i64 va, .int .i64 vb, .int .i64 vc, .int .i64 vd], .agg #[.string l.nm, .int .i64 l.wt, .int .i64 l.fx, .int .i64 l.fy, .int .i64 l.tx, .int .i64 l.ty, .int .i64 l.h, .int .i64 l.dl, d], .agg #[.int .i64 u, .int .i64 v]] w fun e w' => e = .returned (.tuple #[.int .i64 (jobL k va vb vc vd l u v).1, .int .i64 (jobL k va vb vc vd l u v).2]) ∧ Below w.heap.size w w' := by
  have hA0 : CrAt ((((w.alloc (.cells #[.string k.nm, .int .i64 k.x, .int .i64 k.y, .int .i64 k.h, .int .i64 k.j, .int .i64 k.b, c] 39)).alloc (.cells #[.int .i64 va, .int .i64 vb, .int .i64 vc, .int .i64 vd] 41)).alloc (.cells #[.string l.nm, .int .i64 l.wt, .int .i64 l.fx, .int .i64 l.fy, .int .i64 l.tx, .int .i64 l.ty, .int .i64 l.h, .int .i64 l.dl, d] 44)).alloc (.cells #[.int .i64 u, .int .i64 v] 36)) w.heap.size 0 k c := CrAt_kept (CrAt_box k.nm k.x k.y k.h k.j k.b k.ch c w 39 hr) (by go_grown)
  have hL1 : LfAt (((w.alloc (.cells #[.string k.nm, .int .i64 k.x, .int .i64 k.y, .int .i64 k.h, .int .i64 k.j, .int .i64 k.b, c] 39)).alloc (.cells #[.int .i64 va, .int .i64 vb, .int .i64 vc, .int .i64 vd] 41)).alloc (.cells #[.string l.nm, .int .i64 l.wt, .int .i64 l.fx, .int .i64 l.fy, .int .i64 l.tx, .int .i64 l.ty, .int .i64 l.h, .int .i64 l.dl, d] 44)) (w.heap.size + 2) 0 l d := (by have := LfAt_box l.nm l.wt l.fx l.fy l.tx l.ty l.h l.dl l.af d ((w.alloc (.cells #[.string k.nm, .int .i64 k.x, .int .i64 k.y, .int .i64 k.h, .int .i64 k.j, .int .i64 k.b, c] 39)).alloc (.cells #[.int .i64 va, .int .i64 vb, .int .i64 vc, .int .i64 vd] 41)) 44 (RdI_kept hd (by go_grown)); simpa using this)
  have hL0 : LfAt ((((w.alloc (.cells #[.string k.nm, .int .i64 k.x, .int .i64 k.y, .int .i64 k.h, .int .i64 k.j, .int .i64 k.b, c] 39)).alloc (.cells #[.int .i64 va, .int .i64 vb, .int .i64 vc, .int .i64 vd] 41)).alloc (.cells #[.string l.nm, .int .i64 l.wt, .int .i64 l.fx, .int .i64 l.fy, .int .i64 l.tx, .int .i64 l.ty, .int .i64 l.h, .int .i64 l.dl, d] 44)).alloc (.cells #[.int .i64 u, .int .i64 v] 36)) (w.heap.size + 2) 0 l d := LfAt_kept hL1 (by first | exact Below.refl _ _ | go_grown)
  have KV : BoxR ((((w.alloc (.cells #[.string k.nm, .int .i64 k.x, .int .i64 k.y, .int .i64 k.h, .int .i64 k.j, .int .i64 k.b, c] 39)).alloc (.cells #[.int .i64 va, .int .i64 vb, .int .i64 vc, .int .i64 vd] 41)).alloc (.cells #[.string l.nm, .int .i64 l.wt, .int .i64 l.fx, .int .i64 l.fy, .int .i64 l.tx, .int .i64 l.ty, .int .i64 l.h, .int .i64 l.dl, d] 44)).alloc (.cells #[.int .i64 u, .int .i64 v] 36)) (w.heap.size + 1) [.int .i64 va, .int .i64 vb, .int .i64 vc, .int .i64 vd] := BoxR_up (BoxR_up (BoxR_new' (by simp)))
  have KP : BoxR ((((w.alloc (.cells #[.string k.nm, .int .i64 k.x, .int .i64 k.y, .int .i64 k.h, .int .i64 k.j, .int .i64 k.b, c] 39)).alloc (.cells #[.int .i64 va, .int .i64 vb, .int .i64 vc, .int .i64 vd] 41)).alloc (.cells #[.string l.nm, .int .i64 l.wt, .int .i64 l.fx, .int .i64 l.fy, .int .i64 l.tx, .int .i64 l.ty, .int .i64 l.h, .int .i64 l.dl, d] 44)).alloc (.cells #[.int .i64 u, .int .i64 v] 36)) (w.heap.size + 3) [.int .i64 u, .int .i64 v] := BoxR_new' (by simp)
  have hKW : Below w.heap.size w ((((w.alloc (.cells #[.string k.nm, .int .i64 k.x, .int .i64 k.y, .int .i64 k.h, .int .i64 k.j, .int .i64 k.b, c] 39)).alloc (.cells #[.int .i64 va, .int .i64 vb, .int .i64 vc, .int .i64 vd] 41)).alloc (.cells #[.string l.nm, .int .i64 l.wt, .int .i64 l.fx, .int .i64 l.fy, .int .i64 l.tx, .int .i64 l.ty, .int .i64 l.h, .int .i64 l.dl, d] 44)).alloc (.cells #[.int .i64 u, .int .i64 v] 36)) := by go_grown
  have H0 := Lib.hid (fun z (q : Below ((((w.alloc (.cells #[.string k.nm, .int .i64 k.x, .int .i64 k.y, .int .i64 k.h, .int .i64 k.j, .int .i64 k.b, c] 39)).alloc (.cells #[.int .i64 va, .int .i64 vb, .int .i64 vc, .int .i64 vd] 41)).alloc (.cells #[.string l.nm, .int .i64 l.wt, .int .i64 l.fx, .int .i64 l.fy, .int .i64 l.tx, .int .i64 l.ty, .int .i64 l.h, .int .i64 l.dl, d] 44)).alloc (.cells #[.int .i64 u, .int .i64 v] 36)).heap.size ((((w.alloc (.cells #[.string k.nm, .int .i64 k.x, .int .i64 k.y, .int .i64 k.h, .int .i64 k.j, .int .i64 k.b, c] 39)).alloc (.cells #[.int .i64 va, .int .i64 vb, .int .i64 vc, .int .i64 vd] 41)).alloc (.cells #[.string l.nm, .int .i64 l.wt, .int .i64 l.fx, .int .i64 l.fy, .int .i64 l.tx, .int .i64 l.ty, .int .i64 l.h, .int .i64 l.dl, d] 44)).alloc (.cells #[.int .i64 u, .int .i64 v] 36)) z) => implCrane_any k c z (RdP_kept hr (kept_trans hKW q)) hk)
  have H1 := Lib.hid (fun z (_ : Below ((((w.alloc (.cells #[.string k.nm, .int .i64 k.x, .int .i64 k.y, .int .i64 k.h, .int .i64 k.j, .int .i64 k.b, c] 39)).alloc (.cells #[.int .i64 va, .int .i64 vb, .int .i64 vc, .int .i64 vd] 41)).alloc (.cells #[.string l.nm, .int .i64 l.wt, .int .i64 l.fx, .int .i64 l.fy, .int .i64 l.tx, .int .i64 l.ty, .int .i64 l.h, .int .i64 l.dl, d] 44)).alloc (.cells #[.int .i64 u, .int .i64 v] 36)).heap.size ((((w.alloc (.cells #[.string k.nm, .int .i64 k.x, .int .i64 k.y, .int .i64 k.h, .int .i64 k.j, .int .i64 k.b, c] 39)).alloc (.cells #[.int .i64 va, .int .i64 vb, .int .i64 vc, .int .i64 vd] 41)).alloc (.cells #[.string l.nm, .int .i64 l.wt, .int .i64 l.fx, .int .i64 l.fy, .int .i64 l.tx, .int .i64 l.ty, .int .i64 l.h, .int .i64 l.dl, d] 44)).alloc (.cells #[.int .i64 u, .int .i64 v] 36)) z) => implVSp_any va vb vc vd z)
  have H2 := Lib.hid (fun z (q : Below ((((w.alloc (.cells #[.string k.nm, .int .i64 k.x, .int .i64 k.y, .int .i64 k.h, .int .i64 k.j, .int .i64 k.b, c] 39)).alloc (.cells #[.int .i64 va, .int .i64 vb, .int .i64 vc, .int .i64 vd] 41)).alloc (.cells #[.string l.nm, .int .i64 l.wt, .int .i64 l.fx, .int .i64 l.fy, .int .i64 l.tx, .int .i64 l.ty, .int .i64 l.h, .int .i64 l.dl, d] 44)).alloc (.cells #[.int .i64 u, .int .i64 v] 36)).heap.size ((((w.alloc (.cells #[.string k.nm, .int .i64 k.x, .int .i64 k.y, .int .i64 k.h, .int .i64 k.j, .int .i64 k.b, c] 39)).alloc (.cells #[.int .i64 va, .int .i64 vb, .int .i64 vc, .int .i64 vd] 41)).alloc (.cells #[.string l.nm, .int .i64 l.wt, .int .i64 l.fx, .int .i64 l.fy, .int .i64 l.tx, .int .i64 l.ty, .int .i64 l.h, .int .i64 l.dl, d] 44)).alloc (.cells #[.int .i64 u, .int .i64 v] 36)) z) => implPlain_any l d z (RdI_kept hd (kept_trans hKW q)) hl)
  have H3 := Lib.hid (fun z (_ : Below ((((w.alloc (.cells #[.string k.nm, .int .i64 k.x, .int .i64 k.y, .int .i64 k.h, .int .i64 k.j, .int .i64 k.b, c] 39)).alloc (.cells #[.int .i64 va, .int .i64 vb, .int .i64 vc, .int .i64 vd] 41)).alloc (.cells #[.string l.nm, .int .i64 l.wt, .int .i64 l.fx, .int .i64 l.fy, .int .i64 l.tx, .int .i64 l.ty, .int .i64 l.h, .int .i64 l.dl, d] 44)).alloc (.cells #[.int .i64 u, .int .i64 v] 36)).heap.size ((((w.alloc (.cells #[.string k.nm, .int .i64 k.x, .int .i64 k.y, .int .i64 k.h, .int .i64 k.j, .int .i64 k.b, c] 39)).alloc (.cells #[.int .i64 va, .int .i64 vb, .int .i64 vc, .int .i64 vd] 41)).alloc (.cells #[.string l.nm, .int .i64 l.wt, .int .i64 l.fx, .int .i64 l.fy, .int .i64 l.tx, .int .i64 l.ty, .int .i64 l.h, .int .i64 l.dl, d] 44)).alloc (.cells #[.int .i64 u, .int .i64 v] 36)) z) => validPlace_any u v z)
  have HTO := Lib.hid (fun z (q : Below ((((w.alloc (.cells #[.string k.nm, .int .i64 k.x, .int .i64 k.y, .int .i64 k.h, .int .i64 k.j, .int .i64 k.b, c] 39)).alloc (.cells #[.int .i64 va, .int .i64 vb, .int .i64 vc, .int .i64 vd] 41)).alloc (.cells #[.string l.nm, .int .i64 l.wt, .int .i64 l.fx, .int .i64 l.fy, .int .i64 l.tx, .int .i64 l.ty, .int .i64 l.h, .int .i64 l.dl, d] 44)).alloc (.cells #[.int .i64 u, .int .i64 v] 36)).heap.size ((((w.alloc (.cells #[.string k.nm, .int .i64 k.x, .int .i64 k.y, .int .i64 k.h, .int .i64 k.j, .int .i64 k.b, c] 39)).alloc (.cells #[.int .i64 va, .int .i64 vb, .int .i64 vc, .int .i64 vd] 41)).alloc (.cells #[.string l.nm, .int .i64 l.wt, .int .i64 l.fx, .int .i64 l.fy, .int .i64 l.tx, .int .i64 l.ty, .int .i64 l.h, .int .i64 l.dl, d] 44)).alloc (.cells #[.int .i64 u, .int .i64 v] 36)) z) hc hf hs => timeOf_any w.heap.size 0 k va vb vc vd l c d z (CrAt_kept hA0 q) (RdI_kept hd (kept_trans hKW q)) hc hf hs hk (VecTab_kept ht (kept_trans hKW q)))
  have HSW := Lib.hid (fun z (q : Below ((((w.alloc (.cells #[.string k.nm, .int .i64 k.x, .int .i64 k.y, .int .i64 k.h, .int .i64 k.j, .int .i64 k.b, c] 39)).alloc (.cells #[.int .i64 va, .int .i64 vb, .int .i64 vc, .int .i64 vd] 41)).alloc (.cells #[.string l.nm, .int .i64 l.wt, .int .i64 l.fx, .int .i64 l.fy, .int .i64 l.tx, .int .i64 l.ty, .int .i64 l.h, .int .i64 l.dl, d] 44)).alloc (.cells #[.int .i64 u, .int .i64 v] 36)).heap.size ((((w.alloc (.cells #[.string k.nm, .int .i64 k.x, .int .i64 k.y, .int .i64 k.h, .int .i64 k.j, .int .i64 k.b, c] 39)).alloc (.cells #[.int .i64 va, .int .i64 vb, .int .i64 vc, .int .i64 vd] 41)).alloc (.cells #[.string l.nm, .int .i64 l.wt, .int .i64 l.fx, .int .i64 l.fy, .int .i64 l.tx, .int .i64 l.ty, .int .i64 l.h, .int .i64 l.dl, d] 44)).alloc (.cells #[.int .i64 u, .int .i64 v] 36)) z) => swing_any w.heap.size 0 k u v l.fx l.fy c z (CrAt_kept hA0 q) (VecTab_kept ht (kept_trans hKW q)))
  have RF := Lib.hid (fun z (q : Below ((((w.alloc (.cells #[.string k.nm, .int .i64 k.x, .int .i64 k.y, .int .i64 k.h, .int .i64 k.j, .int .i64 k.b, c] 39)).alloc (.cells #[.int .i64 va, .int .i64 vb, .int .i64 vc, .int .i64 vd] 41)).alloc (.cells #[.string l.nm, .int .i64 l.wt, .int .i64 l.fx, .int .i64 l.fy, .int .i64 l.tx, .int .i64 l.ty, .int .i64 l.h, .int .i64 l.dl, d] 44)).alloc (.cells #[.int .i64 u, .int .i64 v] 36)).heap.size ((((w.alloc (.cells #[.string k.nm, .int .i64 k.x, .int .i64 k.y, .int .i64 k.h, .int .i64 k.j, .int .i64 k.b, c] 39)).alloc (.cells #[.int .i64 va, .int .i64 vb, .int .i64 vc, .int .i64 vd] 41)).alloc (.cells #[.string l.nm, .int .i64 l.wt, .int .i64 l.fx, .int .i64 l.fy, .int .i64 l.tx, .int .i64 l.ty, .int .i64 l.h, .int .i64 l.dl, d] 44)).alloc (.cells #[.int .i64 u, .int .i64 v] 36)) z) => And.intro (BoxR_kept KV q).2 (And.intro (BoxR_kept KP q).2 (LfAt_kept hL0 q).2.1))
  obtain ⟨A, cp, rfl, _, _⟩ := RdP_slice hr
  obtain ⟨A2, cp2, rfl, _, _⟩ := RdI_slice hd
  clear hr hd hA0 hL0 hL1 KV KP ht hKW
  have eM : jobL k va vb vc vd l u v = if craneB k && spB va vb vc vd && fldB l && okP u v then (if can9 k l then (moveN k va vb u v l.fx l.fy + liftN k va vb vc vd l, 0) else (0, 6)) else (0, 1) := rfl
  rw [eM]
  clear eM
  have HW0 : Hid (Below w.heap.size w ((((w.alloc (.cells #[.string k.nm, .int .i64 k.x, .int .i64 k.y, .int .i64 k.h, .int .i64 k.j, .int .i64 k.b, .slice A k.ch.length cp] 39)).alloc (.cells #[.int .i64 va, .int .i64 vb, .int .i64 vc, .int .i64 vd] 41)).alloc (.cells #[.string l.nm, .int .i64 l.wt, .int .i64 l.fx, .int .i64 l.fy, .int .i64 l.tx, .int .i64 l.ty, .int .i64 l.h, .int .i64 l.dl, .slice A2 l.af.length cp2] 44)).alloc (.cells #[.int .i64 u, .int .i64 v] 36))) := Lib.hid (by go_grown)
  cases p0 : craneB k <;> rw [p0] at H0
  · simp only [Bool.true_and, Bool.and_true, Bool.false_and, Bool.and_false, Bool.false_eq_true, if_false, if_true]
    obtain ⟨s, x, y, hh, j, b, zs⟩ := k
    obtain ⟨ls, i1, i2, i3, i4, i5, i6, i7, us⟩ := l
    dsimp only at *
    go_enter Tryz.func18, Tryz.ntmps18
    have k0 := Below.refl ((((w.alloc (.cells #[.string s, .int .i64 x, .int .i64 y, .int .i64 hh, .int .i64 j, .int .i64 b, .slice A zs.length cp] 39)).alloc (.cells #[.int .i64 va, .int .i64 vb, .int .i64 vc, .int .i64 vd] 41)).alloc (.cells #[.string ls, .int .i64 i1, .int .i64 i2, .int .i64 i3, .int .i64 i4, .int .i64 i5, .int .i64 i6, .int .i64 i7, .slice A2 us.length cp2] 44)).alloc (.cells #[.int .i64 u, .int .i64 v] 36)).heap.size ((((w.alloc (.cells #[.string s, .int .i64 x, .int .i64 y, .int .i64 hh, .int .i64 j, .int .i64 b, .slice A zs.length cp] 39)).alloc (.cells #[.int .i64 va, .int .i64 vb, .int .i64 vc, .int .i64 vd] 41)).alloc (.cells #[.string ls, .int .i64 i1, .int .i64 i2, .int .i64 i3, .int .i64 i4, .int .i64 i5, .int .i64 i6, .int .i64 i7, .slice A2 us.length cp2] 44)).alloc (.cells #[.int .i64 u, .int .i64 v] 36))
    go_wp2_with fail
    refine (H0.out _ k0).mono ?_
    rintro e w1 ⟨rfl, hb1⟩
    have k1 := kept_trans (a := ((((w.alloc (.cells #[.string s, .int .i64 x, .int .i64 y, .int .i64 hh, .int .i64 j, .int .i64 b, .slice A zs.length cp] 39)).alloc (.cells #[.int .i64 va, .int .i64 vb, .int .i64 vc, .int .i64 vd] 41)).alloc (.cells #[.string ls, .int .i64 i1, .int .i64 i2, .int .i64 i3, .int .i64 i4, .int .i64 i5, .int .i64 i6, .int .i64 i7, .slice A2 us.length cp2] 44)).alloc (.cells #[.int .i64 u, .int .i64 v] 36))) k0 hb1
    go_wp2
    go_ret2
    exact ⟨rfl, kept_trans HW0.out k1⟩
  cases p1 : spB va vb vc vd <;> rw [p1] at H1
  · simp only [Bool.true_and, Bool.and_true, Bool.false_and, Bool.and_false, Bool.false_eq_true, if_false, if_true]
    obtain ⟨s, x, y, hh, j, b, zs⟩ := k
    obtain ⟨ls, i1, i2, i3, i4, i5, i6, i7, us⟩ := l
    dsimp only at *
    go_enter Tryz.func18, Tryz.ntmps18
    have k0 := Below.refl ((((w.alloc (.cells #[.string s, .int .i64 x, .int .i64 y, .int .i64 hh, .int .i64 j, .int .i64 b, .slice A zs.length cp] 39)).alloc (.cells #[.int .i64 va, .int .i64 vb, .int .i64 vc, .int .i64 vd] 41)).alloc (.cells #[.string ls, .int .i64 i1, .int .i64 i2, .int .i64 i3, .int .i64 i4, .int .i64 i5, .int .i64 i6, .int .i64 i7, .slice A2 us.length cp2] 44)).alloc (.cells #[.int .i64 u, .int .i64 v] 36)).heap.size ((((w.alloc (.cells #[.string s, .int .i64 x, .int .i64 y, .int .i64 hh, .int .i64 j, .int .i64 b, .slice A zs.length cp] 39)).alloc (.cells #[.int .i64 va, .int .i64 vb, .int .i64 vc, .int .i64 vd] 41)).alloc (.cells #[.string ls, .int .i64 i1, .int .i64 i2, .int .i64 i3, .int .i64 i4, .int .i64 i5, .int .i64 i6, .int .i64 i7, .slice A2 us.length cp2] 44)).alloc (.cells #[.int .i64 u, .int .i64 v] 36))
    go_wp2_with fail
    refine (H0.out _ k0).mono ?_
    rintro e w1 ⟨rfl, hb1⟩
    have k1 := kept_trans (a := ((((w.alloc (.cells #[.string s, .int .i64 x, .int .i64 y, .int .i64 hh, .int .i64 j, .int .i64 b, .slice A zs.length cp] 39)).alloc (.cells #[.int .i64 va, .int .i64 vb, .int .i64 vc, .int .i64 vd] 41)).alloc (.cells #[.string ls, .int .i64 i1, .int .i64 i2, .int .i64 i3, .int .i64 i4, .int .i64 i5, .int .i64 i6, .int .i64 i7, .slice A2 us.length cp2] 44)).alloc (.cells #[.int .i64 u, .int .i64 v] 36))) k0 hb1
    have lv0 : w1.cell? ⟨w.heap.size + 1, 0, none⟩ = some (.int .i64 va) := (RF.out _ k1).1 0 _ rfl
    have lv1 : w1.cell? ⟨w.heap.size + 1, 1, none⟩ = some (.int .i64 vb) := (RF.out _ k1).1 1 _ rfl
    have lv2 : w1.cell? ⟨w.heap.size + 1, 2, none⟩ = some (.int .i64 vc) := (RF.out _ k1).1 2 _ rfl
    have lv3 : w1.cell? ⟨w.heap.size + 1, 3, none⟩ = some (.int .i64 vd) := (RF.out _ k1).1 3 _ rfl
    have lp0 : w1.cell? ⟨w.heap.size + 1 + 1 + 1, 0, none⟩ = some (.int .i64 u) := (RF.out _ k1).2.1 0 _ rfl
    have lp1 : w1.cell? ⟨w.heap.size + 1 + 1 + 1, 1, none⟩ = some (.int .i64 v) := (RF.out _ k1).2.1 1 _ rfl
    have ll0 : w1.cell? ⟨w.heap.size + 1 + 1, 0, none⟩ = some (.string ls) := by simpa using (RF.out _ k1).2.2.1
    have ll1 : w1.cell? ⟨w.heap.size + 1 + 1, 1, none⟩ = some (.int .i64 i1) := by simpa using (RF.out _ k1).2.2.2.1
    have ll2 : w1.cell? ⟨w.heap.size + 1 + 1, 2, none⟩ = some (.int .i64 i2) := by simpa using (RF.out _ k1).2.2.2.2.1
    have ll3 : w1.cell? ⟨w.heap.size + 1 + 1, 3, none⟩ = some (.int .i64 i3) := by simpa using (RF.out _ k1).2.2.2.2.2.1
    have ll4 : w1.cell? ⟨w.heap.size + 1 + 1, 4, none⟩ = some (.int .i64 i4) := by simpa using (RF.out _ k1).2.2.2.2.2.2.1
    have ll5 : w1.cell? ⟨w.heap.size + 1 + 1, 5, none⟩ = some (.int .i64 i5) := by simpa using (RF.out _ k1).2.2.2.2.2.2.2.1
    have ll6 : w1.cell? ⟨w.heap.size + 1 + 1, 6, none⟩ = some (.int .i64 i6) := by simpa using (RF.out _ k1).2.2.2.2.2.2.2.2.1
    have ll7 : w1.cell? ⟨w.heap.size + 1 + 1, 7, none⟩ = some (.int .i64 i7) := by simpa using (RF.out _ k1).2.2.2.2.2.2.2.2.2.1
    have ll8 : w1.cell? ⟨w.heap.size + 1 + 1, 8, none⟩ = some (.slice A2 us.length cp2) := by simpa using (RF.out _ k1).2.2.2.2.2.2.2.2.2.2
    go_wp2_with fail
    refine (H1.out _ k1).mono ?_
    rintro e w2 ⟨rfl, hb2⟩
    have k2 := kept_trans (a := ((((w.alloc (.cells #[.string s, .int .i64 x, .int .i64 y, .int .i64 hh, .int .i64 j, .int .i64 b, .slice A zs.length cp] 39)).alloc (.cells #[.int .i64 va, .int .i64 vb, .int .i64 vc, .int .i64 vd] 41)).alloc (.cells #[.string ls, .int .i64 i1, .int .i64 i2, .int .i64 i3, .int .i64 i4, .int .i64 i5, .int .i64 i6, .int .i64 i7, .slice A2 us.length cp2] 44)).alloc (.cells #[.int .i64 u, .int .i64 v] 36))) k1 hb2
    clear lv0 lv1 lv2 lv3 lp0 lp1 ll0 ll1 ll2 ll3 ll4 ll5 ll6 ll7 ll8
    go_wp2
    go_ret2
    exact ⟨rfl, kept_trans HW0.out k2⟩
  cases p2 : fldB l <;> rw [p2] at H2
  · simp only [Bool.true_and, Bool.and_true, Bool.false_and, Bool.and_false, Bool.false_eq_true, if_false, if_true]
    obtain ⟨s, x, y, hh, j, b, zs⟩ := k
    obtain ⟨ls, i1, i2, i3, i4, i5, i6, i7, us⟩ := l
    dsimp only at *
    go_enter Tryz.func18, Tryz.ntmps18
    have k0 := Below.refl ((((w.alloc (.cells #[.string s, .int .i64 x, .int .i64 y, .int .i64 hh, .int .i64 j, .int .i64 b, .slice A zs.length cp] 39)).alloc (.cells #[.int .i64 va, .int .i64 vb, .int .i64 vc, .int .i64 vd] 41)).alloc (.cells #[.string ls, .int .i64 i1, .int .i64 i2, .int .i64 i3, .int .i64 i4, .int .i64 i5, .int .i64 i6, .int .i64 i7, .slice A2 us.length cp2] 44)).alloc (.cells #[.int .i64 u, .int .i64 v] 36)).heap.size ((((w.alloc (.cells #[.string s, .int .i64 x, .int .i64 y, .int .i64 hh, .int .i64 j, .int .i64 b, .slice A zs.length cp] 39)).alloc (.cells #[.int .i64 va, .int .i64 vb, .int .i64 vc, .int .i64 vd] 41)).alloc (.cells #[.string ls, .int .i64 i1, .int .i64 i2, .int .i64 i3, .int .i64 i4, .int .i64 i5, .int .i64 i6, .int .i64 i7, .slice A2 us.length cp2] 44)).alloc (.cells #[.int .i64 u, .int .i64 v] 36))
    go_wp2_with fail
    refine (H0.out _ k0).mono ?_
    rintro e w1 ⟨rfl, hb1⟩
    have k1 := kept_trans (a := ((((w.alloc (.cells #[.string s, .int .i64 x, .int .i64 y, .int .i64 hh, .int .i64 j, .int .i64 b, .slice A zs.length cp] 39)).alloc (.cells #[.int .i64 va, .int .i64 vb, .int .i64 vc, .int .i64 vd] 41)).alloc (.cells #[.string ls, .int .i64 i1, .int .i64 i2, .int .i64 i3, .int .i64 i4, .int .i64 i5, .int .i64 i6, .int .i64 i7, .slice A2 us.length cp2] 44)).alloc (.cells #[.int .i64 u, .int .i64 v] 36))) k0 hb1
    have lv0 : w1.cell? ⟨w.heap.size + 1, 0, none⟩ = some (.int .i64 va) := (RF.out _ k1).1 0 _ rfl
    have lv1 : w1.cell? ⟨w.heap.size + 1, 1, none⟩ = some (.int .i64 vb) := (RF.out _ k1).1 1 _ rfl
    have lv2 : w1.cell? ⟨w.heap.size + 1, 2, none⟩ = some (.int .i64 vc) := (RF.out _ k1).1 2 _ rfl
    have lv3 : w1.cell? ⟨w.heap.size + 1, 3, none⟩ = some (.int .i64 vd) := (RF.out _ k1).1 3 _ rfl
    have lp0 : w1.cell? ⟨w.heap.size + 1 + 1 + 1, 0, none⟩ = some (.int .i64 u) := (RF.out _ k1).2.1 0 _ rfl
    have lp1 : w1.cell? ⟨w.heap.size + 1 + 1 + 1, 1, none⟩ = some (.int .i64 v) := (RF.out _ k1).2.1 1 _ rfl
    have ll0 : w1.cell? ⟨w.heap.size + 1 + 1, 0, none⟩ = some (.string ls) := by simpa using (RF.out _ k1).2.2.1
    have ll1 : w1.cell? ⟨w.heap.size + 1 + 1, 1, none⟩ = some (.int .i64 i1) := by simpa using (RF.out _ k1).2.2.2.1
    have ll2 : w1.cell? ⟨w.heap.size + 1 + 1, 2, none⟩ = some (.int .i64 i2) := by simpa using (RF.out _ k1).2.2.2.2.1
    have ll3 : w1.cell? ⟨w.heap.size + 1 + 1, 3, none⟩ = some (.int .i64 i3) := by simpa using (RF.out _ k1).2.2.2.2.2.1
    have ll4 : w1.cell? ⟨w.heap.size + 1 + 1, 4, none⟩ = some (.int .i64 i4) := by simpa using (RF.out _ k1).2.2.2.2.2.2.1
    have ll5 : w1.cell? ⟨w.heap.size + 1 + 1, 5, none⟩ = some (.int .i64 i5) := by simpa using (RF.out _ k1).2.2.2.2.2.2.2.1
    have ll6 : w1.cell? ⟨w.heap.size + 1 + 1, 6, none⟩ = some (.int .i64 i6) := by simpa using (RF.out _ k1).2.2.2.2.2.2.2.2.1
    have ll7 : w1.cell? ⟨w.heap.size + 1 + 1, 7, none⟩ = some (.int .i64 i7) := by simpa using (RF.out _ k1).2.2.2.2.2.2.2.2.2.1
    have ll8 : w1.cell? ⟨w.heap.size + 1 + 1, 8, none⟩ = some (.slice A2 us.length cp2) := by simpa using (RF.out _ k1).2.2.2.2.2.2.2.2.2.2
    go_wp2_with fail
    refine (H1.out _ k1).mono ?_
    rintro e w2 ⟨rfl, hb2⟩
    have k2 := kept_trans (a := ((((w.alloc (.cells #[.string s, .int .i64 x, .int .i64 y, .int .i64 hh, .int .i64 j, .int .i64 b, .slice A zs.length cp] 39)).alloc (.cells #[.int .i64 va, .int .i64 vb, .int .i64 vc, .int .i64 vd] 41)).alloc (.cells #[.string ls, .int .i64 i1, .int .i64 i2, .int .i64 i3, .int .i64 i4, .int .i64 i5, .int .i64 i6, .int .i64 i7, .slice A2 us.length cp2] 44)).alloc (.cells #[.int .i64 u, .int .i64 v] 36))) k1 hb2
    clear lv0 lv1 lv2 lv3 lp0 lp1 ll0 ll1 ll2 ll3 ll4 ll5 ll6 ll7 ll8
    have lv0 : w2.cell? ⟨w.heap.size + 1, 0, none⟩ = some (.int .i64 va) := (RF.out _ k2).1 0 _ rfl
    have lv1 : w2.cell? ⟨w.heap.size + 1, 1, none⟩ = some (.int .i64 vb) := (RF.out _ k2).1 1 _ rfl
    have lv2 : w2.cell? ⟨w.heap.size + 1, 2, none⟩ = some (.int .i64 vc) := (RF.out _ k2).1 2 _ rfl
    have lv3 : w2.cell? ⟨w.heap.size + 1, 3, none⟩ = some (.int .i64 vd) := (RF.out _ k2).1 3 _ rfl
    have lp0 : w2.cell? ⟨w.heap.size + 1 + 1 + 1, 0, none⟩ = some (.int .i64 u) := (RF.out _ k2).2.1 0 _ rfl
    have lp1 : w2.cell? ⟨w.heap.size + 1 + 1 + 1, 1, none⟩ = some (.int .i64 v) := (RF.out _ k2).2.1 1 _ rfl
    have ll0 : w2.cell? ⟨w.heap.size + 1 + 1, 0, none⟩ = some (.string ls) := by simpa using (RF.out _ k2).2.2.1
    have ll1 : w2.cell? ⟨w.heap.size + 1 + 1, 1, none⟩ = some (.int .i64 i1) := by simpa using (RF.out _ k2).2.2.2.1
    have ll2 : w2.cell? ⟨w.heap.size + 1 + 1, 2, none⟩ = some (.int .i64 i2) := by simpa using (RF.out _ k2).2.2.2.2.1
    have ll3 : w2.cell? ⟨w.heap.size + 1 + 1, 3, none⟩ = some (.int .i64 i3) := by simpa using (RF.out _ k2).2.2.2.2.2.1
    have ll4 : w2.cell? ⟨w.heap.size + 1 + 1, 4, none⟩ = some (.int .i64 i4) := by simpa using (RF.out _ k2).2.2.2.2.2.2.1
    have ll5 : w2.cell? ⟨w.heap.size + 1 + 1, 5, none⟩ = some (.int .i64 i5) := by simpa using (RF.out _ k2).2.2.2.2.2.2.2.1
    have ll6 : w2.cell? ⟨w.heap.size + 1 + 1, 6, none⟩ = some (.int .i64 i6) := by simpa using (RF.out _ k2).2.2.2.2.2.2.2.2.1
    have ll7 : w2.cell? ⟨w.heap.size + 1 + 1, 7, none⟩ = some (.int .i64 i7) := by simpa using (RF.out _ k2).2.2.2.2.2.2.2.2.2.1
    have ll8 : w2.cell? ⟨w.heap.size + 1 + 1, 8, none⟩ = some (.slice A2 us.length cp2) := by simpa using (RF.out _ k2).2.2.2.2.2.2.2.2.2.2
    go_wp2_with fail
    refine (H2.out _ k2).mono ?_
    rintro e w3 ⟨rfl, hb3⟩
    have k3 := kept_trans (a := ((((w.alloc (.cells #[.string s, .int .i64 x, .int .i64 y, .int .i64 hh, .int .i64 j, .int .i64 b, .slice A zs.length cp] 39)).alloc (.cells #[.int .i64 va, .int .i64 vb, .int .i64 vc, .int .i64 vd] 41)).alloc (.cells #[.string ls, .int .i64 i1, .int .i64 i2, .int .i64 i3, .int .i64 i4, .int .i64 i5, .int .i64 i6, .int .i64 i7, .slice A2 us.length cp2] 44)).alloc (.cells #[.int .i64 u, .int .i64 v] 36))) k2 hb3
    clear lv0 lv1 lv2 lv3 lp0 lp1 ll0 ll1 ll2 ll3 ll4 ll5 ll6 ll7 ll8
    go_wp2
    go_ret2
    exact ⟨rfl, kept_trans HW0.out k3⟩
  cases p3 : okP u v <;> rw [p3] at H3
  · simp only [Bool.true_and, Bool.and_true, Bool.false_and, Bool.and_false, Bool.false_eq_true, if_false, if_true]
    obtain ⟨s, x, y, hh, j, b, zs⟩ := k
    obtain ⟨ls, i1, i2, i3, i4, i5, i6, i7, us⟩ := l
    dsimp only at *
    go_enter Tryz.func18, Tryz.ntmps18
    have k0 := Below.refl ((((w.alloc (.cells #[.string s, .int .i64 x, .int .i64 y, .int .i64 hh, .int .i64 j, .int .i64 b, .slice A zs.length cp] 39)).alloc (.cells #[.int .i64 va, .int .i64 vb, .int .i64 vc, .int .i64 vd] 41)).alloc (.cells #[.string ls, .int .i64 i1, .int .i64 i2, .int .i64 i3, .int .i64 i4, .int .i64 i5, .int .i64 i6, .int .i64 i7, .slice A2 us.length cp2] 44)).alloc (.cells #[.int .i64 u, .int .i64 v] 36)).heap.size ((((w.alloc (.cells #[.string s, .int .i64 x, .int .i64 y, .int .i64 hh, .int .i64 j, .int .i64 b, .slice A zs.length cp] 39)).alloc (.cells #[.int .i64 va, .int .i64 vb, .int .i64 vc, .int .i64 vd] 41)).alloc (.cells #[.string ls, .int .i64 i1, .int .i64 i2, .int .i64 i3, .int .i64 i4, .int .i64 i5, .int .i64 i6, .int .i64 i7, .slice A2 us.length cp2] 44)).alloc (.cells #[.int .i64 u, .int .i64 v] 36))
    go_wp2_with fail
    refine (H0.out _ k0).mono ?_
    rintro e w1 ⟨rfl, hb1⟩
    have k1 := kept_trans (a := ((((w.alloc (.cells #[.string s, .int .i64 x, .int .i64 y, .int .i64 hh, .int .i64 j, .int .i64 b, .slice A zs.length cp] 39)).alloc (.cells #[.int .i64 va, .int .i64 vb, .int .i64 vc, .int .i64 vd] 41)).alloc (.cells #[.string ls, .int .i64 i1, .int .i64 i2, .int .i64 i3, .int .i64 i4, .int .i64 i5, .int .i64 i6, .int .i64 i7, .slice A2 us.length cp2] 44)).alloc (.cells #[.int .i64 u, .int .i64 v] 36))) k0 hb1
    have lv0 : w1.cell? ⟨w.heap.size + 1, 0, none⟩ = some (.int .i64 va) := (RF.out _ k1).1 0 _ rfl
    have lv1 : w1.cell? ⟨w.heap.size + 1, 1, none⟩ = some (.int .i64 vb) := (RF.out _ k1).1 1 _ rfl
    have lv2 : w1.cell? ⟨w.heap.size + 1, 2, none⟩ = some (.int .i64 vc) := (RF.out _ k1).1 2 _ rfl
    have lv3 : w1.cell? ⟨w.heap.size + 1, 3, none⟩ = some (.int .i64 vd) := (RF.out _ k1).1 3 _ rfl
    have lp0 : w1.cell? ⟨w.heap.size + 1 + 1 + 1, 0, none⟩ = some (.int .i64 u) := (RF.out _ k1).2.1 0 _ rfl
    have lp1 : w1.cell? ⟨w.heap.size + 1 + 1 + 1, 1, none⟩ = some (.int .i64 v) := (RF.out _ k1).2.1 1 _ rfl
    have ll0 : w1.cell? ⟨w.heap.size + 1 + 1, 0, none⟩ = some (.string ls) := by simpa using (RF.out _ k1).2.2.1
    have ll1 : w1.cell? ⟨w.heap.size + 1 + 1, 1, none⟩ = some (.int .i64 i1) := by simpa using (RF.out _ k1).2.2.2.1
    have ll2 : w1.cell? ⟨w.heap.size + 1 + 1, 2, none⟩ = some (.int .i64 i2) := by simpa using (RF.out _ k1).2.2.2.2.1
    have ll3 : w1.cell? ⟨w.heap.size + 1 + 1, 3, none⟩ = some (.int .i64 i3) := by simpa using (RF.out _ k1).2.2.2.2.2.1
    have ll4 : w1.cell? ⟨w.heap.size + 1 + 1, 4, none⟩ = some (.int .i64 i4) := by simpa using (RF.out _ k1).2.2.2.2.2.2.1
    have ll5 : w1.cell? ⟨w.heap.size + 1 + 1, 5, none⟩ = some (.int .i64 i5) := by simpa using (RF.out _ k1).2.2.2.2.2.2.2.1
    have ll6 : w1.cell? ⟨w.heap.size + 1 + 1, 6, none⟩ = some (.int .i64 i6) := by simpa using (RF.out _ k1).2.2.2.2.2.2.2.2.1
    have ll7 : w1.cell? ⟨w.heap.size + 1 + 1, 7, none⟩ = some (.int .i64 i7) := by simpa using (RF.out _ k1).2.2.2.2.2.2.2.2.2.1
    have ll8 : w1.cell? ⟨w.heap.size + 1 + 1, 8, none⟩ = some (.slice A2 us.length cp2) := by simpa using (RF.out _ k1).2.2.2.2.2.2.2.2.2.2
    go_wp2_with fail
    refine (H1.out _ k1).mono ?_
    rintro e w2 ⟨rfl, hb2⟩
    have k2 := kept_trans (a := ((((w.alloc (.cells #[.string s, .int .i64 x, .int .i64 y, .int .i64 hh, .int .i64 j, .int .i64 b, .slice A zs.length cp] 39)).alloc (.cells #[.int .i64 va, .int .i64 vb, .int .i64 vc, .int .i64 vd] 41)).alloc (.cells #[.string ls, .int .i64 i1, .int .i64 i2, .int .i64 i3, .int .i64 i4, .int .i64 i5, .int .i64 i6, .int .i64 i7, .slice A2 us.length cp2] 44)).alloc (.cells #[.int .i64 u, .int .i64 v] 36))) k1 hb2
    clear lv0 lv1 lv2 lv3 lp0 lp1 ll0 ll1 ll2 ll3 ll4 ll5 ll6 ll7 ll8
    have lv0 : w2.cell? ⟨w.heap.size + 1, 0, none⟩ = some (.int .i64 va) := (RF.out _ k2).1 0 _ rfl
    have lv1 : w2.cell? ⟨w.heap.size + 1, 1, none⟩ = some (.int .i64 vb) := (RF.out _ k2).1 1 _ rfl
    have lv2 : w2.cell? ⟨w.heap.size + 1, 2, none⟩ = some (.int .i64 vc) := (RF.out _ k2).1 2 _ rfl
    have lv3 : w2.cell? ⟨w.heap.size + 1, 3, none⟩ = some (.int .i64 vd) := (RF.out _ k2).1 3 _ rfl
    have lp0 : w2.cell? ⟨w.heap.size + 1 + 1 + 1, 0, none⟩ = some (.int .i64 u) := (RF.out _ k2).2.1 0 _ rfl
    have lp1 : w2.cell? ⟨w.heap.size + 1 + 1 + 1, 1, none⟩ = some (.int .i64 v) := (RF.out _ k2).2.1 1 _ rfl
    have ll0 : w2.cell? ⟨w.heap.size + 1 + 1, 0, none⟩ = some (.string ls) := by simpa using (RF.out _ k2).2.2.1
    have ll1 : w2.cell? ⟨w.heap.size + 1 + 1, 1, none⟩ = some (.int .i64 i1) := by simpa using (RF.out _ k2).2.2.2.1
    have ll2 : w2.cell? ⟨w.heap.size + 1 + 1, 2, none⟩ = some (.int .i64 i2) := by simpa using (RF.out _ k2).2.2.2.2.1
    have ll3 : w2.cell? ⟨w.heap.size + 1 + 1, 3, none⟩ = some (.int .i64 i3) := by simpa using (RF.out _ k2).2.2.2.2.2.1
    have ll4 : w2.cell? ⟨w.heap.size + 1 + 1, 4, none⟩ = some (.int .i64 i4) := by simpa using (RF.out _ k2).2.2.2.2.2.2.1
    have ll5 : w2.cell? ⟨w.heap.size + 1 + 1, 5, none⟩ = some (.int .i64 i5) := by simpa using (RF.out _ k2).2.2.2.2.2.2.2.1
    have ll6 : w2.cell? ⟨w.heap.size + 1 + 1, 6, none⟩ = some (.int .i64 i6) := by simpa using (RF.out _ k2).2.2.2.2.2.2.2.2.1
    have ll7 : w2.cell? ⟨w.heap.size + 1 + 1, 7, none⟩ = some (.int .i64 i7) := by simpa using (RF.out _ k2).2.2.2.2.2.2.2.2.2.1
    have ll8 : w2.cell? ⟨w.heap.size + 1 + 1, 8, none⟩ = some (.slice A2 us.length cp2) := by simpa using (RF.out _ k2).2.2.2.2.2.2.2.2.2.2
    go_wp2_with fail
    refine (H2.out _ k2).mono ?_
    rintro e w3 ⟨rfl, hb3⟩
    have k3 := kept_trans (a := ((((w.alloc (.cells #[.string s, .int .i64 x, .int .i64 y, .int .i64 hh, .int .i64 j, .int .i64 b, .slice A zs.length cp] 39)).alloc (.cells #[.int .i64 va, .int .i64 vb, .int .i64 vc, .int .i64 vd] 41)).alloc (.cells #[.string ls, .int .i64 i1, .int .i64 i2, .int .i64 i3, .int .i64 i4, .int .i64 i5, .int .i64 i6, .int .i64 i7, .slice A2 us.length cp2] 44)).alloc (.cells #[.int .i64 u, .int .i64 v] 36))) k2 hb3
    clear lv0 lv1 lv2 lv3 lp0 lp1 ll0 ll1 ll2 ll3 ll4 ll5 ll6 ll7 ll8
    have lv0 : w3.cell? ⟨w.heap.size + 1, 0, none⟩ = some (.int .i64 va) := (RF.out _ k3).1 0 _ rfl
    have lv1 : w3.cell? ⟨w.heap.size + 1, 1, none⟩ = some (.int .i64 vb) := (RF.out _ k3).1 1 _ rfl
    have lv2 : w3.cell? ⟨w.heap.size + 1, 2, none⟩ = some (.int .i64 vc) := (RF.out _ k3).1 2 _ rfl
    have lv3 : w3.cell? ⟨w.heap.size + 1, 3, none⟩ = some (.int .i64 vd) := (RF.out _ k3).1 3 _ rfl
    have lp0 : w3.cell? ⟨w.heap.size + 1 + 1 + 1, 0, none⟩ = some (.int .i64 u) := (RF.out _ k3).2.1 0 _ rfl
    have lp1 : w3.cell? ⟨w.heap.size + 1 + 1 + 1, 1, none⟩ = some (.int .i64 v) := (RF.out _ k3).2.1 1 _ rfl
    have ll0 : w3.cell? ⟨w.heap.size + 1 + 1, 0, none⟩ = some (.string ls) := by simpa using (RF.out _ k3).2.2.1
    have ll1 : w3.cell? ⟨w.heap.size + 1 + 1, 1, none⟩ = some (.int .i64 i1) := by simpa using (RF.out _ k3).2.2.2.1
    have ll2 : w3.cell? ⟨w.heap.size + 1 + 1, 2, none⟩ = some (.int .i64 i2) := by simpa using (RF.out _ k3).2.2.2.2.1
    have ll3 : w3.cell? ⟨w.heap.size + 1 + 1, 3, none⟩ = some (.int .i64 i3) := by simpa using (RF.out _ k3).2.2.2.2.2.1
    have ll4 : w3.cell? ⟨w.heap.size + 1 + 1, 4, none⟩ = some (.int .i64 i4) := by simpa using (RF.out _ k3).2.2.2.2.2.2.1
    have ll5 : w3.cell? ⟨w.heap.size + 1 + 1, 5, none⟩ = some (.int .i64 i5) := by simpa using (RF.out _ k3).2.2.2.2.2.2.2.1
    have ll6 : w3.cell? ⟨w.heap.size + 1 + 1, 6, none⟩ = some (.int .i64 i6) := by simpa using (RF.out _ k3).2.2.2.2.2.2.2.2.1
    have ll7 : w3.cell? ⟨w.heap.size + 1 + 1, 7, none⟩ = some (.int .i64 i7) := by simpa using (RF.out _ k3).2.2.2.2.2.2.2.2.2.1
    have ll8 : w3.cell? ⟨w.heap.size + 1 + 1, 8, none⟩ = some (.slice A2 us.length cp2) := by simpa using (RF.out _ k3).2.2.2.2.2.2.2.2.2.2
    go_wp2_with fail
    refine (H3.out _ k3).mono ?_
    rintro e w4 ⟨rfl, hb4⟩
    have k4 := kept_trans (a := ((((w.alloc (.cells #[.string s, .int .i64 x, .int .i64 y, .int .i64 hh, .int .i64 j, .int .i64 b, .slice A zs.length cp] 39)).alloc (.cells #[.int .i64 va, .int .i64 vb, .int .i64 vc, .int .i64 vd] 41)).alloc (.cells #[.string ls, .int .i64 i1, .int .i64 i2, .int .i64 i3, .int .i64 i4, .int .i64 i5, .int .i64 i6, .int .i64 i7, .slice A2 us.length cp2] 44)).alloc (.cells #[.int .i64 u, .int .i64 v] 36))) k3 hb4
    clear lv0 lv1 lv2 lv3 lp0 lp1 ll0 ll1 ll2 ll3 ll4 ll5 ll6 ll7 ll8
    go_wp2
    go_ret2
    exact ⟨rfl, kept_trans HW0.out k4⟩
  simp only [Bool.true_and, Bool.and_true, if_true]
  have hc := (craneB_true p0).1
  have g := spB_true p1
  have f := fldB_true p2
  have bR : ∀ u v, okP u v = true → 0 ≤ (radL k.x k.y u v).1 ∧ (radL k.x k.y u v).1 ≤ 1000000 := fun u v h => by rw [show (radL k.x k.y u v).1 = distL k u v by simp [radL, distL, hc, h]]; have := distL_bd hc h; omega
  have hTG := fun z g4 q => togSecs_any va vb vc vd g4 (dirToL k.x k.y u v).1 (dirToL k.x k.y l.fx l.fy).1 (radL k.x k.y u v).1 (radL k.x k.y l.fx l.fy).1 (bR _ _ p3) (bR _ _ f.2.1) g.1 g.2.1 z q
  rw [move_eq hc p3 f.2.1 g.1] at hTG
  have HTG := Lib.hid hTG
  have HTX := Lib.hid (fun z q => HTO.out z q p0 p2 p1)
  have m1 := moveN_bd hc p3 f.2.1 g.1 g.2.1
  have m2 := moveN_bd hc f.2.1 f.2.2.1 g.1 g.2.1
  have u2 := upL_bd (n := l.h + 30) (d := vc) (by omega) (by omega)
  have e1 : IntKind.i64.wrap (moveN k va vb u v l.fx l.fy + liftN k va vb vc vd l) = moveN k va vb u v l.fx l.fy + liftN k va vb vc vd l := wrap_in (by unfold liftN; omega)
  clear HTO hTG bR hc g f m1 m2 u2 p0 p1 p2 p3
  generalize can9 k l = r at *
  generalize liftN k va vb vc vd l = M at *
  generalize moveN k va vb u v l.fx l.fy = M2 at *
  generalize (dirToL k.x k.y u v).1 = D1 at *
  generalize (dirToL k.x k.y l.fx l.fy).1 = D2 at *
  generalize (radL k.x k.y u v).1 = R1 at *
  generalize (radL k.x k.y l.fx l.fy).1 = R2 at *
  obtain ⟨s, x, y, hh, j, b, zs⟩ := k
  obtain ⟨ls, i1, i2, i3, i4, i5, i6, i7, us⟩ := l
  dsimp only at *
  cases r
  all_goals
    go_enter Tryz.func18, Tryz.ntmps18
    have k0 := Below.refl ((((w.alloc (.cells #[.string s, .int .i64 x, .int .i64 y, .int .i64 hh, .int .i64 j, .int .i64 b, .slice A zs.length cp] 39)).alloc (.cells #[.int .i64 va, .int .i64 vb, .int .i64 vc, .int .i64 vd] 41)).alloc (.cells #[.string ls, .int .i64 i1, .int .i64 i2, .int .i64 i3, .int .i64 i4, .int .i64 i5, .int .i64 i6, .int .i64 i7, .slice A2 us.length cp2] 44)).alloc (.cells #[.int .i64 u, .int .i64 v] 36)).heap.size ((((w.alloc (.cells #[.string s, .int .i64 x, .int .i64 y, .int .i64 hh, .int .i64 j, .int .i64 b, .slice A zs.length cp] 39)).alloc (.cells #[.int .i64 va, .int .i64 vb, .int .i64 vc, .int .i64 vd] 41)).alloc (.cells #[.string ls, .int .i64 i1, .int .i64 i2, .int .i64 i3, .int .i64 i4, .int .i64 i5, .int .i64 i6, .int .i64 i7, .slice A2 us.length cp2] 44)).alloc (.cells #[.int .i64 u, .int .i64 v] 36))
    go_wp2_with fail
    refine (H0.out _ k0).mono ?_
    rintro e w1 ⟨rfl, hb1⟩
    have k1 := kept_trans (a := ((((w.alloc (.cells #[.string s, .int .i64 x, .int .i64 y, .int .i64 hh, .int .i64 j, .int .i64 b, .slice A zs.length cp] 39)).alloc (.cells #[.int .i64 va, .int .i64 vb, .int .i64 vc, .int .i64 vd] 41)).alloc (.cells #[.string ls, .int .i64 i1, .int .i64 i2, .int .i64 i3, .int .i64 i4, .int .i64 i5, .int .i64 i6, .int .i64 i7, .slice A2 us.length cp2] 44)).alloc (.cells #[.int .i64 u, .int .i64 v] 36))) k0 hb1
    have lv0 : w1.cell? ⟨w.heap.size + 1, 0, none⟩ = some (.int .i64 va) := (RF.out _ k1).1 0 _ rfl
    have lv1 : w1.cell? ⟨w.heap.size + 1, 1, none⟩ = some (.int .i64 vb) := (RF.out _ k1).1 1 _ rfl
    have lv2 : w1.cell? ⟨w.heap.size + 1, 2, none⟩ = some (.int .i64 vc) := (RF.out _ k1).1 2 _ rfl
    have lv3 : w1.cell? ⟨w.heap.size + 1, 3, none⟩ = some (.int .i64 vd) := (RF.out _ k1).1 3 _ rfl
    have lp0 : w1.cell? ⟨w.heap.size + 1 + 1 + 1, 0, none⟩ = some (.int .i64 u) := (RF.out _ k1).2.1 0 _ rfl
    have lp1 : w1.cell? ⟨w.heap.size + 1 + 1 + 1, 1, none⟩ = some (.int .i64 v) := (RF.out _ k1).2.1 1 _ rfl
    have ll0 : w1.cell? ⟨w.heap.size + 1 + 1, 0, none⟩ = some (.string ls) := by simpa using (RF.out _ k1).2.2.1
    have ll1 : w1.cell? ⟨w.heap.size + 1 + 1, 1, none⟩ = some (.int .i64 i1) := by simpa using (RF.out _ k1).2.2.2.1
    have ll2 : w1.cell? ⟨w.heap.size + 1 + 1, 2, none⟩ = some (.int .i64 i2) := by simpa using (RF.out _ k1).2.2.2.2.1
    have ll3 : w1.cell? ⟨w.heap.size + 1 + 1, 3, none⟩ = some (.int .i64 i3) := by simpa using (RF.out _ k1).2.2.2.2.2.1
    have ll4 : w1.cell? ⟨w.heap.size + 1 + 1, 4, none⟩ = some (.int .i64 i4) := by simpa using (RF.out _ k1).2.2.2.2.2.2.1
    have ll5 : w1.cell? ⟨w.heap.size + 1 + 1, 5, none⟩ = some (.int .i64 i5) := by simpa using (RF.out _ k1).2.2.2.2.2.2.2.1
    have ll6 : w1.cell? ⟨w.heap.size + 1 + 1, 6, none⟩ = some (.int .i64 i6) := by simpa using (RF.out _ k1).2.2.2.2.2.2.2.2.1
    have ll7 : w1.cell? ⟨w.heap.size + 1 + 1, 7, none⟩ = some (.int .i64 i7) := by simpa using (RF.out _ k1).2.2.2.2.2.2.2.2.2.1
    have ll8 : w1.cell? ⟨w.heap.size + 1 + 1, 8, none⟩ = some (.slice A2 us.length cp2) := by simpa using (RF.out _ k1).2.2.2.2.2.2.2.2.2.2
    go_wp2_with fail
    refine (H1.out _ k1).mono ?_
    rintro e w2 ⟨rfl, hb2⟩
    have k2 := kept_trans (a := ((((w.alloc (.cells #[.string s, .int .i64 x, .int .i64 y, .int .i64 hh, .int .i64 j, .int .i64 b, .slice A zs.length cp] 39)).alloc (.cells #[.int .i64 va, .int .i64 vb, .int .i64 vc, .int .i64 vd] 41)).alloc (.cells #[.string ls, .int .i64 i1, .int .i64 i2, .int .i64 i3, .int .i64 i4, .int .i64 i5, .int .i64 i6, .int .i64 i7, .slice A2 us.length cp2] 44)).alloc (.cells #[.int .i64 u, .int .i64 v] 36))) k1 hb2
    clear lv0 lv1 lv2 lv3 lp0 lp1 ll0 ll1 ll2 ll3 ll4 ll5 ll6 ll7 ll8
    have lv0 : w2.cell? ⟨w.heap.size + 1, 0, none⟩ = some (.int .i64 va) := (RF.out _ k2).1 0 _ rfl
    have lv1 : w2.cell? ⟨w.heap.size + 1, 1, none⟩ = some (.int .i64 vb) := (RF.out _ k2).1 1 _ rfl
    have lv2 : w2.cell? ⟨w.heap.size + 1, 2, none⟩ = some (.int .i64 vc) := (RF.out _ k2).1 2 _ rfl
    have lv3 : w2.cell? ⟨w.heap.size + 1, 3, none⟩ = some (.int .i64 vd) := (RF.out _ k2).1 3 _ rfl
    have lp0 : w2.cell? ⟨w.heap.size + 1 + 1 + 1, 0, none⟩ = some (.int .i64 u) := (RF.out _ k2).2.1 0 _ rfl
    have lp1 : w2.cell? ⟨w.heap.size + 1 + 1 + 1, 1, none⟩ = some (.int .i64 v) := (RF.out _ k2).2.1 1 _ rfl
    have ll0 : w2.cell? ⟨w.heap.size + 1 + 1, 0, none⟩ = some (.string ls) := by simpa using (RF.out _ k2).2.2.1
    have ll1 : w2.cell? ⟨w.heap.size + 1 + 1, 1, none⟩ = some (.int .i64 i1) := by simpa using (RF.out _ k2).2.2.2.1
    have ll2 : w2.cell? ⟨w.heap.size + 1 + 1, 2, none⟩ = some (.int .i64 i2) := by simpa using (RF.out _ k2).2.2.2.2.1
    have ll3 : w2.cell? ⟨w.heap.size + 1 + 1, 3, none⟩ = some (.int .i64 i3) := by simpa using (RF.out _ k2).2.2.2.2.2.1
    have ll4 : w2.cell? ⟨w.heap.size + 1 + 1, 4, none⟩ = some (.int .i64 i4) := by simpa using (RF.out _ k2).2.2.2.2.2.2.1
    have ll5 : w2.cell? ⟨w.heap.size + 1 + 1, 5, none⟩ = some (.int .i64 i5) := by simpa using (RF.out _ k2).2.2.2.2.2.2.2.1
    have ll6 : w2.cell? ⟨w.heap.size + 1 + 1, 6, none⟩ = some (.int .i64 i6) := by simpa using (RF.out _ k2).2.2.2.2.2.2.2.2.1
    have ll7 : w2.cell? ⟨w.heap.size + 1 + 1, 7, none⟩ = some (.int .i64 i7) := by simpa using (RF.out _ k2).2.2.2.2.2.2.2.2.2.1
    have ll8 : w2.cell? ⟨w.heap.size + 1 + 1, 8, none⟩ = some (.slice A2 us.length cp2) := by simpa using (RF.out _ k2).2.2.2.2.2.2.2.2.2.2
    go_wp2_with fail
    refine (H2.out _ k2).mono ?_
    rintro e w3 ⟨rfl, hb3⟩
    have k3 := kept_trans (a := ((((w.alloc (.cells #[.string s, .int .i64 x, .int .i64 y, .int .i64 hh, .int .i64 j, .int .i64 b, .slice A zs.length cp] 39)).alloc (.cells #[.int .i64 va, .int .i64 vb, .int .i64 vc, .int .i64 vd] 41)).alloc (.cells #[.string ls, .int .i64 i1, .int .i64 i2, .int .i64 i3, .int .i64 i4, .int .i64 i5, .int .i64 i6, .int .i64 i7, .slice A2 us.length cp2] 44)).alloc (.cells #[.int .i64 u, .int .i64 v] 36))) k2 hb3
    clear lv0 lv1 lv2 lv3 lp0 lp1 ll0 ll1 ll2 ll3 ll4 ll5 ll6 ll7 ll8
    have lv0 : w3.cell? ⟨w.heap.size + 1, 0, none⟩ = some (.int .i64 va) := (RF.out _ k3).1 0 _ rfl
    have lv1 : w3.cell? ⟨w.heap.size + 1, 1, none⟩ = some (.int .i64 vb) := (RF.out _ k3).1 1 _ rfl
    have lv2 : w3.cell? ⟨w.heap.size + 1, 2, none⟩ = some (.int .i64 vc) := (RF.out _ k3).1 2 _ rfl
    have lv3 : w3.cell? ⟨w.heap.size + 1, 3, none⟩ = some (.int .i64 vd) := (RF.out _ k3).1 3 _ rfl
    have lp0 : w3.cell? ⟨w.heap.size + 1 + 1 + 1, 0, none⟩ = some (.int .i64 u) := (RF.out _ k3).2.1 0 _ rfl
    have lp1 : w3.cell? ⟨w.heap.size + 1 + 1 + 1, 1, none⟩ = some (.int .i64 v) := (RF.out _ k3).2.1 1 _ rfl
    have ll0 : w3.cell? ⟨w.heap.size + 1 + 1, 0, none⟩ = some (.string ls) := by simpa using (RF.out _ k3).2.2.1
    have ll1 : w3.cell? ⟨w.heap.size + 1 + 1, 1, none⟩ = some (.int .i64 i1) := by simpa using (RF.out _ k3).2.2.2.1
    have ll2 : w3.cell? ⟨w.heap.size + 1 + 1, 2, none⟩ = some (.int .i64 i2) := by simpa using (RF.out _ k3).2.2.2.2.1
    have ll3 : w3.cell? ⟨w.heap.size + 1 + 1, 3, none⟩ = some (.int .i64 i3) := by simpa using (RF.out _ k3).2.2.2.2.2.1
    have ll4 : w3.cell? ⟨w.heap.size + 1 + 1, 4, none⟩ = some (.int .i64 i4) := by simpa using (RF.out _ k3).2.2.2.2.2.2.1
    have ll5 : w3.cell? ⟨w.heap.size + 1 + 1, 5, none⟩ = some (.int .i64 i5) := by simpa using (RF.out _ k3).2.2.2.2.2.2.2.1
    have ll6 : w3.cell? ⟨w.heap.size + 1 + 1, 6, none⟩ = some (.int .i64 i6) := by simpa using (RF.out _ k3).2.2.2.2.2.2.2.2.1
    have ll7 : w3.cell? ⟨w.heap.size + 1 + 1, 7, none⟩ = some (.int .i64 i7) := by simpa using (RF.out _ k3).2.2.2.2.2.2.2.2.2.1
    have ll8 : w3.cell? ⟨w.heap.size + 1 + 1, 8, none⟩ = some (.slice A2 us.length cp2) := by simpa using (RF.out _ k3).2.2.2.2.2.2.2.2.2.2
    go_wp2_with fail
    refine (H3.out _ k3).mono ?_
    rintro e w4 ⟨rfl, hb4⟩
    have k4 := kept_trans (a := ((((w.alloc (.cells #[.string s, .int .i64 x, .int .i64 y, .int .i64 hh, .int .i64 j, .int .i64 b, .slice A zs.length cp] 39)).alloc (.cells #[.int .i64 va, .int .i64 vb, .int .i64 vc, .int .i64 vd] 41)).alloc (.cells #[.string ls, .int .i64 i1, .int .i64 i2, .int .i64 i3, .int .i64 i4, .int .i64 i5, .int .i64 i6, .int .i64 i7, .slice A2 us.length cp2] 44)).alloc (.cells #[.int .i64 u, .int .i64 v] 36))) k3 hb4
    clear lv0 lv1 lv2 lv3 lp0 lp1 ll0 ll1 ll2 ll3 ll4 ll5 ll6 ll7 ll8
    have lv0 : w4.cell? ⟨w.heap.size + 1, 0, none⟩ = some (.int .i64 va) := (RF.out _ k4).1 0 _ rfl
    have lv1 : w4.cell? ⟨w.heap.size + 1, 1, none⟩ = some (.int .i64 vb) := (RF.out _ k4).1 1 _ rfl
    have lv2 : w4.cell? ⟨w.heap.size + 1, 2, none⟩ = some (.int .i64 vc) := (RF.out _ k4).1 2 _ rfl
    have lv3 : w4.cell? ⟨w.heap.size + 1, 3, none⟩ = some (.int .i64 vd) := (RF.out _ k4).1 3 _ rfl
    have lp0 : w4.cell? ⟨w.heap.size + 1 + 1 + 1, 0, none⟩ = some (.int .i64 u) := (RF.out _ k4).2.1 0 _ rfl
    have lp1 : w4.cell? ⟨w.heap.size + 1 + 1 + 1, 1, none⟩ = some (.int .i64 v) := (RF.out _ k4).2.1 1 _ rfl
    have ll0 : w4.cell? ⟨w.heap.size + 1 + 1, 0, none⟩ = some (.string ls) := by simpa using (RF.out _ k4).2.2.1
    have ll1 : w4.cell? ⟨w.heap.size + 1 + 1, 1, none⟩ = some (.int .i64 i1) := by simpa using (RF.out _ k4).2.2.2.1
    have ll2 : w4.cell? ⟨w.heap.size + 1 + 1, 2, none⟩ = some (.int .i64 i2) := by simpa using (RF.out _ k4).2.2.2.2.1
    have ll3 : w4.cell? ⟨w.heap.size + 1 + 1, 3, none⟩ = some (.int .i64 i3) := by simpa using (RF.out _ k4).2.2.2.2.2.1
    have ll4 : w4.cell? ⟨w.heap.size + 1 + 1, 4, none⟩ = some (.int .i64 i4) := by simpa using (RF.out _ k4).2.2.2.2.2.2.1
    have ll5 : w4.cell? ⟨w.heap.size + 1 + 1, 5, none⟩ = some (.int .i64 i5) := by simpa using (RF.out _ k4).2.2.2.2.2.2.2.1
    have ll6 : w4.cell? ⟨w.heap.size + 1 + 1, 6, none⟩ = some (.int .i64 i6) := by simpa using (RF.out _ k4).2.2.2.2.2.2.2.2.1
    have ll7 : w4.cell? ⟨w.heap.size + 1 + 1, 7, none⟩ = some (.int .i64 i7) := by simpa using (RF.out _ k4).2.2.2.2.2.2.2.2.2.1
    have ll8 : w4.cell? ⟨w.heap.size + 1 + 1, 8, none⟩ = some (.slice A2 us.length cp2) := by simpa using (RF.out _ k4).2.2.2.2.2.2.2.2.2.2
    go_wp2_with fail
    refine (HTX.out _ k4).mono ?_
    rintro e w5 ⟨rfl, hb5⟩
    have k5 := kept_trans (a := ((((w.alloc (.cells #[.string s, .int .i64 x, .int .i64 y, .int .i64 hh, .int .i64 j, .int .i64 b, .slice A zs.length cp] 39)).alloc (.cells #[.int .i64 va, .int .i64 vb, .int .i64 vc, .int .i64 vd] 41)).alloc (.cells #[.string ls, .int .i64 i1, .int .i64 i2, .int .i64 i3, .int .i64 i4, .int .i64 i5, .int .i64 i6, .int .i64 i7, .slice A2 us.length cp2] 44)).alloc (.cells #[.int .i64 u, .int .i64 v] 36))) k4 hb5
    clear lv0 lv1 lv2 lv3 lp0 lp1 ll0 ll1 ll2 ll3 ll4 ll5 ll6 ll7 ll8
  · go_wp2
    go_ret2
    exact ⟨by simp, kept_trans HW0.out k5⟩
  · have SOF := Lib.hid (show ∀ u', Below w5.heap.size w5 u' → (fun w' => w'.cell? ⟨w.heap.size + 1, 0, none⟩ = some (.int .i64 va) ∧ w'.cell? ⟨w.heap.size + 1, 1, none⟩ = some (.int .i64 vb) ∧ w'.cell? ⟨w.heap.size + 1, 2, none⟩ = some (.int .i64 vc) ∧ w'.cell? ⟨w.heap.size + 1, 3, none⟩ = some (.int .i64 vd) ∧ w'.cell? ⟨w.heap.size + 1 + 1 + 1, 0, none⟩ = some (.int .i64 u) ∧ w'.cell? ⟨w.heap.size + 1 + 1 + 1, 1, none⟩ = some (.int .i64 v) ∧ w'.cell? ⟨w.heap.size + 1 + 1, 2, none⟩ = some (.int .i64 i2) ∧ w'.cell? ⟨w.heap.size + 1 + 1, 3, none⟩ = some (.int .i64 i3)) u' from fun u' q => by have h := RF.out _ (kept_trans k5 q); exact ⟨h.1 0 _ rfl, h.1 1 _ rfl, h.1 2 _ rfl, h.1 3 _ rfl, h.2.1 0 _ rfl, h.2.1 1 _ rfl, by simpa using h.2.2.2.2.1, by simpa using h.2.2.2.2.2.1⟩)
    have hrefl := Below.refl w5.heap.size w5
    go_wp2_with fail
    first
      | go_region_held3 (fun w' => w'.cell? ⟨w.heap.size + 1, 0, none⟩ = some (.int .i64 va) ∧ w'.cell? ⟨w.heap.size + 1, 1, none⟩ = some (.int .i64 vb) ∧ w'.cell? ⟨w.heap.size + 1, 2, none⟩ = some (.int .i64 vc) ∧ w'.cell? ⟨w.heap.size + 1, 3, none⟩ = some (.int .i64 vd) ∧ w'.cell? ⟨w.heap.size + 1 + 1 + 1, 0, none⟩ = some (.int .i64 u) ∧ w'.cell? ⟨w.heap.size + 1 + 1 + 1, 1, none⟩ = some (.int .i64 v) ∧ w'.cell? ⟨w.heap.size + 1 + 1, 2, none⟩ = some (.int .i64 i2) ∧ w'.cell? ⟨w.heap.size + 1 + 1, 3, none⟩ = some (.int .i64 i3)) (first | (refine SOF.out _ ?_; assumption) | (refine SOF.out _ ?_; go_grown)) (first
          | (go_at_call 172; have pq := q1; refine (HTG.out _ g hg).mono ?_; rintro e v2 ⟨rfl, h2⟩; have q2 := kept_trans (a := w5) q1 h2)
          | (go_at_call 50; refine (HSW.out _ (kept_trans k5 (by go_grown))).mono ?_; rintro e v1 ⟨g, rfl, hg, h1⟩; have q1 := kept_trans (a := w5) (by go_grown) h1))
      | fail
    go_wp2
    go_ret2
    exact ⟨by simp, kept_trans HW0.out (kept_trans k5 q2)⟩

end Go.Proofs.YtnflaeimiegepacGreatDoor
