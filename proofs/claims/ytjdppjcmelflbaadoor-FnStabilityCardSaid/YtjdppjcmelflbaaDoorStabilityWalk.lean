import Derived.Test.YtjdppjcmelflbaaDoorRows
import Derived.WalkKit
import Derived.ProofKit
import Derived.OpenShut
import Derived.Lib.Hide
import Derived.Handy
import Derived.BigQuiet
import Derived.Carry
import Derived.ChangeSlices
import Derived.Deep.DeepCutAuto
import Derived.Deep.Draws
import Derived.Deep.QuietTactic
import Derived.Deep.RegionHeld3
import Derived.Laws.ResultCell
import Derived.Lib.ItoaLen
import Derived.Lib.ItoaNum
import Derived.Lib.Join
import Derived.Lib.LaidTab
import Derived.Lib.LaidU8
import Derived.Shelf.Abstract
import Derived.Shelf.Strings.Builder1
import Derived.Shelf.Strings.Builder2
import Derived.Shelf.Strings.OnBuilder
import Derived.Shelf.Strconv.Itoa0
import Derived.Shelf.Strconv.Itoa1
import Derived.Shelf.LaysM
import Derived.Shelf.Strconv.Itoa2
import Derived.Shelf.Strconv.Itoa3
import Derived.Shelf.Strconv.Itoa4
import Derived.Shelf.Strconv.ParseIntEmpty
import Derived.Shelf.Strconv.Clone
import Derived.Shelf.Strconv.SyntaxError
import Derived.Shelf.LaysC
import Derived.Shelf.Strconv.ToError
import Derived.Shelf.Strconv.Lower
import Derived.Shelf.Strconv.ParseUint10
import Derived.Shelf.Strconv.ParseUint10Empty
import Derived.Shelf.Strconv.ParseUint10Any
import Derived.Shelf.Strconv.ParseInt10
import Derived.Shelf.Strconv.RangeError
import Derived.Shelf.Strconv.ToErrorRange
import Derived.Shelf.Strconv.ParseUintEmpty
import Derived.Shelf.Strconv.ParseUint10b64
import Derived.Shelf.Strconv.ParseUint10b32
import Derived.Shelf.Strconv.ParseUint10b16
import Derived.Shelf.Strconv.ParseUint10b8
import Derived.Shelf.Strconv.ParseUint10At
import Derived.Shelf.Strconv.ParseInt10At64
import Derived.Shelf.Strconv.ParseInt10At32
import Derived.Shelf.Strconv.ParseInt10At16
import Derived.Shelf.Strconv.ParseInt10At8
import Derived.Shelf.Strconv.ParseInt10All
import Derived.Shelf.Strconv.ParseIntPublic10
import Derived.Shelf.Strings.Search1
import Derived.Shelf.Strings.Search2
import Derived.Shelf.Strings.Cut
import Derived.Shelf.Strings.Shaped
import Derived.Shelf.Strings.Prefix
import Derived.Shelf.Strings.FieldsFuncAny
import Derived.Test.YtjdppjcmelflbaaDoorCards
import Derived.Test.YtjdppjcmelflbaaDoorTie
import Derived.Lib.SmallJoins
import Derived.ChangeMaps5
import Derived.Deep.DeepHandedRow
import Derived.Deep.DeepWitnessRowRef
import Derived.Lib.LaidTab
import Derived.SevenTiedAt
import Derived.Test.YtjdppjcmelflbaaDoorStabilityWalka
namespace Go.Proofs.YtjdppjcmelflbaaDoor
open Go.ChangeShapes Go.WideShapes Go.ChangeAt Go.RowKit
set_option linter.unusedVariables false
set_option linter.unusedSimpArgs false


set_option maxHeartbeats 2000000 in
theorem implIS_any (s m b j a c d : Int) (l r q : Int) (w : World) :
    Calls Tryd.prog 47 #[.agg #[.int .i64 s, .int .i64 m, .int .i64 b, .int .i64 j, .int .i64 a, .int .i64 c, .int .i64 d], .int .i64 l, .int .i64 r, .int .i64 q] w fun e w' => e = .returned (.tuple #[.bool (isL s m b j a c d l r q).1, .int .i64 (isL s m b j a c d l r q).2]) ∧ Below w.heap.size w w' := by
  have HC := fun u v (x : RdT u v [inB l 0 50000, inB r 0 1000, inB q 100 1000]) => baseCode_any s m b j a c d v [inB l 0 50000, inB r 0 1000, inB q 100 1000] u x
  unfold isL
  by_cases hK : codeL3 (baseB s m b j a c d) [inB l 0 50000, inB r 0 1000, inB q 100 1000] = 0
  · rw [hK] at HC
    rw [if_pos hK]
    obtain ⟨hv, hbs⟩ := codeL3_ok hK
    have hl : inB l 0 50000 = true := hbs _ (by simp)
    have hr : inB r 0 1000 = true := hbs _ (by simp)
    have hq : inB q 0 1000 = true := in_wide (hbs _ (by simp))
    have HC := Lib.hid (fun u v x => HC u v x)
    have HT := Lib.hid (fun u => stance_any s m b j a c d l r u hv hl hr)
    have hS := stab_parts hv hl hr hq
    have gq := inB_true hq
    unfold stabB
    clear hK hbs hv hl hr hq
    generalize totL m b j c l = T at *
    generalize tipL j a c d l r = M at *
    obtain ⟨s0, s1, s2, s3, s4, _⟩ := hS
    generalize tiltL M = A at *
    have HF := Lib.hid (fun u => safe_any s T A q u s3 s4 s0 gq)
    go_enter Tryd.func47, Tryd.ntmps47
    go_wp2_with fail
    first
      | go_region_held3 (fun w' => w'.cell? ⟨w.heap.size, 0, none⟩ = some (.int .i64 s) ∧ w'.cell? ⟨w.heap.size, 1, none⟩ = some (.int .i64 m) ∧ w'.cell? ⟨w.heap.size, 2, none⟩ = some (.int .i64 b) ∧ w'.cell? ⟨w.heap.size, 3, none⟩ = some (.int .i64 j) ∧ w'.cell? ⟨w.heap.size, 4, none⟩ = some (.int .i64 a) ∧ w'.cell? ⟨w.heap.size, 5, none⟩ = some (.int .i64 c) ∧ w'.cell? ⟨w.heap.size, 6, none⟩ = some (.int .i64 d)) (go_keep) (first
          | (go_at_call 125; refine (validLoad_any _ _).mono ?_; rintro e w1 ⟨rfl, hb1⟩; refine kept_at hb1 (w.heap.size) (by go_size) fun c1_0 z1_0 s1_0 => ?_; have b1 := kept_trans (a := w) (by go_grown) hb1)
          | (go_at_call 126; refine (validRadius_any _ _).mono ?_; rintro e w2 ⟨rfl, hb2⟩; refine kept_at hb2 (w.heap.size) (by go_size) fun c2_0 z2_0 s2_0 => ?_; have b2 := kept_trans (a := w) (by go_grown) hb2)
          | (go_at_call 127; refine (validPercent_any _ _).mono ?_; rintro e w3 ⟨rfl, hb3⟩; refine kept_at hb3 (w.heap.size) (by go_size) fun c3_0 z3_0 s3_0 => ?_; have b3 := kept_trans (a := w) (by go_grown) hb3)
          | (go_at_call 124; refine (HC.out _ _ (rdT3 (by go_size) (by go_simp) (by go_simp) (by go_simp))).mono ?_; rintro e w4 ⟨rfl, hb4⟩; refine kept_at hb4 (w.heap.size) (by go_size) fun c4_0 z4_0 s4_0 => ?_; have b4 := kept_trans (a := w) (by go_grown) hb4))
      | fail
    all_goals
      go_wp2_with fail
      refine (HT.out _).mono ?_
      rintro e w8 ⟨rfl, hb8⟩
      refine kept_at hb8 w.heap.size (by go_size) fun c8_0 z8_0 s8_0 => ?_
      have b8 := kept_trans (a := w) (by go_grown) hb8
      go_wp2_with fail
      refine (HF.out _).mono ?_
      rintro e w9 ⟨rfl, hb9⟩
      refine kept_at hb9 w.heap.size (by go_size) fun c9_0 z9_0 s9_0 => ?_
      have b9 := kept_trans (a := w) (by go_grown) hb9
      go_wp2
      go_ret2
      exact ⟨rfl, by go_grown⟩
  · rw [if_neg hK]
    have hK1 : (codeL3 (baseB s m b j a c d) [inB l 0 50000, inB r 0 1000, inB q 100 1000] == 0) = false := by simpa using hK
    have hK2 : (codeL3 (baseB s m b j a c d) [inB l 0 50000, inB r 0 1000, inB q 100 1000] != 0) = true := by simpa using hK
    generalize codeL3 (baseB s m b j a c d) [inB l 0 50000, inB r 0 1000, inB q 100 1000] = K at *
    have HC := Lib.hid (fun u v x => HC u v x)
    go_enter Tryd.func47, Tryd.ntmps47
    go_wp2_with fail
    first
      | go_region_held3 (fun w' => w'.cell? ⟨w.heap.size, 0, none⟩ = some (.int .i64 s) ∧ w'.cell? ⟨w.heap.size, 1, none⟩ = some (.int .i64 m) ∧ w'.cell? ⟨w.heap.size, 2, none⟩ = some (.int .i64 b) ∧ w'.cell? ⟨w.heap.size, 3, none⟩ = some (.int .i64 j) ∧ w'.cell? ⟨w.heap.size, 4, none⟩ = some (.int .i64 a) ∧ w'.cell? ⟨w.heap.size, 5, none⟩ = some (.int .i64 c) ∧ w'.cell? ⟨w.heap.size, 6, none⟩ = some (.int .i64 d)) (go_keep) (first
          | (go_at_call 125; refine (validLoad_any _ _).mono ?_; rintro e w1 ⟨rfl, hb1⟩; refine kept_at hb1 (w.heap.size) (by go_size) fun c1_0 z1_0 s1_0 => ?_; have b1 := kept_trans (a := w) (by go_grown) hb1)
          | (go_at_call 126; refine (validRadius_any _ _).mono ?_; rintro e w2 ⟨rfl, hb2⟩; refine kept_at hb2 (w.heap.size) (by go_size) fun c2_0 z2_0 s2_0 => ?_; have b2 := kept_trans (a := w) (by go_grown) hb2)
          | (go_at_call 127; refine (validPercent_any _ _).mono ?_; rintro e w3 ⟨rfl, hb3⟩; refine kept_at hb3 (w.heap.size) (by go_size) fun c3_0 z3_0 s3_0 => ?_; have b3 := kept_trans (a := w) (by go_grown) hb3)
          | (go_at_call 124; refine (HC.out _ _ (rdT3 (by go_size) (by go_simp) (by go_simp) (by go_simp))).mono ?_; rintro e w4 ⟨rfl, hb4⟩; refine kept_at hb4 (w.heap.size) (by go_size) fun c4_0 z4_0 s4_0 => ?_; have b4 := kept_trans (a := w) (by go_grown) hb4))
      | fail
    all_goals
      go_wp2
      go_ret2
      exact ⟨rfl, by go_grown⟩

set_option maxHeartbeats 2000000 in
theorem implPR_any (s m b j a c d : Int) (l r : Int) (w : World) :
    Calls Tryd.prog 49 #[.agg #[.int .i64 s, .int .i64 m, .int .i64 b, .int .i64 j, .int .i64 a, .int .i64 c, .int .i64 d], .int .i64 l, .int .i64 r] w fun e w' => e = .returned (.tuple #[.agg #[.int .i64 (prL s m b j a c d l r).1.1, .int .i64 (prL s m b j a c d l r).1.2], .int .i64 (prL s m b j a c d l r).2]) ∧ Below w.heap.size w w' := by
  have HC := fun u v (x : RdT u v [inB l 0 50000, inB r 0 1000]) => baseCode_any s m b j a c d v [inB l 0 50000, inB r 0 1000] u x
  unfold prL
  by_cases hK : codeL3 (baseB s m b j a c d) [inB l 0 50000, inB r 0 1000] = 0
  · rw [hK] at HC
    rw [if_pos hK]
    obtain ⟨hv, hbs⟩ := codeL3_ok hK
    have hl : inB l 0 50000 = true := hbs _ (by simp)
    have hr : inB r 0 1000 = true := hbs _ (by simp)
    have HC := Lib.hid (fun u v x => HC u v x)
    have HT := Lib.hid (fun u => stance_any s m b j a c d l r u hv hl hr)
    have hS := stab_parts hv hl hr (q := 0) (by simp [inB])
    have hT1 : 1 ≤ totL m b j c l := by have := base_bd hv; have := inB_true hl; unfold totL; omega
    have hsb := (base_bd hv).1
    obtain ⟨s0, s1, s2, _, _, s3⟩ := hS
    clear hK hbs hv hl hr
    generalize totL m b j c l = T at *
    generalize tipL j a c d l r = M at *
    generalize tiltL M = A at *
    have HP := fun u => pressure_any s T A u (by omega) (by omega) (by omega) s3
    have hne : pressL T A s = ((0, 0), 10) ∨ (pressL T A s).2 = 0 := by unfold pressL; split <;> (try split) <;> simp
    rcases hne with hne | hne
    ·
      rw [hne] at HP
      rw [hne]
      have HP := Lib.hid HP
      clear hne
      go_enter Tryd.func49, Tryd.ntmps49
      go_wp2_with fail
      first
        | go_region_held3 (fun w' => w'.cell? ⟨w.heap.size, 0, none⟩ = some (.int .i64 s) ∧ w'.cell? ⟨w.heap.size, 1, none⟩ = some (.int .i64 m) ∧ w'.cell? ⟨w.heap.size, 2, none⟩ = some (.int .i64 b) ∧ w'.cell? ⟨w.heap.size, 3, none⟩ = some (.int .i64 j) ∧ w'.cell? ⟨w.heap.size, 4, none⟩ = some (.int .i64 a) ∧ w'.cell? ⟨w.heap.size, 5, none⟩ = some (.int .i64 c) ∧ w'.cell? ⟨w.heap.size, 6, none⟩ = some (.int .i64 d) ∧ w'.cell? ⟨w.heap.size + 1, 0, none⟩ = some (.int .i64 0) ∧ w'.cell? ⟨w.heap.size + 1, 1, none⟩ = some (.int .i64 0)) (go_keep) (first
            | (go_at_call 125; refine (validLoad_any _ _).mono ?_; rintro e w1 ⟨rfl, hb1⟩; refine kept_at hb1 (w.heap.size) (by go_size) fun c1_0 z1_0 s1_0 => ?_; refine kept_at hb1 (w.heap.size + 1) (by go_size) fun c1_1 z1_1 s1_1 => ?_; have b1 := kept_trans (a := w) (by go_grown) hb1)
            | (go_at_call 126; refine (validRadius_any _ _).mono ?_; rintro e w2 ⟨rfl, hb2⟩; refine kept_at hb2 (w.heap.size) (by go_size) fun c2_0 z2_0 s2_0 => ?_; refine kept_at hb2 (w.heap.size + 1) (by go_size) fun c2_1 z2_1 s2_1 => ?_; have b2 := kept_trans (a := w) (by go_grown) hb2)
            | (go_at_call 124; refine (HC.out _ _ (rdT2 (by go_size) (by go_simp) (by go_simp))).mono ?_; rintro e w3 ⟨rfl, hb3⟩; refine kept_at hb3 (w.heap.size) (by go_size) fun c3_0 z3_0 s3_0 => ?_; refine kept_at hb3 (w.heap.size + 1) (by go_size) fun c3_1 z3_1 s3_1 => ?_; have b3 := kept_trans (a := w) (by go_grown) hb3))
        | fail
      all_goals
        go_wp2_with fail
        refine (HT.out _).mono ?_
        rintro e w8 ⟨rfl, hb8⟩
        refine kept_at hb8 w.heap.size (by go_size) fun c8_0 z8_0 s8_0 => ?_
        refine kept_at hb8 (w.heap.size + 1) (by go_size) fun c8_1 z8_1 s8_1 => ?_
        have b8 := kept_trans (a := w) (by go_grown) hb8
        go_wp2_with fail
        refine (HP.out _).mono ?_
        rintro e w9 ⟨rfl, hb9⟩
        refine kept_at hb9 w.heap.size (by go_size) fun c9_0 z9_0 s9_0 => ?_
        refine kept_at hb9 (w.heap.size + 1) (by go_size) fun c9_1 z9_1 s9_1 => ?_
        have b9 := kept_trans (a := w) (by go_grown) hb9
        go_wp2
        (try simp only [Exit.inBlock, Exit.then])
        refine bodyPost_ret (v := .tuple #[.agg #[.int .i64 0, .int .i64 0], .int .i64 10]) ?_ rfl ⟨rfl, ?_⟩
        · rw [results_cell_tmp rfl]
          go_simp
        · go_grown
    ·
      generalize pressL T A s = Z at *
      obtain ⟨⟨z0, z1⟩, z2⟩ := Z
      dsimp only at *
      subst hne
      have HP := Lib.hid HP
      go_enter Tryd.func49, Tryd.ntmps49
      go_wp2_with fail
      first
        | go_region_held3 (fun w' => w'.cell? ⟨w.heap.size, 0, none⟩ = some (.int .i64 s) ∧ w'.cell? ⟨w.heap.size, 1, none⟩ = some (.int .i64 m) ∧ w'.cell? ⟨w.heap.size, 2, none⟩ = some (.int .i64 b) ∧ w'.cell? ⟨w.heap.size, 3, none⟩ = some (.int .i64 j) ∧ w'.cell? ⟨w.heap.size, 4, none⟩ = some (.int .i64 a) ∧ w'.cell? ⟨w.heap.size, 5, none⟩ = some (.int .i64 c) ∧ w'.cell? ⟨w.heap.size, 6, none⟩ = some (.int .i64 d) ∧ w'.cell? ⟨w.heap.size + 1, 0, none⟩ = some (.int .i64 0) ∧ w'.cell? ⟨w.heap.size + 1, 1, none⟩ = some (.int .i64 0)) (go_keep) (first
            | (go_at_call 125; refine (validLoad_any _ _).mono ?_; rintro e w1 ⟨rfl, hb1⟩; refine kept_at hb1 (w.heap.size) (by go_size) fun c1_0 z1_0 s1_0 => ?_; refine kept_at hb1 (w.heap.size + 1) (by go_size) fun c1_1 z1_1 s1_1 => ?_; have b1 := kept_trans (a := w) (by go_grown) hb1)
            | (go_at_call 126; refine (validRadius_any _ _).mono ?_; rintro e w2 ⟨rfl, hb2⟩; refine kept_at hb2 (w.heap.size) (by go_size) fun c2_0 z2_0 s2_0 => ?_; refine kept_at hb2 (w.heap.size + 1) (by go_size) fun c2_1 z2_1 s2_1 => ?_; have b2 := kept_trans (a := w) (by go_grown) hb2)
            | (go_at_call 124; refine (HC.out _ _ (rdT2 (by go_size) (by go_simp) (by go_simp))).mono ?_; rintro e w3 ⟨rfl, hb3⟩; refine kept_at hb3 (w.heap.size) (by go_size) fun c3_0 z3_0 s3_0 => ?_; refine kept_at hb3 (w.heap.size + 1) (by go_size) fun c3_1 z3_1 s3_1 => ?_; have b3 := kept_trans (a := w) (by go_grown) hb3))
        | fail
      all_goals
        go_wp2_with fail
        refine (HT.out _).mono ?_
        rintro e w8 ⟨rfl, hb8⟩
        refine kept_at hb8 w.heap.size (by go_size) fun c8_0 z8_0 s8_0 => ?_
        refine kept_at hb8 (w.heap.size + 1) (by go_size) fun c8_1 z8_1 s8_1 => ?_
        have b8 := kept_trans (a := w) (by go_grown) hb8
        go_wp2_with fail
        refine (HP.out _).mono ?_
        rintro e w9 ⟨rfl, hb9⟩
        refine kept_at hb9 w.heap.size (by go_size) fun c9_0 z9_0 s9_0 => ?_
        refine kept_at hb9 (w.heap.size + 1) (by go_size) fun c9_1 z9_1 s9_1 => ?_
        have b9 := kept_trans (a := w) (by go_grown) hb9
        go_wp2
        (try simp only [Exit.inBlock, Exit.then])
        refine bodyPost_ret (v := .tuple #[.agg #[.int .i64 z0, .int .i64 z1], .int .i64 0]) ?_ rfl ⟨rfl, ?_⟩
        · rw [results_cell_tmp rfl]
          go_simp
        · go_grown
  · rw [if_neg hK]
    have hK1 : (codeL3 (baseB s m b j a c d) [inB l 0 50000, inB r 0 1000] == 0) = false := by simpa using hK
    have hK2 : (codeL3 (baseB s m b j a c d) [inB l 0 50000, inB r 0 1000] != 0) = true := by simpa using hK
    generalize codeL3 (baseB s m b j a c d) [inB l 0 50000, inB r 0 1000] = K at *
    have HC := Lib.hid (fun u v x => HC u v x)
    go_enter Tryd.func49, Tryd.ntmps49
    go_wp2_with fail
    first
      | go_region_held3 (fun w' => w'.cell? ⟨w.heap.size, 0, none⟩ = some (.int .i64 s) ∧ w'.cell? ⟨w.heap.size, 1, none⟩ = some (.int .i64 m) ∧ w'.cell? ⟨w.heap.size, 2, none⟩ = some (.int .i64 b) ∧ w'.cell? ⟨w.heap.size, 3, none⟩ = some (.int .i64 j) ∧ w'.cell? ⟨w.heap.size, 4, none⟩ = some (.int .i64 a) ∧ w'.cell? ⟨w.heap.size, 5, none⟩ = some (.int .i64 c) ∧ w'.cell? ⟨w.heap.size, 6, none⟩ = some (.int .i64 d) ∧ w'.cell? ⟨w.heap.size + 1, 0, none⟩ = some (.int .i64 0) ∧ w'.cell? ⟨w.heap.size + 1, 1, none⟩ = some (.int .i64 0)) (go_keep) (first
          | (go_at_call 125; refine (validLoad_any _ _).mono ?_; rintro e w1 ⟨rfl, hb1⟩; refine kept_at hb1 (w.heap.size) (by go_size) fun c1_0 z1_0 s1_0 => ?_; refine kept_at hb1 (w.heap.size + 1) (by go_size) fun c1_1 z1_1 s1_1 => ?_; have b1 := kept_trans (a := w) (by go_grown) hb1)
          | (go_at_call 126; refine (validRadius_any _ _).mono ?_; rintro e w2 ⟨rfl, hb2⟩; refine kept_at hb2 (w.heap.size) (by go_size) fun c2_0 z2_0 s2_0 => ?_; refine kept_at hb2 (w.heap.size + 1) (by go_size) fun c2_1 z2_1 s2_1 => ?_; have b2 := kept_trans (a := w) (by go_grown) hb2)
          | (go_at_call 124; refine (HC.out _ _ (rdT2 (by go_size) (by go_simp) (by go_simp))).mono ?_; rintro e w3 ⟨rfl, hb3⟩; refine kept_at hb3 (w.heap.size) (by go_size) fun c3_0 z3_0 s3_0 => ?_; refine kept_at hb3 (w.heap.size + 1) (by go_size) fun c3_1 z3_1 s3_1 => ?_; have b3 := kept_trans (a := w) (by go_grown) hb3))
      | fail
    all_goals
      go_wp2
      (try simp only [Exit.inBlock, Exit.then])
      refine bodyPost_ret (v := .tuple #[.agg #[.int .i64 0, .int .i64 0], .int .i64 K]) ?_ rfl ⟨rfl, ?_⟩
      · rw [results_cell_tmp rfl]
        go_simp
      · go_grown

set_option maxRecDepth 1000000 in
/-- A search in a list of answers that are first false and then true, by a function that keeps to an invariant of the world. -/
theorem sortSearch_inv (n : Nat) (hn : n ≤ 1000000000) (g : FuncId) (he : Enters Tryd.prog g) (cap : Array Value) (p : Nat → Bool) (hmono : ∀ i j, i ≤ j → j < n → p i = true → p j = true) (I : World → Prop) (w : World) (h0 : I w)
    (hf : ∀ i, i < n → ∀ w1, I w1 → Calls Tryd.prog g (#[.int .i64 (i : Nat)] ++ cap) w1 fun e w2 => e = .returned (.bool (p i)) ∧ I w2) :
    Calls Tryd.prog 97 #[.int .i64 n, .func (.func g) #[] cap] w fun e w' => ∃ k : Nat, k ≤ n ∧ (∀ i, i < k → p i = false) ∧ (∀ i, k ≤ i → i < n → p i = true) ∧ e = .returned (.int .i64 k) ∧ I w' := by
  have Hf := Lib.hid hf; clear hf
  have Hm := Lib.hid hmono; clear hmono
  go_enter Tryd.func97, Tryd.ntmps97
  go_wp2_with fail
  go_loopw [5, 6] (fun i j wr => ∃ a b : Nat, a ≤ b ∧ b ≤ n ∧ i = .int .i64 a ∧ j = .int .i64 b ∧ (∀ i, i < a → p i = false) ∧ (∀ i, b ≤ i → i < n → p i = true) ∧ I wr) (fun i j _ => (intOf j).toNat - (intOf i).toNat)
  case atStart => exact ⟨0, n, by omega, Nat.le_refl _, rfl, rfl, fun i h => by omega, fun i h h2 => by omega, h0⟩
  case round =>
    obtain ⟨a, b, hab, hbn, rfl, rfl, hlo, hhi, hb⟩ := hrel
    have Hlo := Lib.hid hlo; clear hlo
    have Hhi := Lib.hid hhi; clear hhi
    by_cases hlt : a < b
    · have hm : ((a : Int) + (b : Int)) / 2 = (((a + b) / 2 : Nat) : Int) := by omega
      have hm1 : (a + b) / 2 < b ∧ a ≤ (a + b) / 2 := by omega
      generalize (a + b) / 2 = m at *
      have hc := Hf.out m (by omega) wr hb
      cases hp : p m
      all_goals
        rw [hp] at hc
        have Hp := Lib.hid hp; clear hp
        have Hc := Lib.hid hc; clear hc
        go_wp2_with fail
        rw [he, Oper.upon_enter]
        refine Hc.out.mono ?_
        rintro e w1 ⟨rfl, hb1⟩
        go_wp2
        go_roundw
        case rel => first
          | exact ⟨m + 1, b, by omega, hbn, by go_num, rfl, fun i hi => (by
              cases hq : p i
              · rfl
              · have := Hm.out i m (by omega) (by omega) hq
                rw [Hp.out] at this
                cases this), Hhi.out, hb1⟩
          | exact ⟨a, m, by omega, by omega, rfl, rfl, Hlo.out, fun i h1 h2 => Hm.out m i h1 h2 Hp.out, hb1⟩
        case measure => simp [intOf]; omega
    · have : a = b := by omega
      subst this
      go_wp2
      go_ret
      exact ⟨a, by omega, Hlo.out, Hhi.out, rfl, hb⟩

/-- A base that fills a block. -/
def BaBox (w : World) (p : Nat) (s m b j a c d : Int) : Prop := w.heap[p]? = some (.cells #[.int .i64 s, .int .i64 m, .int .i64 b, .int .i64 j, .int .i64 a, .int .i64 c, .int .i64 d] 61 (0, 0))

theorem BaBox_at {w : World} {p : Nat} {s m b j a c d : Int} (h : BaBox w p s m b j a c d) : BaAt w p s m b j a c d :=
  ⟨by rw [cell_of_row w p 0 _ _ _ h]; rfl, by rw [cell_of_row w p 1 _ _ _ h]; rfl, by rw [cell_of_row w p 2 _ _ _ h]; rfl, by rw [cell_of_row w p 3 _ _ _ h]; rfl, by rw [cell_of_row w p 4 _ _ _ h]; rfl, by rw [cell_of_row w p 5 _ _ _ h]; rfl, by rw [cell_of_row w p 6 _ _ _ h]; rfl⟩

theorem BaBox_new (s m b j a c d : Int) (w : World) : BaBox (w.alloc (.cells #[.int .i64 s, .int .i64 m, .int .i64 b, .int .i64 j, .int .i64 a, .int .i64 c, .int .i64 d] 61)) w.heap.size s m b j a c d := heap_alloc_new w _

theorem BaBox_lt {w : World} {p : Nat} {s m b j a c d : Int} (h : BaBox w p s m b j a c d) : p < w.heap.size := World.block_lt_of_cell? _ _ (BaBox_at h).1

theorem BaBox_kept {W w1 : World} {p : Nat} {s m b j a c d : Int} (h : BaBox W p s m b j a c d) (hb : Below W.heap.size W w1) : BaBox w1 p s m b j a c d := by
  unfold BaBox
  rw [hb.block p (BaBox_lt h)]
  exact h

theorem BaBox_set {w : World} {p : Nat} {s m b j a c d : Int} (h : BaBox w p s m b j a c d) (k : Int) : BaBox (w.setCell ⟨p, 2, none⟩ (.int .i64 k)) p s m k j a c d := heap_setCell_same w p 2 _ _ _ h

theorem totL_add (m k j c l : Int) : totL m k j c l = totL m 0 j c l + k := by unfold totL; omega

theorem stab_least {s m k j a c d l r q : Int} (hs : 0 < s) (hk : 0 ≤ k) : stabB s m k j a c d l r q = decide (leastL (totL m 0 j c l) s (2 * q * tiltL (tipL j a c d l r)) ≤ k) := by
  unfold stabB
  rw [totL_add, decide_eq_decide]
  exact least_iff _ _ _ _ hs hk

theorem base_ballast {s m b j a c d k : Int} (h : baseB s m b j a c d = true) (hk : 0 ≤ k ∧ k ≤ 500000) : baseB s m k j a c d = true := by
  have hi : inB k 0 500000 = true := by simp [inB]; omega
  unfold baseB at *
  simp only [Bool.and_eq_true] at *
  simp_all

/-- What LeastBallast returns. -/
def lbAll (s m b j a c d : Int) (l r q : Int) : Int × Int :=
  if codeL3 (baseB s m b j a c d) [inB l 0 50000, inB r 0 1000, inB q 100 1000] = 0 then
    (if leastL (totL m 0 j c l) s (2 * q * tiltL (tipL j a c d l r)) ≤ 500000 then (leastL (totL m 0 j c l) s (2 * q * tiltL (tipL j a c d l r)), 0) else (0, 3))
  else (0, codeL3 (baseB s m b j a c d) [inB l 0 50000, inB r 0 1000, inB q 100 1000])

theorem leastL_nn (T s X : Int) : 0 ≤ leastL T s X := by unfold leastL; omega

set_option maxHeartbeats 2000000 in
theorem specLB_any (s m b j a c d : Int) (l r q : Int) (w : World) :
    Calls Tryd.prog 37 #[.agg #[.int .i64 s, .int .i64 m, .int .i64 b, .int .i64 j, .int .i64 a, .int .i64 c, .int .i64 d], .int .i64 l, .int .i64 r, .int .i64 q] w fun e w' => e = .returned (.tuple #[.int .i64 (lbAll s m b j a c d l r q).1, .int .i64 (lbAll s m b j a c d l r q).2]) ∧ Below w.heap.size w w' := by
  have HA := Lib.hid (BaBox_new s m b j a c d w)
  have HC := fun u (x : BaAt u w.heap.size s m b j a c d) => specAsked_any w.heap.size s m b j a c d l r q u x
  unfold lbAll
  by_cases hK : codeL3 (baseB s m b j a c d) [inB l 0 50000, inB r 0 1000, inB q 100 1000] = 0
  · rw [hK] at HC
    rw [if_pos hK]
    obtain ⟨hv, hbs⟩ := codeL3_ok hK
    have hl : inB l 0 50000 = true := hbs _ (by simp)
    have hr : inB r 0 1000 = true := hbs _ (by simp)
    have hq : inB q 0 1000 = true := in_wide (hbs _ (by simp))
    have HC := Lib.hid HC
    have hs := (base_bd hv).1
    have HS : ∀ k, 0 ≤ k → k ≤ 500000 → ∀ u, BaAt u w.heap.size s m k j a c d → Calls Tryd.prog 132 #[.pointer (some ⟨w.heap.size, 0, none⟩), .int .i64 l, .int .i64 r, .int .i64 q] u fun e w' => e = .returned (.bool (decide (leastL (totL m 0 j c l) s (2 * q * tiltL (tipL j a c d l r)) ≤ k))) ∧ ∃ n, w' = u.drewN n := fun k h0 h1 u x => by
      rw [← stab_least (by omega) h0]
      exact specStable_any w.heap.size s m k j a c d l r q u x (base_ballast hv ⟨h0, h1⟩) hl hr hq
    have hnn := leastL_nn (totL m 0 j c l) s (2 * q * tiltL (tipL j a c d l r))
    clear hK hbs hv hl hr hq hs
    generalize leastL (totL m 0 j c l) s (2 * q * tiltL (tipL j a c d l r)) = L at *
    have hset : ∀ (u : World) k, BaBox u w.heap.size s m k j a c d → ∀ k', BaBox (u.setCell ⟨w.heap.size, 2, none⟩ (.int .i64 k')) w.heap.size s m k' j a c d := fun u k h k' => BaBox_set h k'
    have HSET := Lib.hid hset; clear hset
    by_cases hle : L ≤ 500000
    · rw [if_pos hle]
      have HS := Lib.hid HS
      have h5 := HS.out 500000 (by omega) (by omega)
      rw [decide_eq_true hle] at h5
      have H5 := Lib.hid h5; clear h5
      go_enter Tryd.func37, Tryd.ntmps37
      go_wp2_with fail
      refine (HC.out _ (BaBox_at HA.out)).mono ?_
      rintro e w1 ⟨rfl, rfl⟩
      go_wp2_with fail
      refine (H5.out _ (BaBox_at (BaBox_new s m 500000 j a c d w))).mono ?_
      rintro e w2 ⟨rfl, n2, rfl⟩
      go_wp2_with fail
      go_loopw [11, 12] (fun x y wr => ∃ lo hi k : Int, x = .int .i64 lo ∧ y = .int .i64 hi ∧ -1 ≤ lo ∧ lo < hi ∧ hi ≤ 500000 ∧ lo < L ∧ L ≤ hi ∧ BaBox wr w.heap.size s m k j a c d ∧ Below w.heap.size w wr) (fun x y _ => (intOf y - intOf x).toNat)
      case atStart => exact ⟨-1, 500000, 500000, rfl, rfl, by omega, by omega, by omega, by omega, by omega, BaBox_new s m 500000 j a c d w, kept_drewN (by go_grown) _⟩
      case round =>
        obtain ⟨lo, hi, k, rfl, rfl, h1, h2, h3, h4, h5, hbox, hb⟩ := hrel
        have hlt := BaBox_lt hbox
        have f2 := frozen_of_row wr w.heap.size 2 _ _ hbox
        have c2 := (BaBox_at hbox).2.2.1
        have HB := Lib.hid hbox; clear hbox
        by_cases hgo : 1 < hi - lo
        · have hm : (lo + hi).tdiv 2 = (lo + hi) / 2 := Int.tdiv_eq_ediv_of_nonneg (by omega)
          have hm1 : lo < (lo + hi) / 2 ∧ (lo + hi) / 2 < hi := by omega
          generalize hM : (lo + hi) / 2 = M at *
          have hc := HS.out M (by omega) (by omega) _ (BaBox_at (HSET.out _ _ HB.out M))
          cases hp : decide (L ≤ M)
          all_goals
            rw [hp] at hc
            have Hc := Lib.hid hc; clear hc
            simp only [decide_eq_true_eq, decide_eq_false_iff_not] at hp
            go_wp2_with fail
            refine Hc.out.mono ?_
            rintro e w3 ⟨rfl, n3, rfl⟩
            go_wp2
            go_roundw
            case rel => first
              | exact ⟨lo, M, M, rfl, rfl, by omega, by omega, by omega, by omega, by omega, HSET.out _ _ HB.out _, kept_drewN (hb.setCell (Nat.le_refl _) _) _⟩
              | exact ⟨M, hi, M, rfl, rfl, by omega, by omega, by omega, by omega, by omega, HSET.out _ _ HB.out _, kept_drewN (hb.setCell (Nat.le_refl _) _) _⟩
            case measure => simp [intOf]; omega
        · have : hi = L := by omega
          subst this
          go_wp2
          go_ret2
          exact ⟨rfl, hb⟩
    · rw [if_neg hle]
      have h5 := HS 500000 (by omega) (by omega)
      rw [decide_eq_false hle] at h5
      have H5 := Lib.hid h5; clear h5 HS
      go_enter Tryd.func37, Tryd.ntmps37
      go_wp2_with fail
      refine (HC.out _ (BaBox_at HA.out)).mono ?_
      rintro e w1 ⟨rfl, rfl⟩
      go_wp2_with fail
      refine (H5.out _ (BaBox_at (BaBox_new s m 500000 j a c d w))).mono ?_
      rintro e w2 ⟨rfl, n2, rfl⟩
      go_wp2
      go_ret2
      exact ⟨rfl, (by first | (go_grown; done) | (refine kept_drewN ?_ _; go_grown; done) | (go_grown; refine kept_drewN ?_ _; go_grown))⟩
  · rw [if_neg hK]
    have hK1 : (codeL3 (baseB s m b j a c d) [inB l 0 50000, inB r 0 1000, inB q 100 1000] == 0) = false := by simpa using hK
    have hK2 : (codeL3 (baseB s m b j a c d) [inB l 0 50000, inB r 0 1000, inB q 100 1000] != 0) = true := by simpa using hK
    generalize codeL3 (baseB s m b j a c d) [inB l 0 50000, inB r 0 1000, inB q 100 1000] = K at *
    have HC := Lib.hid HC
    go_enter Tryd.func37, Tryd.ntmps37
    go_wp2_with fail
    refine (HC.out _ (BaBox_at HA.out)).mono ?_
    rintro e w1 ⟨rfl, rfl⟩
    go_wp2
    go_ret2
    exact ⟨rfl, by go_grown⟩

theorem grown_cell {w w1 : World} {p q o : Nat} {v : Value} (hg : w.grownBy w1 (some p)) (h : w.cell? ⟨q, o, none⟩ = some v) (hne : q ≠ p) : w1.cell? ⟨q, o, none⟩ = some v := hg.cell h (fun e => hne (by injection e))

theorem below_grown {u v : World} (h : Below u.heap.size u v) (row : Option Nat) : u.grownBy v row := ⟨h.os, h.tape, h.output, h.size, fun i hi _ => h.block i hi⟩

set_option maxHeartbeats 1000000 in
theorem lbClosure_any (s m b j a c d : Int) (l r q i k : Int) (p0 p1 p2 p3 : Nat) (w : World) (hv : baseB s m b j a c d = true) (hl : inB l 0 50000 = true) (hr : inB r 0 1000 = true) (hq : inB q 0 1000 = true) (hi : 0 ≤ i ∧ i ≤ 500000)
    (hbox : BaBox w p0 s m k j a c d) (h1 : w.cell? ⟨p1, 0, none⟩ = some (.int .i64 l)) (h2 : w.cell? ⟨p2, 0, none⟩ = some (.int .i64 r)) (h3 : w.cell? ⟨p3, 0, none⟩ = some (.int .i64 q)) (n1 : p1 ≠ p0) (n2 : p2 ≠ p0) (n3 : p3 ≠ p0) :
    Calls Tryd.prog 128 #[.int .i64 i, .pointer (some ⟨p0, 0, none⟩), .pointer (some ⟨p1, 0, none⟩), .pointer (some ⟨p2, 0, none⟩), .pointer (some ⟨p3, 0, none⟩)] w fun e w' =>
      e = .returned (.bool (decide (leastL (totL m 0 j c l) s (2 * q * tiltL (tipL j a c d l r)) ≤ i))) ∧ BaBox w' p0 s m i j a c d ∧ w.grownBy w' (some p0) := by
  have hs := (base_bd hv).1
  rw [← stab_least (by omega) hi.1]
  have hvi := base_ballast hv hi
  have hS := stab_parts hvi hl hr hq
  have HT := Lib.hid (fun u => stance_any s m i j a c d l r u hvi hl hr)
  have HF := Lib.hid (fun u => safe_any s (totL m i j c l) (tiltL (tipL j a c d l r)) q u hS.2.2.2.1 hS.2.2.2.2.1 hS.1 (inB_true hq))
  unfold stabB
  clear hvi hS hv hl hr hq hs
  generalize totL m i j c l = T at *
  generalize tiltL (tipL j a c d l r) = A at *
  generalize decide (2 * q * A ≤ 100 * T * s) = R at *
  have f2 := frozen_of_row w p0 2 _ _ hbox
  have c2 := (BaBox_at hbox).2.2.1
  have gs := grown_set w ⟨p0, 2, none⟩ (.int .i64 i)
  have sb := BaBox_set hbox i
  have s1 := grown_cell gs h1 n1
  have s2 := grown_cell gs h2 n2
  have s3 := grown_cell gs h3 n3
  have l0 := BaBox_lt sb
  have l1 := World.block_lt_of_cell? _ _ s1
  have l2 := World.block_lt_of_cell? _ _ s2
  have l3 := World.block_lt_of_cell? _ _ s3
  obtain ⟨a0, a1, a2, a3, a4, a5, a6⟩ := BaBox_at sb
  have SB := Lib.hid sb; clear sb
  have GS := Lib.hid gs; clear gs hbox h1 h2 h3
  go_enter Tryd.func128, Tryd.ntmps128
  go_wp2_with fail
  generalize w.setCell ⟨p0, 2, none⟩ (.int .i64 i) = u at *
  clear f2 c2
  first
    | go_region_held3 (fun w' => w'.cell? ⟨p0, 0, none⟩ = some (.int .i64 s) ∧ w'.cell? ⟨p0, 1, none⟩ = some (.int .i64 m) ∧ w'.cell? ⟨p0, 2, none⟩ = some (.int .i64 i) ∧ w'.cell? ⟨p0, 3, none⟩ = some (.int .i64 j) ∧ w'.cell? ⟨p0, 4, none⟩ = some (.int .i64 a) ∧ w'.cell? ⟨p0, 5, none⟩ = some (.int .i64 c) ∧ w'.cell? ⟨p0, 6, none⟩ = some (.int .i64 d) ∧ w'.cell? ⟨p1, 0, none⟩ = some (.int .i64 l) ∧ w'.cell? ⟨p2, 0, none⟩ = some (.int .i64 r) ∧ w'.cell? ⟨p3, 0, none⟩ = some (.int .i64 q)) (go_keep) (first
      | (go_at_call 129; refine (HT.out _).mono ?_; rintro e w1 ⟨rfl, hb1⟩; refine kept_at hb1 p0 (by go_size) fun c1_0 z1_0 s1_0 => ?_; refine kept_at hb1 p1 (by go_size) fun c1_1 z1_1 s1_1 => ?_; refine kept_at hb1 p2 (by go_size) fun c1_2 z1_2 s1_2 => ?_; refine kept_at hb1 p3 (by go_size) fun c1_3 z1_3 s1_3 => ?_; have b1 := kept_trans (a := u) (by go_grown) hb1)
      | (go_at_call 130; refine (HF.out _).mono ?_; rintro e w2 ⟨rfl, hb2⟩; refine kept_at hb2 p0 (by go_size) fun c2_0 z2_0 s2_0 => ?_; refine kept_at hb2 p1 (by go_size) fun c2_1 z2_1 s2_1 => ?_; refine kept_at hb2 p2 (by go_size) fun c2_2 z2_2 s2_2 => ?_; refine kept_at hb2 p3 (by go_size) fun c2_3 z2_3 s2_3 => ?_; have b2 := kept_trans (a := u) (by go_grown) hb2))
    | fail
  all_goals
    go_wp2
    go_ret
    exact ⟨rfl, BaBox_kept SB.out b2, grown_step GS.out (below_grown b2 _)⟩

/-- The boxes of a search for ballast. -/
def LbAt (w u : World) (s m b j a c d : Int) (l r q : Int) : Prop :=
  BaBox u w.heap.size s m b j a c d ∧ u.cell? ⟨w.heap.size + 1, 0, none⟩ = some (.int .i64 l) ∧ u.cell? ⟨w.heap.size + 1 + 1, 0, none⟩ = some (.int .i64 r) ∧ u.cell? ⟨w.heap.size + 1 + 1 + 1, 0, none⟩ = some (.int .i64 q) ∧ u.heap.size = w.heap.size + 4 ∧ Below w.heap.size w u

theorem lbAt_new (s m b j a c d : Int) (l r q : Int) (w : World) : LbAt w ((((w.alloc (.cells #[.int .i64 s, .int .i64 m, .int .i64 b, .int .i64 j, .int .i64 a, .int .i64 c, .int .i64 d] 61)).alloc (.cells #[.int .i64 l] 2)).alloc (.cells #[.int .i64 r] 2)).alloc (.cells #[.int .i64 q] 2)) s m b j a c d l r q := by
  refine ⟨?_, ?_, ?_, ?_, by simp, by go_grown⟩
  · exact BaBox_kept (BaBox_kept (BaBox_kept (BaBox_new _ _ _ _ _ _ _ _) (by go_grown)) (by go_grown)) (by go_grown)
  · rw [World.cell?_alloc_past _ _ _ (by simp), World.cell?_alloc_past _ _ _ (by simp)]
    simp
  · rw [World.cell?_alloc_past _ _ _ (by simp)]
    have := cell_of_row _ _ 0 _ _ _ (heap_alloc_new ((w.alloc (.cells #[.int .i64 s, .int .i64 m, .int .i64 b, .int .i64 j, .int .i64 a, .int .i64 c, .int .i64 d] 61)).alloc (.cells #[.int .i64 l] 2)) (.cells #[.int .i64 r] 2))
    simpa using this
  · have := cell_of_row _ _ 0 _ _ _ (heap_alloc_new (((w.alloc (.cells #[.int .i64 s, .int .i64 m, .int .i64 b, .int .i64 j, .int .i64 a, .int .i64 c, .int .i64 d] 61)).alloc (.cells #[.int .i64 l] 2)).alloc (.cells #[.int .i64 r] 2)) (.cells #[.int .i64 q] 2))
    simpa using this

set_option maxHeartbeats 2000000 in
theorem implLB_any (s m b j a c d : Int) (l r q : Int) (w : World) :
    Calls Tryd.prog 36 #[.agg #[.int .i64 s, .int .i64 m, .int .i64 b, .int .i64 j, .int .i64 a, .int .i64 c, .int .i64 d], .int .i64 l, .int .i64 r, .int .i64 q] w fun e w' => e = .returned (.tuple #[.int .i64 (lbAll s m b j a c d l r q).1, .int .i64 (lbAll s m b j a c d l r q).2]) ∧ Below w.heap.size w w' := by
  have HC := fun u v (x : RdT u v [inB l 0 50000, inB r 0 1000, inB q 100 1000]) => baseCode_any s m b j a c d v [inB l 0 50000, inB r 0 1000, inB q 100 1000] u x
  unfold lbAll
  by_cases hK : codeL3 (baseB s m b j a c d) [inB l 0 50000, inB r 0 1000, inB q 100 1000] = 0
  · rw [hK] at HC
    rw [if_pos hK]
    obtain ⟨hv, hbs⟩ := codeL3_ok hK
    have hl : inB l 0 50000 = true := hbs _ (by simp)
    have hr : inB r 0 1000 = true := hbs _ (by simp)
    have hq : inB q 0 1000 = true := in_wide (hbs _ (by simp))
    have HC := Lib.hid (fun u v x => HC u v x)
    have HB := fun i (hi : 0 ≤ i ∧ i ≤ 500000) k p0 p1 p2 p3 u hbox h1 h2 h3 n1 n2 n3 => lbClosure_any s m b j a c d l r q i k p0 p1 p2 p3 u hv hl hr hq hi hbox h1 h2 h3 n1 n2 n3
    have hnn := leastL_nn (totL m 0 j c l) s (2 * q * tiltL (tipL j a c d l r))
    clear hK hbs hv hl hr hq
    generalize leastL (totL m 0 j c l) s (2 * q * tiltL (tipL j a c d l r)) = L at *
    have HSEARCH : ∀ (W : World), (∃ k, BaBox W w.heap.size s m k j a c d) → W.cell? ⟨w.heap.size + 1, 0, none⟩ = some (.int .i64 l) → W.cell? ⟨w.heap.size + 1 + 1, 0, none⟩ = some (.int .i64 r) → W.cell? ⟨w.heap.size + 1 + 1 + 1, 0, none⟩ = some (.int .i64 q) →
        Calls Tryd.prog 97 #[.int .i64 500001, .func (.func 128) #[] #[.pointer (some ⟨w.heap.size, 0, none⟩), .pointer (some ⟨w.heap.size + 1, 0, none⟩), .pointer (some ⟨w.heap.size + 1 + 1, 0, none⟩), .pointer (some ⟨w.heap.size + 1 + 1 + 1, 0, none⟩)]] W
          fun e w' => e = .returned (.int .i64 (if L ≤ 500000 then L else 500001)) ∧ W.grownBy w' (some w.heap.size) := by
      intro W hW c1 c2 c3
      refine (sortSearch_inv 500001 (by omega) 128 (enters_of Tryd.func128 (by kernel_rfl) rfl) _ (fun i => decide (L ≤ (i : Int))) (fun i j hij _ hp => by simp at hp ⊢; omega)
        (fun u => (∃ k, BaBox u w.heap.size s m k j a c d) ∧ W.grownBy u (some w.heap.size)) W ⟨hW, World.grownBy.refl _ _⟩ ?_).mono ?_
      · rintro i hi w1 ⟨⟨k, hb⟩, hg⟩
        exact (HB i (by omega) k _ _ _ _ w1 hb (grown_cell hg c1 (by omega)) (grown_cell hg c2 (by omega)) (grown_cell hg c3 (by omega)) (by omega) (by omega) (by omega)).mono fun e w' h => ⟨h.1, ⟨i, h.2.1⟩, grown_step hg h.2.2⟩
      · rintro e w1 ⟨k, hk, hlo, hhi, rfl, _, hg⟩
        refine ⟨?_, hg⟩
        have hlo' : ∀ i : Nat, i < k → ¬ L ≤ (i : Int) := fun i hi => by have := hlo i hi; simpa using this
        have hhi' : ∀ i : Nat, k ≤ i → i < 500001 → L ≤ (i : Int) := fun i h1 h2 => by have := hhi i h1 h2; simpa using this
        have : (k : Int) = if L ≤ 500000 then L else 500001 := by
          by_cases hL : L ≤ 500000
          · rw [if_pos hL]
            rcases Nat.lt_trichotomy k L.toNat with h | h | h
            · have := hhi' k (Nat.le_refl _) (by omega); omega
            · omega
            · exact absurd (by omega) (hlo' L.toNat h)
          · rw [if_neg hL]
            rcases Nat.lt_or_ge k 500001 with h | h
            · have := hhi' k (Nat.le_refl _) h; omega
            · omega
        rw [this]
    have HSEARCH := Lib.hid HSEARCH
    clear HB
    have hmf : ∀ (fn : Fn) (first cap : Array Value) (w : World), (Instr.makeFunc fn first cap).run Tryd.prog w = .ok (.func fn first cap) w := fun _ _ _ _ => rfl
    by_cases hL : L ≤ 500000
    · rw [if_pos hL]
      simp only [if_pos hL] at HSEARCH
      go_enter Tryd.func36, Tryd.ntmps36
      go_wp2_with fail
      have hu := lbAt_new s m b j a c d l r q w
      generalize ((((w.alloc (.cells #[.int .i64 s, .int .i64 m, .int .i64 b, .int .i64 j, .int .i64 a, .int .i64 c, .int .i64 d] 61)).alloc (.cells #[.int .i64 l] 2)).alloc (.cells #[.int .i64 r] 2)).alloc (.cells #[.int .i64 q] 2)) = u at *
      obtain ⟨ub, u1, u2, u3, uz, ubl⟩ := hu
      obtain ⟨a0, a1, a2, a3, a4, a5, a6⟩ := BaBox_at ub
      have UB := Lib.hid ub; clear ub
      have hk0 : w.heap.size < u.heap.size := by omega
      have hk1 : w.heap.size + 1 < u.heap.size := by omega
      have hk2 : w.heap.size + 1 + 1 < u.heap.size := by omega
      have hk3 : w.heap.size + 1 + 1 + 1 < u.heap.size := by omega
      clear uz
      first
        | go_region_held3 (fun w' => w'.cell? ⟨w.heap.size, 0, none⟩ = some (.int .i64 s) ∧ w'.cell? ⟨w.heap.size, 1, none⟩ = some (.int .i64 m) ∧ w'.cell? ⟨w.heap.size, 2, none⟩ = some (.int .i64 b) ∧ w'.cell? ⟨w.heap.size, 3, none⟩ = some (.int .i64 j) ∧ w'.cell? ⟨w.heap.size, 4, none⟩ = some (.int .i64 a) ∧ w'.cell? ⟨w.heap.size, 5, none⟩ = some (.int .i64 c) ∧ w'.cell? ⟨w.heap.size, 6, none⟩ = some (.int .i64 d) ∧ w'.cell? ⟨w.heap.size + 1, 0, none⟩ = some (.int .i64 l) ∧ w'.cell? ⟨w.heap.size + 1 + 1, 0, none⟩ = some (.int .i64 r) ∧ w'.cell? ⟨w.heap.size + 1 + 1 + 1, 0, none⟩ = some (.int .i64 q)) (go_keep) (first
            | (go_at_call 125; refine (validLoad_any _ _).mono ?_; rintro e w1 ⟨rfl, hb1⟩; refine kept_at hb1 (w.heap.size) (by go_size) fun c1_0 z1_0 s1_0 => ?_; refine kept_at hb1 (w.heap.size + 1) (by go_size) fun c1_1 z1_1 s1_1 => ?_; refine kept_at hb1 (w.heap.size + 1 + 1) (by go_size) fun c1_2 z1_2 s1_2 => ?_; refine kept_at hb1 (w.heap.size + 1 + 1 + 1) (by go_size) fun c1_3 z1_3 s1_3 => ?_; have e1 := kept_trans (a := u) (by go_grown) hb1)
            | (go_at_call 126; refine (validRadius_any _ _).mono ?_; rintro e w2 ⟨rfl, hb2⟩; refine kept_at hb2 (w.heap.size) (by go_size) fun c2_0 z2_0 s2_0 => ?_; refine kept_at hb2 (w.heap.size + 1) (by go_size) fun c2_1 z2_1 s2_1 => ?_; refine kept_at hb2 (w.heap.size + 1 + 1) (by go_size) fun c2_2 z2_2 s2_2 => ?_; refine kept_at hb2 (w.heap.size + 1 + 1 + 1) (by go_size) fun c2_3 z2_3 s2_3 => ?_; have e2 := kept_trans (a := u) (by go_grown) hb2)
            | (go_at_call 127; refine (validPercent_any _ _).mono ?_; rintro e w3 ⟨rfl, hb3⟩; refine kept_at hb3 (w.heap.size) (by go_size) fun c3_0 z3_0 s3_0 => ?_; refine kept_at hb3 (w.heap.size + 1) (by go_size) fun c3_1 z3_1 s3_1 => ?_; refine kept_at hb3 (w.heap.size + 1 + 1) (by go_size) fun c3_2 z3_2 s3_2 => ?_; refine kept_at hb3 (w.heap.size + 1 + 1 + 1) (by go_size) fun c3_3 z3_3 s3_3 => ?_; have e3 := kept_trans (a := u) (by go_grown) hb3)
            | (go_at_call 124; refine (HC.out _ _ (rdT3 (by go_size) (by go_simp) (by go_simp) (by go_simp))).mono ?_; rintro e w4 ⟨rfl, hb4⟩; refine kept_at hb4 (w.heap.size) (by go_size) fun c4_0 z4_0 s4_0 => ?_; refine kept_at hb4 (w.heap.size + 1) (by go_size) fun c4_1 z4_1 s4_1 => ?_; refine kept_at hb4 (w.heap.size + 1 + 1) (by go_size) fun c4_2 z4_2 s4_2 => ?_; refine kept_at hb4 (w.heap.size + 1 + 1 + 1) (by go_size) fun c4_3 z4_3 s4_3 => ?_; have e4 := kept_trans (a := u) (by first | (go_grown; done) | (go_grown; exact e3.size)) hb4))
        | fail
      all_goals
        go_wp2_with fail
        refine (HSEARCH.out _ ⟨_, BaBox_kept UB.out e4⟩ ((kept_cell e4 _ 0 hk1).trans u1) ((kept_cell e4 _ 0 hk2).trans u2) ((kept_cell e4 _ 0 hk3).trans u3)).mono ?_
        rintro e w9 ⟨rfl, hg9⟩
        have b9 : Below w.heap.size w w9 := grown_below (kept_trans ubl e4) hg9 (fun g hg => by injection hg with hg; omega)
        go_wp2
        go_ret2
        exact ⟨rfl, b9⟩
    · rw [if_neg hL]
      simp only [if_neg hL] at HSEARCH
      go_enter Tryd.func36, Tryd.ntmps36
      go_wp2_with fail
      have hu := lbAt_new s m b j a c d l r q w
      generalize ((((w.alloc (.cells #[.int .i64 s, .int .i64 m, .int .i64 b, .int .i64 j, .int .i64 a, .int .i64 c, .int .i64 d] 61)).alloc (.cells #[.int .i64 l] 2)).alloc (.cells #[.int .i64 r] 2)).alloc (.cells #[.int .i64 q] 2)) = u at *
      obtain ⟨ub, u1, u2, u3, uz, ubl⟩ := hu
      obtain ⟨a0, a1, a2, a3, a4, a5, a6⟩ := BaBox_at ub
      have UB := Lib.hid ub; clear ub
      have hk0 : w.heap.size < u.heap.size := by omega
      have hk1 : w.heap.size + 1 < u.heap.size := by omega
      have hk2 : w.heap.size + 1 + 1 < u.heap.size := by omega
      have hk3 : w.heap.size + 1 + 1 + 1 < u.heap.size := by omega
      clear uz
      first
        | go_region_held3 (fun w' => w'.cell? ⟨w.heap.size, 0, none⟩ = some (.int .i64 s) ∧ w'.cell? ⟨w.heap.size, 1, none⟩ = some (.int .i64 m) ∧ w'.cell? ⟨w.heap.size, 2, none⟩ = some (.int .i64 b) ∧ w'.cell? ⟨w.heap.size, 3, none⟩ = some (.int .i64 j) ∧ w'.cell? ⟨w.heap.size, 4, none⟩ = some (.int .i64 a) ∧ w'.cell? ⟨w.heap.size, 5, none⟩ = some (.int .i64 c) ∧ w'.cell? ⟨w.heap.size, 6, none⟩ = some (.int .i64 d) ∧ w'.cell? ⟨w.heap.size + 1, 0, none⟩ = some (.int .i64 l) ∧ w'.cell? ⟨w.heap.size + 1 + 1, 0, none⟩ = some (.int .i64 r) ∧ w'.cell? ⟨w.heap.size + 1 + 1 + 1, 0, none⟩ = some (.int .i64 q)) (go_keep) (first
            | (go_at_call 125; refine (validLoad_any _ _).mono ?_; rintro e w1 ⟨rfl, hb1⟩; refine kept_at hb1 (w.heap.size) (by go_size) fun c1_0 z1_0 s1_0 => ?_; refine kept_at hb1 (w.heap.size + 1) (by go_size) fun c1_1 z1_1 s1_1 => ?_; refine kept_at hb1 (w.heap.size + 1 + 1) (by go_size) fun c1_2 z1_2 s1_2 => ?_; refine kept_at hb1 (w.heap.size + 1 + 1 + 1) (by go_size) fun c1_3 z1_3 s1_3 => ?_; have e1 := kept_trans (a := u) (by go_grown) hb1)
            | (go_at_call 126; refine (validRadius_any _ _).mono ?_; rintro e w2 ⟨rfl, hb2⟩; refine kept_at hb2 (w.heap.size) (by go_size) fun c2_0 z2_0 s2_0 => ?_; refine kept_at hb2 (w.heap.size + 1) (by go_size) fun c2_1 z2_1 s2_1 => ?_; refine kept_at hb2 (w.heap.size + 1 + 1) (by go_size) fun c2_2 z2_2 s2_2 => ?_; refine kept_at hb2 (w.heap.size + 1 + 1 + 1) (by go_size) fun c2_3 z2_3 s2_3 => ?_; have e2 := kept_trans (a := u) (by go_grown) hb2)
            | (go_at_call 127; refine (validPercent_any _ _).mono ?_; rintro e w3 ⟨rfl, hb3⟩; refine kept_at hb3 (w.heap.size) (by go_size) fun c3_0 z3_0 s3_0 => ?_; refine kept_at hb3 (w.heap.size + 1) (by go_size) fun c3_1 z3_1 s3_1 => ?_; refine kept_at hb3 (w.heap.size + 1 + 1) (by go_size) fun c3_2 z3_2 s3_2 => ?_; refine kept_at hb3 (w.heap.size + 1 + 1 + 1) (by go_size) fun c3_3 z3_3 s3_3 => ?_; have e3 := kept_trans (a := u) (by go_grown) hb3)
            | (go_at_call 124; refine (HC.out _ _ (rdT3 (by go_size) (by go_simp) (by go_simp) (by go_simp))).mono ?_; rintro e w4 ⟨rfl, hb4⟩; refine kept_at hb4 (w.heap.size) (by go_size) fun c4_0 z4_0 s4_0 => ?_; refine kept_at hb4 (w.heap.size + 1) (by go_size) fun c4_1 z4_1 s4_1 => ?_; refine kept_at hb4 (w.heap.size + 1 + 1) (by go_size) fun c4_2 z4_2 s4_2 => ?_; refine kept_at hb4 (w.heap.size + 1 + 1 + 1) (by go_size) fun c4_3 z4_3 s4_3 => ?_; have e4 := kept_trans (a := u) (by first | (go_grown; done) | (go_grown; exact e3.size)) hb4))
        | fail
      all_goals
        go_wp2_with fail
        refine (HSEARCH.out _ ⟨_, BaBox_kept UB.out e4⟩ ((kept_cell e4 _ 0 hk1).trans u1) ((kept_cell e4 _ 0 hk2).trans u2) ((kept_cell e4 _ 0 hk3).trans u3)).mono ?_
        rintro e w9 ⟨rfl, hg9⟩
        have b9 : Below w.heap.size w w9 := grown_below (kept_trans ubl e4) hg9 (fun g hg => by injection hg with hg; omega)
        go_wp2
        go_ret2
        exact ⟨rfl, b9⟩
  · rw [if_neg hK]
    have hK1 : (codeL3 (baseB s m b j a c d) [inB l 0 50000, inB r 0 1000, inB q 100 1000] == 0) = false := by simpa using hK
    have hK2 : (codeL3 (baseB s m b j a c d) [inB l 0 50000, inB r 0 1000, inB q 100 1000] != 0) = true := by simpa using hK
    generalize codeL3 (baseB s m b j a c d) [inB l 0 50000, inB r 0 1000, inB q 100 1000] = K at *
    have HC := Lib.hid (fun u v x => HC u v x)
    go_enter Tryd.func36, Tryd.ntmps36
    go_wp2_with fail
    have hu := lbAt_new s m b j a c d l r q w
    generalize ((((w.alloc (.cells #[.int .i64 s, .int .i64 m, .int .i64 b, .int .i64 j, .int .i64 a, .int .i64 c, .int .i64 d] 61)).alloc (.cells #[.int .i64 l] 2)).alloc (.cells #[.int .i64 r] 2)).alloc (.cells #[.int .i64 q] 2)) = u at *
    obtain ⟨ub, u1, u2, u3, uz, ubl⟩ := hu
    obtain ⟨a0, a1, a2, a3, a4, a5, a6⟩ := BaBox_at ub
    have UB := Lib.hid ub; clear ub
    have hk0 : w.heap.size < u.heap.size := by omega
    have hk1 : w.heap.size + 1 < u.heap.size := by omega
    have hk2 : w.heap.size + 1 + 1 < u.heap.size := by omega
    have hk3 : w.heap.size + 1 + 1 + 1 < u.heap.size := by omega
    clear uz
    first
      | go_region_held3 (fun w' => w'.cell? ⟨w.heap.size, 0, none⟩ = some (.int .i64 s) ∧ w'.cell? ⟨w.heap.size, 1, none⟩ = some (.int .i64 m) ∧ w'.cell? ⟨w.heap.size, 2, none⟩ = some (.int .i64 b) ∧ w'.cell? ⟨w.heap.size, 3, none⟩ = some (.int .i64 j) ∧ w'.cell? ⟨w.heap.size, 4, none⟩ = some (.int .i64 a) ∧ w'.cell? ⟨w.heap.size, 5, none⟩ = some (.int .i64 c) ∧ w'.cell? ⟨w.heap.size, 6, none⟩ = some (.int .i64 d) ∧ w'.cell? ⟨w.heap.size + 1, 0, none⟩ = some (.int .i64 l) ∧ w'.cell? ⟨w.heap.size + 1 + 1, 0, none⟩ = some (.int .i64 r) ∧ w'.cell? ⟨w.heap.size + 1 + 1 + 1, 0, none⟩ = some (.int .i64 q)) (go_keep) (first
          | (go_at_call 125; refine (validLoad_any _ _).mono ?_; rintro e w1 ⟨rfl, hb1⟩; refine kept_at hb1 (w.heap.size) (by go_size) fun c1_0 z1_0 s1_0 => ?_; refine kept_at hb1 (w.heap.size + 1) (by go_size) fun c1_1 z1_1 s1_1 => ?_; refine kept_at hb1 (w.heap.size + 1 + 1) (by go_size) fun c1_2 z1_2 s1_2 => ?_; refine kept_at hb1 (w.heap.size + 1 + 1 + 1) (by go_size) fun c1_3 z1_3 s1_3 => ?_; have e1 := kept_trans (a := u) (by go_grown) hb1)
          | (go_at_call 126; refine (validRadius_any _ _).mono ?_; rintro e w2 ⟨rfl, hb2⟩; refine kept_at hb2 (w.heap.size) (by go_size) fun c2_0 z2_0 s2_0 => ?_; refine kept_at hb2 (w.heap.size + 1) (by go_size) fun c2_1 z2_1 s2_1 => ?_; refine kept_at hb2 (w.heap.size + 1 + 1) (by go_size) fun c2_2 z2_2 s2_2 => ?_; refine kept_at hb2 (w.heap.size + 1 + 1 + 1) (by go_size) fun c2_3 z2_3 s2_3 => ?_; have e2 := kept_trans (a := u) (by go_grown) hb2)
          | (go_at_call 127; refine (validPercent_any _ _).mono ?_; rintro e w3 ⟨rfl, hb3⟩; refine kept_at hb3 (w.heap.size) (by go_size) fun c3_0 z3_0 s3_0 => ?_; refine kept_at hb3 (w.heap.size + 1) (by go_size) fun c3_1 z3_1 s3_1 => ?_; refine kept_at hb3 (w.heap.size + 1 + 1) (by go_size) fun c3_2 z3_2 s3_2 => ?_; refine kept_at hb3 (w.heap.size + 1 + 1 + 1) (by go_size) fun c3_3 z3_3 s3_3 => ?_; have e3 := kept_trans (a := u) (by go_grown) hb3)
          | (go_at_call 124; refine (HC.out _ _ (rdT3 (by go_size) (by go_simp) (by go_simp) (by go_simp))).mono ?_; rintro e w4 ⟨rfl, hb4⟩; refine kept_at hb4 (w.heap.size) (by go_size) fun c4_0 z4_0 s4_0 => ?_; refine kept_at hb4 (w.heap.size + 1) (by go_size) fun c4_1 z4_1 s4_1 => ?_; refine kept_at hb4 (w.heap.size + 1 + 1) (by go_size) fun c4_2 z4_2 s4_2 => ?_; refine kept_at hb4 (w.heap.size + 1 + 1 + 1) (by go_size) fun c4_3 z4_3 s4_3 => ?_; have e4 := kept_trans (a := u) (by first | (go_grown; done) | (go_grown; exact e3.size)) hb4))
      | fail
    all_goals
      go_wp2
      go_ret2
      exact ⟨rfl, kept_trans ubl e4⟩

theorem join_step {α : Type} (f : α → List UInt8) (sep : List UInt8) (zs : List α) (k : Nat) (h : k < zs.length) : Lib.join ((zs.take (k + 1)).map f) sep = Lib.join ((zs.take k).map f) sep ++ ((if k = 0 then [] else sep) ++ f zs[k]) := by
  cases zs with
  | nil => simp at h
  | cons z r =>
    cases k with
    | zero => simp [Lib.join_one, Lib.join_nil]
    | succ m =>
      have hr : (r.map f)[m]? = some (f (r[m]'(by simpa using h))) := by rw [List.getElem?_map, List.getElem?_eq_getElem (by simpa using h)]; rfl
      have hs := Lib.joinTail_take_succ sep (r.map f) m _ hr
      simp only [List.take_succ_cons, List.map_cons, List.map_take, Lib.join_cons, hs, List.getElem_cons_succ]
      simp [List.append_assoc]

/-- The words of a base's text. -/
def bwords : List (List UInt8) := [[115, 105, 100, 101], [109, 97, 115, 115], [98, 97, 108, 108, 97, 115, 116], [106, 105, 98], [97, 116], [99, 111, 117, 110, 116, 101, 114], [97, 116]]

def bseg (z : List UInt8 × Int) : List UInt8 := z.1 ++ 32 :: Lib.itoa z.2

/-- The text of a base. -/
def btextL (s m b j a c d : Int) : List UInt8 := if baseB s m b j a c d then Lib.join ((bwords.zip [s, m, b, j, a, c, d]).map bseg) [32] else []

theorem btext_len {zs : List (List UInt8 × Int)} (h : ∀ k, (hk : k < zs.length) → (bseg zs[k]).length ≤ 29) (k : Nat) (hk : k ≤ zs.length) : (Lib.join ((zs.take k).map bseg) [32]).length ≤ 30 * k := by
  induction k with
  | zero => simp [Lib.join_nil]
  | succ k ih =>
    rw [join_step bseg [32] zs k hk, List.length_append, List.length_append]
    have h1 := ih (by omega)
    have h2 := h k hk
    split <;> simp only [List.length_nil, List.length_cons] <;> omega

theorem btext_14 (x0 x1 x2 x3 x4 x5 x6 : List UInt8) : Lib.join [[115, 105, 100, 101], x0, [109, 97, 115, 115], x1, [98, 97, 108, 108, 97, 115, 116], x2, [106, 105, 98], x3, [97, 116], x4, [99, 111, 117, 110, 116, 101, 114], x5, [97, 116], x6] [32] =
    Lib.join [[115, 105, 100, 101] ++ 32 :: x0, [109, 97, 115, 115] ++ 32 :: x1, [98, 97, 108, 108, 97, 115, 116] ++ 32 :: x2, [106, 105, 98] ++ 32 :: x3, [97, 116] ++ 32 :: x4, [99, 111, 117, 110, 116, 101, 114] ++ 32 :: x5, [97, 116] ++ 32 :: x6] [32] := by
  simp [Lib.join_cons, Lib.joinTail, List.append_assoc]

theorem bt_cells (s m b j a c d : Int) (w : World) (k : Nat) (hk : k < (bwords.zip [s, m, b, j, a, c, d]).length) :
    (((w.alloc (.cells #[.int .i64 s, .int .i64 m, .int .i64 b, .int .i64 j, .int .i64 a, .int .i64 c, .int .i64 d] 61)).alloc (.cells #[.int .i64 s, .int .i64 m, .int .i64 b, .int .i64 j, .int .i64 a, .int .i64 c, .int .i64 d] 2)).alloc (.cells #[.string ⟨#[115, 105, 100, 101]⟩, .string ⟨#[109, 97, 115, 115]⟩, .string ⟨#[98, 97, 108, 108, 97, 115, 116]⟩, .string ⟨#[106, 105, 98]⟩, .string ⟨#[97, 116]⟩, .string ⟨#[99, 111, 117, 110, 116, 101, 114]⟩, .string ⟨#[97, 116]⟩] 9)).cell? ⟨w.heap.size + 1, k, none⟩ = some (.int .i64 (bwords.zip [s, m, b, j, a, c, d])[k].2) ∧ (((w.alloc (.cells #[.int .i64 s, .int .i64 m, .int .i64 b, .int .i64 j, .int .i64 a, .int .i64 c, .int .i64 d] 61)).alloc (.cells #[.int .i64 s, .int .i64 m, .int .i64 b, .int .i64 j, .int .i64 a, .int .i64 c, .int .i64 d] 2)).alloc (.cells #[.string ⟨#[115, 105, 100, 101]⟩, .string ⟨#[109, 97, 115, 115]⟩, .string ⟨#[98, 97, 108, 108, 97, 115, 116]⟩, .string ⟨#[106, 105, 98]⟩, .string ⟨#[97, 116]⟩, .string ⟨#[99, 111, 117, 110, 116, 101, 114]⟩, .string ⟨#[97, 116]⟩] 9)).cell? ⟨w.heap.size + 1 + 1, k, none⟩ = some (.string ⟨(bwords.zip [s, m, b, j, a, c, d])[k].1.toArray⟩) := by
  match k, hk with
  | 0, _ => exact ⟨by go_simp, by go_simp; rfl⟩
  | 1, _ => exact ⟨by go_simp, by go_simp; rfl⟩
  | 2, _ => exact ⟨by go_simp, by go_simp; rfl⟩
  | 3, _ => exact ⟨by go_simp, by go_simp; rfl⟩
  | 4, _ => exact ⟨by go_simp, by go_simp; rfl⟩
  | 5, _ => exact ⟨by go_simp, by go_simp; rfl⟩
  | 6, _ => exact ⟨by go_simp, by go_simp; rfl⟩
  | k + 7, h => simp [bwords] at h; omega

theorem cat5 (T X Y : List UInt8) : ByteArray.mk T.toArray ++ (ByteArray.mk X.toArray ++ ByteArray.mk #[32] ++ ByteArray.mk Y.toArray) = ByteArray.mk (T ++ (X ++ 32 :: Y)).toArray := by
  rw [show ByteArray.mk #[32] = ByteArray.mk ([32] : List UInt8).toArray from rfl, ByteArray.mk_append_mk, ByteArray.mk_append_mk, ByteArray.mk_append_mk]
  simp

theorem cat6 (T X Y : List UInt8) : (ByteArray.mk T.toArray ++ ByteArray.mk #[32]) ++ (ByteArray.mk X.toArray ++ ByteArray.mk #[32] ++ ByteArray.mk Y.toArray) = ByteArray.mk (T ++ ([32] ++ (X ++ 32 :: Y))).toArray := by
  rw [show ByteArray.mk #[32] = ByteArray.mk ([32] : List UInt8).toArray from rfl, ByteArray.mk_append_mk, ByteArray.mk_append_mk, ByteArray.mk_append_mk, ByteArray.mk_append_mk]
  simp

theorem bt_bd {s m b j a c d : Int} (h : baseB s m b j a c d = true) (k : Nat) (hk : k < (bwords.zip [s, m, b, j, a, c, d]).length) : (0 ≤ (bwords.zip [s, m, b, j, a, c, d])[k].2 ∧ (bwords.zip [s, m, b, j, a, c, d])[k].2 ≤ 500000) ∧ (bwords.zip [s, m, b, j, a, c, d])[k].1.length ≤ 7 := by
  have hb := base_bd h
  match k, hk with
  | 0, _ => exact ⟨show 0 ≤ s ∧ s ≤ 500000 by omega, by simp [bwords]⟩
  | 1, _ => exact ⟨show 0 ≤ m ∧ m ≤ 500000 by omega, by simp [bwords]⟩
  | 2, _ => exact ⟨show 0 ≤ b ∧ b ≤ 500000 by omega, by simp [bwords]⟩
  | 3, _ => exact ⟨show 0 ≤ j ∧ j ≤ 500000 by omega, by simp [bwords]⟩
  | 4, _ => exact ⟨show 0 ≤ a ∧ a ≤ 500000 by omega, by simp [bwords]⟩
  | 5, _ => exact ⟨show 0 ≤ c ∧ c ≤ 500000 by omega, by simp [bwords]⟩
  | 6, _ => exact ⟨show 0 ≤ d ∧ d ≤ 500000 by omega, by simp [bwords]⟩
  | k + 7, h => simp [bwords] at h; omega

set_option maxHeartbeats 2000000 in
theorem specBT_any (s m b j a c d : Int) (w : World) :
    Calls Tryd.prog 40 #[.agg #[.int .i64 s, .int .i64 m, .int .i64 b, .int .i64 j, .int .i64 a, .int .i64 c, .int .i64 d]] w fun e w' => e = .returned (.string ⟨(btextL s m b j a c d).toArray⟩) ∧ Below w.heap.size w w' := by
  have HB := fun u (x : BaAt u w.heap.size s m b j a c d) => specBase_any w.heap.size s m b j a c d u x
  have HA := Lib.hid (BaAt_new s m b j a c d w)
  unfold btextL
  cases hv : baseB s m b j a c d
  · rw [hv] at HB
    have HB := Lib.hid HB
    rw [if_neg (by simp)]
    go_enter Tryd.func40, Tryd.ntmps40
    go_wp2_with fail
    refine (HB.out _ HA.out).mono ?_
    rintro e w1 ⟨rfl, rfl⟩
    go_wp2
    go_ret
    exact ⟨rfl, by go_grown⟩
  · rw [if_pos rfl]
    have hcells := bt_cells s m b j a c d w
    have hbd := fun k hk => bt_bd hv k hk
    have hb0 : Below w.heap.size w (((w.alloc (.cells #[.int .i64 s, .int .i64 m, .int .i64 b, .int .i64 j, .int .i64 a, .int .i64 c, .int .i64 d] 61)).alloc (.cells #[.int .i64 s, .int .i64 m, .int .i64 b, .int .i64 j, .int .i64 a, .int .i64 c, .int .i64 d] 2)).alloc (.cells #[.string ⟨#[115, 105, 100, 101]⟩, .string ⟨#[109, 97, 115, 115]⟩, .string ⟨#[98, 97, 108, 108, 97, 115, 116]⟩, .string ⟨#[106, 105, 98]⟩, .string ⟨#[97, 116]⟩, .string ⟨#[99, 111, 117, 110, 116, 101, 114]⟩, .string ⟨#[97, 116]⟩] 9)) := by go_grown
    have hz0 : (((w.alloc (.cells #[.int .i64 s, .int .i64 m, .int .i64 b, .int .i64 j, .int .i64 a, .int .i64 c, .int .i64 d] 61)).alloc (.cells #[.int .i64 s, .int .i64 m, .int .i64 b, .int .i64 j, .int .i64 a, .int .i64 c, .int .i64 d] 2)).alloc (.cells #[.string ⟨#[115, 105, 100, 101]⟩, .string ⟨#[109, 97, 115, 115]⟩, .string ⟨#[98, 97, 108, 108, 97, 115, 116]⟩, .string ⟨#[106, 105, 98]⟩, .string ⟨#[97, 116]⟩, .string ⟨#[99, 111, 117, 110, 116, 101, 114]⟩, .string ⟨#[97, 116]⟩] 9)).heap.size = w.heap.size + 3 := by simp
    rw [hv] at HB
    have HB := Lib.hid HB
    clear hv
    have hlen : (bwords.zip [s, m, b, j, a, c, d]).length = 7 := rfl
    generalize bwords.zip [s, m, b, j, a, c, d] = zs at *
    have Hlen := Lib.hid (btext_len (zs := zs) (fun k hk => by
      have := hbd k hk
      have h2 := Lib.itoa_length_le zs[k].2 (by omega) (by omega)
      simp only [bseg, List.length_append, List.length_cons]
      omega))
    have Hst := Lib.hid (join_step bseg [32] zs)
    have Hend := Lib.hid (show Lib.join ((zs.take zs.length).map bseg) [32] = Lib.join (zs.map bseg) [32] by rw [List.take_of_length_le (Nat.le_refl _)])
    have Hbd := Lib.hid hbd; clear hbd
    have Hc := Lib.hid hcells; clear hcells
    have HL := Lib.hid hlen; clear hlen
    go_enter Tryd.func40, Tryd.ntmps40
    go_wp2_with fail
    refine (HB.out _ HA.out).mono ?_
    rintro e w1 ⟨rfl, rfl⟩
    go_wp2_with fail
    generalize (((w.alloc (.cells #[.int .i64 s, .int .i64 m, .int .i64 b, .int .i64 j, .int .i64 a, .int .i64 c, .int .i64 d] 61)).alloc (.cells #[.int .i64 s, .int .i64 m, .int .i64 b, .int .i64 j, .int .i64 a, .int .i64 c, .int .i64 d] 2)).alloc (.cells #[.string ⟨#[115, 105, 100, 101]⟩, .string ⟨#[109, 97, 115, 115]⟩, .string ⟨#[98, 97, 108, 108, 97, 115, 116]⟩, .string ⟨#[106, 105, 98]⟩, .string ⟨#[97, 116]⟩, .string ⟨#[99, 111, 117, 110, 116, 101, 114]⟩, .string ⟨#[97, 116]⟩] 9)) = W3 at *
    go_loopw [5, 6] (fun o i wr => ∃ k : Nat, k ≤ zs.length ∧ i = .int .i64 k ∧ o = .string ⟨(Lib.join ((zs.take k).map bseg) [32]).toArray⟩ ∧ Below W3.heap.size W3 wr) (fun _ i _ => 7 - (intOf i).toNat)
    case atStart => exact ⟨0, by omega, rfl, rfl, Below.refl _ _⟩
    case round =>
      obtain ⟨k, hk, rfl, rfl, hb⟩ := hrel
      by_cases hlt : k < zs.length
      · have hk7 : k < 7 := by rw [← HL.out]; exact hlt
        obtain ⟨hc0, hc1⟩ := Hc.out k hlt
        have hsz := hb.size
        rw [← kept_cell hb _ _ (by omega)] at hc0 hc1
        have hq0 : w.heap.size + 1 < wr.heap.size := by omega
        have hq1 : w.heap.size + 1 + 1 < wr.heap.size := by omega
        have hat := Hbd.out k hlt
        have htl := Hlen.out k hk
        have hst := Hst.out k hlt
        rw [show bseg zs[k] = zs[k].1 ++ 32 :: Lib.itoa zs[k].2 from rfl] at hst
        generalize Lib.join ((zs.take k).map bseg) [32] = T at *
        generalize zs[k].1 = x at *
        generalize zs[k].2 = y at *
        have hly := Lib.itoa_length_le y (by omega) (by omega)
        have c3 := cat5 T x (Lib.itoa y)
        have c4 := cat6 T x (Lib.itoa y)
        have z1 := cat_size T
        have z2 := cat_size x
        have z3 := cat_size (Lib.itoa y)
        have HST := Lib.hid hst; clear hst
        by_cases h0 : k = 0
        · subst h0
          have hF := c3.trans (show _ = ByteArray.mk (Lib.join ((zs.take (0 + 1)).map bseg) [32]).toArray by rw [HST.out]; simp)
          clear c3 c4
          generalize hbx : ByteArray.mk x.toArray = bx at *
          generalize hby : ByteArray.mk (Lib.itoa y).toArray = by' at *
          generalize ByteArray.mk T.toArray = bt at *
          have hq1 : ¬ 9223372036854775807 < bx.size + 1 := by omega
          have hq2 : ¬ 9223372036854775807 < bx.size + 1 + by'.size := by omega
          have hq3 : ¬ 9223372036854775807 < bt.size + (bx.size + 1 + by'.size) := by omega
          clear z1 z2 z3
          have HF := Lib.hid hF; clear hF
          go_wp2_with fail
          go_region_held3 (fun w' => w'.cell? ⟨w.heap.size + 1, 0, none⟩ = some (.int .i64 y) ∧ w'.cell? ⟨w.heap.size + 1 + 1, 0, none⟩ = some (.string bx)) (go_keep)
            ((go_at_call 134; refine (specDec_any _ (by omega) _).mono ?_; rintro e w1 ⟨rfl, hb1⟩; replace hb1 := kept_trans (a := wr) (by go_grown) hb1; have hcl := kept_cell hb1))
          go_wp2
          go_roundw
          case rel => exact ⟨1, by omega, by go_num, by rw [← HF.out], kept_trans hb (by assumption)⟩
          case measure => simp [intOf] <;> omega
        · have hkd : decide (0 < k) = true := by simp; omega
          have hF := c4.trans (show _ = ByteArray.mk (Lib.join ((zs.take (k + 1)).map bseg) [32]).toArray by rw [HST.out, if_neg h0])
          clear c3 c4
          generalize hbx : ByteArray.mk x.toArray = bx at *
          generalize hby : ByteArray.mk (Lib.itoa y).toArray = by' at *
          generalize ByteArray.mk T.toArray = bt at *
          have hq0' : ¬ 9223372036854775807 < bt.size + 1 := by omega
          have hq1' : ¬ 9223372036854775807 < bx.size + 1 := by omega
          have hq2' : ¬ 9223372036854775807 < bx.size + 1 + by'.size := by omega
          have hq4' : ¬ 9223372036854775807 < bt.size + 1 + (bx.size + 1 + by'.size) := by omega
          clear z1 z2 z3
          have HF := Lib.hid hF; clear hF
          go_wp2_with fail
          go_region_held3 (fun w' => w'.cell? ⟨w.heap.size + 1, k, none⟩ = some (.int .i64 y) ∧ w'.cell? ⟨w.heap.size + 1 + 1, k, none⟩ = some (.string bx)) (go_keep)
            ((go_at_call 134; refine (specDec_any _ (by omega) _).mono ?_; rintro e w1 ⟨rfl, hb1⟩; replace hb1 := kept_trans (a := wr) (by go_grown) hb1; have hcl := kept_cell hb1))
          go_wp2
          go_roundw
          case rel => exact ⟨k + 1, by omega, by go_num, by rw [← HF.out], kept_trans hb (by assumption)⟩
          case measure => simp [intOf] <;> omega
      · have hk' : k = zs.length := by omega
        have hk7 : ¬ k < 7 := by rw [← HL.out]; exact hlt
        have hE : Lib.join ((zs.take k).map bseg) [32] = Lib.join (zs.map bseg) [32] := by rw [hk', Hend.out]
        rw [hE]
        clear hk hlt hk' hE
        go_wp2
        go_ret
        exact ⟨rfl, kept_trans hb0 hb⟩

/-- The parts of a base's text. -/
def b14 (x0 x1 x2 x3 x4 x5 x6 : List UInt8) : List ByteArray := [⟨#[115, 105, 100, 101]⟩, ⟨x0.toArray⟩, ⟨#[109, 97, 115, 115]⟩, ⟨x1.toArray⟩, ⟨#[98, 97, 108, 108, 97, 115, 116]⟩, ⟨x2.toArray⟩, ⟨#[106, 105, 98]⟩, ⟨x3.toArray⟩, ⟨#[97, 116]⟩, ⟨x4.toArray⟩, ⟨#[99, 111, 117, 110, 116, 101, 114]⟩, ⟨x5.toArray⟩, ⟨#[97, 116]⟩, ⟨x6.toArray⟩]

theorem b14_cells (xs : List ByteArray) (u : World) (t : TypeId) (j : Nat) (x : ByteArray) (h : xs[j]? = some x) : (u.alloc (.cells (xs.map Value.string).toArray t)).cell? ⟨u.heap.size, 0 + j, none⟩ = some (.string x) := by
  rw [cell_of_row _ _ (0 + j) _ _ _ (heap_alloc_new u _)]
  simp [h]

theorem b14_join (x0 x1 x2 x3 x4 x5 x6 : List UInt8) : Lib.join ((b14 x0 x1 x2 x3 x4 x5 x6).map (·.data.toList)) [32] = Lib.join [[115, 105, 100, 101] ++ 32 :: x0, [109, 97, 115, 115] ++ 32 :: x1, [98, 97, 108, 108, 97, 115, 116] ++ 32 :: x2, [106, 105, 98] ++ 32 :: x3, [97, 116] ++ 32 :: x4, [99, 111, 117, 110, 116, 101, 114] ++ 32 :: x5, [97, 116] ++ 32 :: x6] [32] := by
  rw [← btext_14]
  rfl

set_option maxHeartbeats 4000000 in
theorem implBT_any (s m b j a c d : Int) (w : World) (ht : PowTab w) :
    Calls Tryd.prog 53 #[.agg #[.int .i64 s, .int .i64 m, .int .i64 b, .int .i64 j, .int .i64 a, .int .i64 c, .int .i64 d]] w fun e w' => e = .returned (.string ⟨(btextL s m b j a c d).toArray⟩) ∧ Below w.heap.size w w' := by
  have HB := fun u => implVB_any s m b j a c d u
  unfold btextL
  cases hv : baseB s m b j a c d
  · rw [hv] at HB
    have HB := Lib.hid HB
    rw [if_neg (by simp)]
    clear ht
    go_enter Tryd.func53, Tryd.ntmps53
    go_wp2_with fail
    refine (HB.out _).mono ?_
    rintro e w1 ⟨rfl, hb1⟩
    have b1 := kept_trans (a := w) (by go_grown) hb1
    go_wp2
    go_ret
    exact ⟨rfl, b1⟩
  · rw [if_pos rfl]
    have hbd := base_bd hv
    have hlen := btext_len (zs := bwords.zip [s, m, b, j, a, c, d]) (fun k hk => by
      have := bt_bd hv k hk
      have h2 := Lib.itoa_length_le (bwords.zip [s, m, b, j, a, c, d])[k].2 (by omega) (by omega)
      simp only [bseg, List.length_append, List.length_cons]
      omega) 7 (Nat.le_refl _)
    rw [show (bwords.zip [s, m, b, j, a, c, d]).take 7 = bwords.zip [s, m, b, j, a, c, d] from rfl] at hlen
    have hE : Lib.join ((b14 (Lib.itoa s) (Lib.itoa m) (Lib.itoa b) (Lib.itoa j) (Lib.itoa a) (Lib.itoa c) (Lib.itoa d)).map (·.data.toList)) [32] = Lib.join ((bwords.zip [s, m, b, j, a, c, d]).map bseg) [32] := by
      rw [b14_join]
      rfl
    rw [← hE] at hlen ⊢
    have HJ := Lib.hid (fun (u : World) => Tryd.strings_Join u.heap.size 0 14 (b14 (Lib.itoa s) (Lib.itoa m) (Lib.itoa b) (Lib.itoa j) (Lib.itoa a) (Lib.itoa c) (Lib.itoa d)) ⟨#[32]⟩ (u.alloc (.cells ((b14 (Lib.itoa s) (Lib.itoa m) (Lib.itoa b) (Lib.itoa j) (Lib.itoa a) (Lib.itoa c) (Lib.itoa d)).map Value.string).toArray 9))
      (fun j x h => b14_cells _ u _ j x h) (by simp) (by simp [b14]) (by simp [b14]) (by
        show (Lib.join _ [32]).length ≤ _
        omega))
    rw [hv] at HB
    have HB := Lib.hid HB
    have HT := Lib.hid ht; clear ht hE hlen hv
    generalize hF : Lib.join ((b14 (Lib.itoa s) (Lib.itoa m) (Lib.itoa b) (Lib.itoa j) (Lib.itoa a) (Lib.itoa c) (Lib.itoa d)).map (·.data.toList)) [32] = F at *
    go_enter Tryd.func53, Tryd.ntmps53
    go_wp2_with fail
    refine (HB.out _).mono ?_
    rintro e w1 ⟨rfl, hb1⟩
    refine kept_at hb1 w.heap.size (by go_size) fun c1_0 z1_0 s1_0 => ?_
    have b1 := kept_trans (a := w) (by go_grown) hb1
    have FT := Lib.hid (tab_kept HT.out b1)
    go_wp2_with fail
    go_region_held3 (fun w' => w'.cell? ⟨w.heap.size, 0, none⟩ = some (.int .i64 s) ∧ w'.cell? ⟨w.heap.size, 1, none⟩ = some (.int .i64 m) ∧ w'.cell? ⟨w.heap.size, 2, none⟩ = some (.int .i64 b) ∧ w'.cell? ⟨w.heap.size, 3, none⟩ = some (.int .i64 j) ∧ w'.cell? ⟨w.heap.size, 4, none⟩ = some (.int .i64 a) ∧ w'.cell? ⟨w.heap.size, 5, none⟩ = some (.int .i64 c) ∧ w'.cell? ⟨w.heap.size, 6, none⟩ = some (.int .i64 d)) (go_keep) (first
          | (go_at_call 90; refine (implDecimal_any _ (by omega) _ ?ht).mono ?_; (case ht => first | exact FT.out | exact tab_kept FT.out (by assumption)); rintro e w2 ⟨rfl, hb2⟩; refine kept_at hb2 w.heap.size (by go_size) fun c2_0 z2_0 s2_0 => ?_; replace hb2 := kept_trans (a := w1) (by go_grown) hb2)
          | (go_at_call 91; refine (HJ.out _).mono ?_; rintro e w3 ⟨rfl, hb3⟩; refine kept_at hb3 w.heap.size (by go_size) fun c3_0 z3_0 s3_0 => ?_; have b3 := kept_trans (a := w1) (by first | (go_grown; done) | (go_grown; exact hb2.size)) hb3))
    all_goals
      go_wp2
      go_ret
      exact ⟨rfl, kept_trans b1 b3⟩

/-- A source of choices in block B, its bytes in a block before L, at most N bytes on. -/
def Src (w : World) (L B N : Nat) : Prop := L ≤ B ∧ ∃ A n c, (∀ k, k < n → ∃ b off z, A = some ⟨b, off, none⟩ ∧ b < L ∧ b < w.heap.size ∧ w.cell? ⟨b, off + k, none⟩ = some (.int .u8 z) ∧ 0 ≤ z ∧ z ≤ 255) ∧ n ≤ 1000000 ∧ ∃ M, M ≤ N ∧ SrcAt w B (.slice A n c) M

theorem Src_lt {w : World} {L B N : Nat} (h : Src w L B N) : B < w.heap.size := by
  obtain ⟨_, A, n, c, _, _, M, _, s, _, _, hb⟩ := h
  exact World.block_lt_of_cell? _ _ (cell_of_row w B 1 _ _ _ hb)

theorem Src_grown {w w1 : World} {L B N : Nat} {row : Option Nat} (h : Src w L B N) (hg : w.grownBy w1 row) (hr : ∀ g, row = some g → L ≤ g ∧ g ≠ B) : Src w1 L B N := by
  have hB := Src_lt h
  obtain ⟨hL, A, n, c, hr0, hn, M, hM, s, s0, s1, hb⟩ := h
  refine ⟨hL, A, n, c, fun k hk => ?_, hn, M, hM, s, s0, s1, ?_⟩
  · obtain ⟨b, off, z, e, hlt, hlw, hc, z0, z1⟩ := hr0 k hk
    exact ⟨b, off, z, e, hlt, Nat.lt_of_lt_of_le hlw hg.size, hg.cell hc (fun e => by have := hr b e.symm; omega), z0, z1⟩
  · rw [hg.block B hB (fun e => (hr B e.symm).2 rfl)]
    exact hb

theorem Src_below {w w1 : World} {L B N : Nat} (h : Src w L B N) (hb : Below w.heap.size w w1) : Src w1 L B N := Src_grown h (below_grown hb none) (fun g hg => by cases hg)

theorem Src_set {w : World} {L B N p o : Nat} {v : Value} (h : Src w L B N) (h1 : L ≤ p) (h2 : p ≠ B) : Src (w.setCell ⟨p, o, none⟩ v) L B N := Src_grown h (grown_set _ _ _) (fun g hg => by injection hg with hg; subst hg; exact ⟨h1, h2⟩)

theorem Src_more {w : World} {L B N K : Nat} (h : Src w L B N) (hk : N ≤ K) : Src w L B K := by
  obtain ⟨hL, A, n, c, hr0, hn, M, hM, r⟩ := h
  exact ⟨hL, A, n, c, hr0, hn, M, by omega, r⟩

theorem nextS_any (L B N : Nat) (w : World) (h : Src w L B N) (hN : N < 900000000) :
    Calls Tryd.prog 250 #[.pointer (some ⟨B, 0, none⟩)] w fun e w' => ∃ x : Int, (0 ≤ x ∧ x ≤ 255) ∧ e = .returned (.int .i64 x) ∧ Src w' L B (N + 1) ∧ w.grownBy w' (some B) := by
  obtain ⟨hL, A, n, c, hr0, hn, M, hM, hs⟩ := h
  have hrb : RdB w A n B := fun k hk => by
    obtain ⟨b, off, z, e, hlt, hlw, hc, z0, z1⟩ := hr0 k hk
    exact ⟨b, off, z, e, hlw, by omega, hc, z0, z1⟩
  refine (next_any B A n c M w hs hrb (by omega) hn).mono ?_
  rintro e w' ⟨x, x0, x1, rfl, hs', hg⟩
  refine ⟨x, ⟨x0, x1⟩, rfl, ⟨hL, A, n, c, fun k hk => ?_, hn, M + 1, by omega, hs'⟩, hg⟩
  obtain ⟨b, off, z, e, hlt, hlw, hc, z0, z1⟩ := hr0 k hk
  exact ⟨b, off, z, e, hlt, Nat.lt_of_lt_of_le hlw hg.size, hg.cell hc (fun e => (show b ≠ B by omega) (by injection e)), z0, z1⟩

theorem pickS_any (L B N : Nat) (m : Int) (w : World) (h : Src w L B N) (hN : N < 800000000) (hm : -1000000 ≤ m ∧ m ≤ 1000000) :
    Calls Tryd.prog 189 #[.pointer (some ⟨B, 0, none⟩), .int .i64 m] w fun e w' => ∃ x : Int, (0 ≤ x ∧ x ≤ 1000000 ∧ (1 ≤ m → x < m)) ∧ e = .returned (.int .i64 x) ∧ Src w' L B (N + 2) ∧ w.grownBy w' (some B) := by
  by_cases h1 : m ≤ 1
  · go_enter Tryd.func189, Tryd.ntmps189
    go_wp2
    go_ret
    exact ⟨0, by omega, rfl, Src_more h (by omega), World.grownBy.refl _ _⟩
  have hne : (m == 0) = false := by simp; omega
  have hm0 : ¬ m = 0 := by omega
  have hm1 : ¬ m = -1 := by omega
  by_cases h2 : 200 < m
  · have H := Lib.hid h; clear h
    go_enter Tryd.func189, Tryd.ntmps189
    go_wp2_with fail
    refine (nextS_any L B N _ H.out (by omega)).mono ?_
    rintro e w1 ⟨x, hx, rfl, hs1, hg1⟩
    have HS1 := Lib.hid hs1; clear hs1
    go_wp2_with fail
    refine (nextS_any L B (N + 1) _ HS1.out (by omega)).mono ?_
    rintro e w2 ⟨y, hy, rfl, hs2, hg2⟩
    have hrem : (x * 256 + y).tmod m = (x * 256 + y) % m := tmod_pos _ _ (by omega)
    have h0 := Int.emod_nonneg (x * 256 + y) hm0
    have h1' := Int.emod_lt_of_pos (x * 256 + y) (show 0 < m by omega)
    have HREM := Lib.hid hrem; clear hrem
    have HS2 := Lib.hid hs2; clear hs2
    go_wp2
    go_ret
    refine ⟨(x * 256 + y) % m, ⟨h0, by omega, fun _ => h1'⟩, ?_, HS2.out, grown_step hg1 hg2⟩
    first | rfl | (show Ending.returned _ = _; simp [HREM.out])
  · have H := Lib.hid h; clear h
    go_enter Tryd.func189, Tryd.ntmps189
    go_wp2_with fail
    refine (nextS_any L B N _ H.out (by omega)).mono ?_
    rintro e w1 ⟨x, hx, rfl, hs1, hg1⟩
    have hrem : x.tmod m = x % m := tmod_pos _ _ (by omega)
    have h0 := Int.emod_nonneg x hm0
    have h1' := Int.emod_lt_of_pos x (show 0 < m by omega)
    have HREM := Lib.hid hrem; clear hrem
    have HS1 := Lib.hid hs1; clear hs1
    go_wp2
    go_ret
    refine ⟨x % m, ⟨h0, by omega, fun _ => h1'⟩, ?_, Src_more HS1.out (by omega), hg1⟩
    first | rfl | (show Ending.returned _ = _; simp [HREM.out])

theorem oneS_any (L B N : Nat) (m : Int) (w : World) (h : Src w L B N) (hN : N < 800000000) (hm : -1000000 ≤ m ∧ m ≤ 1000000) :
    Calls Tryd.prog 266 #[.pointer (some ⟨B, 0, none⟩), .int .i64 m] w fun e w' => ∃ x : Bool, e = .returned (.bool x) ∧ Src w' L B (N + 2) ∧ w.grownBy w' (some B) := by
  have H := Lib.hid h; clear h
  go_enter Tryd.func266, Tryd.ntmps266
  go_wp2_with fail
  refine (pickS_any L B N m _ H.out (by omega) hm).mono ?_
  rintro e w1 ⟨x, hx, rfl, hs1, hg1⟩
  have HS1 := Lib.hid hs1; clear hs1
  go_wp2
  go_ret
  exact ⟨_, rfl, HS1.out, hg1⟩

theorem amongS_any (L B N : Nat) (v : Value) (zs : List Int) (w : World) (h : Src w L B N) (hN : N < 800000000) (hr : RdI w v zs) (h0 : 1 ≤ zs.length) (h1 : zs.length ≤ 1000) (hv : ∀ A n c, v = .slice A n c → ∀ b off, A = some ⟨b, off, none⟩ → b ≠ B) :
    Calls Tryd.prog 267 #[.pointer (some ⟨B, 0, none⟩), v] w fun e w' => ∃ x : Int, x ∈ zs ∧ e = .returned (.int .i64 x) ∧ Src w' L B (N + 2) ∧ w.grownBy w' (some B) := by
  obtain ⟨hl, A, c, rfl, r1⟩ := hr
  have H := Lib.hid h; clear h
  have R := Lib.hid r1; clear r1
  have HV := Lib.hid (hv A zs.length c rfl); clear hv
  go_enter Tryd.func267, Tryd.ntmps267
  go_wp2_with fail
  refine (pickS_any L B N _ _ H.out (by omega) (by omega)).mono ?_
  rintro e w1 ⟨x, hx, rfl, hs1, hg1⟩
  obtain ⟨k, rfl⟩ : ∃ k : Nat, x = (k : Int) := ⟨x.toNat, by omega⟩
  have hk : k < zs.length := by have := hx.2.2 (by omega); omega
  obtain ⟨b, off, rfl, hbl, hc⟩ := R.out k hk
  have hc1 := hg1.cell hc (fun e => by injection e with e; exact HV.out b off rfl e)
  have HS1 := Lib.hid hs1; clear hs1 hc
  have hmem : zs[k] ∈ zs := List.getElem_mem hk
  generalize zs[k] = z at *
  go_wp2
  go_ret
  exact ⟨z, hmem, rfl, HS1.out, hg1⟩

theorem BaBox_grown {w w1 : World} {p B : Nat} {s m b j a c d : Int} (h : BaBox w p s m b j a c d) (hg : w.grownBy w1 (some B)) (hne : p ≠ B) : BaBox w1 p s m b j a c d := blk_grown h hg hne

theorem BaBox_frozen {w : World} {p : Nat} {s m b j a c d : Int} (h : BaBox w p s m b j a c d) (o : Nat) : w.frozen? ⟨p, o, none⟩ = false := frozen_of_row w p o _ _ h

/-- One number of a base is stored. -/
theorem BaBox_put {w : World} {p : Nat} {s m b j a c d : Int} (h : BaBox w p s m b j a c d) (v : Int) : BaBox (w.setCell ⟨p, 0, none⟩ (.int .i64 v)) p v m b j a c d ∧ BaBox (w.setCell ⟨p, 1, none⟩ (.int .i64 v)) p s v b j a c d ∧ BaBox (w.setCell ⟨p, 2, none⟩ (.int .i64 v)) p s m v j a c d ∧
    BaBox (w.setCell ⟨p, 3, none⟩ (.int .i64 v)) p s m b v a c d ∧ BaBox (w.setCell ⟨p, 4, none⟩ (.int .i64 v)) p s m b j v c d ∧ BaBox (w.setCell ⟨p, 5, none⟩ (.int .i64 v)) p s m b j a v d ∧ BaBox (w.setCell ⟨p, 6, none⟩ (.int .i64 v)) p s m b j a c v :=
  ⟨heap_setCell_same w p 0 _ _ _ h, heap_setCell_same w p 1 _ _ _ h, heap_setCell_same w p 2 _ _ _ h, heap_setCell_same w p 3 _ _ _ h, heap_setCell_same w p 4 _ _ _ h, heap_setCell_same w p 5 _ _ _ h, heap_setCell_same w p 6 _ _ _ h⟩

theorem BaBox_facts {w : World} {p : Nat} {s m b j a c d : Int} (h : BaBox w p s m b j a c d) : BaAt w p s m b j a c d ∧ ∀ o, w.frozen? ⟨p, o, none⟩ = false := ⟨BaBox_at h, BaBox_frozen h⟩

theorem grown_new {w w1 : World} {row : Option Nat} (hg : w.grownBy w1 row) {p o : Nat} (hp : w.heap.size ≤ p) (v : Value) : w.grownBy (w1.setCell ⟨p, o, none⟩ v) row :=
  ⟨hg.os, hg.tape, hg.output, by simp [World.setCell]; exact hg.size, fun k hk hne => by rw [heap_setCell_other _ _ _ _ (show k ≠ p by omega)]; exact hg.block k hk hne⟩

theorem BaBox_far {w : World} {p q o : Nat} {v : Value} {s m b j a c d : Int} (h : BaBox w p s m b j a c d) (hne : p ≠ q) : BaBox (w.setCell ⟨q, o, none⟩ v) p s m b j a c d := BaBox_grown h (grown_set _ _ _) hne

/-- A base is stored into the result's box: the source stays. -/
theorem src_end {u : World} {L B N p : Nat} (h : Src u L B N) (h1 : L ≤ p) (h2 : p ≠ B) (v0 v1 v2 v3 v4 v5 v6 : Value) :
    Src (((((((u.setCell ⟨p, 0, none⟩ v0).setCell ⟨p, 1, none⟩ v1).setCell ⟨p, 2, none⟩ v2).setCell ⟨p, 3, none⟩ v3).setCell ⟨p, 4, none⟩ v4).setCell ⟨p, 5, none⟩ v5).setCell ⟨p, 6, none⟩ v6) L B N :=
  Src_set (Src_set (Src_set (Src_set (Src_set (Src_set (Src_set h h1 h2) h1 h2) h1 h2) h1 h2) h1 h2) h1 h2) h1 h2

theorem grown_end {w u : World} {row : Option Nat} (hg : w.grownBy u row) {p : Nat} (hp : w.heap.size ≤ p) (v0 v1 v2 v3 v4 v5 v6 : Value) :
    w.grownBy (((((((u.setCell ⟨p, 0, none⟩ v0).setCell ⟨p, 1, none⟩ v1).setCell ⟨p, 2, none⟩ v2).setCell ⟨p, 3, none⟩ v3).setCell ⟨p, 4, none⟩ v4).setCell ⟨p, 5, none⟩ v5).setCell ⟨p, 6, none⟩ v6) row :=
  grown_new (grown_new (grown_new (grown_new (grown_new (grown_new (grown_new hg hp _) hp _) hp _) hp _) hp _) hp _) hp _

set_option maxHeartbeats 2000000 in
theorem drawB_any (L B N : Nat) (w : World) (h : Src w L B N) (hN : N < 700000000) :
    Calls Tryd.prog 299 #[.pointer (some ⟨B, 0, none⟩)] w fun e w' => ∃ s m b j a c d : Int, e = .returned (.agg #[.int .i64 s, .int .i64 m, .int .i64 b, .int .i64 j, .int .i64 a, .int .i64 c, .int .i64 d]) ∧ Src w' L B (N + 14) ∧ w.grownBy w' (some B) := by
  have hB := Src_lt h
  have hL := h.1
  have hp0 : BaBox (w.alloc (.cells #[.int .i64 0, .int .i64 0, .int .i64 0, .int .i64 0, .int .i64 0, .int .i64 0, .int .i64 0] 61)) w.heap.size 0 0 0 0 0 0 0 := heap_alloc_new w _
  have hs0 := Src_below h (show Below w.heap.size w (w.alloc (.cells #[.int .i64 0, .int .i64 0, .int .i64 0, .int .i64 0, .int .i64 0, .int .i64 0, .int .i64 0] 61)) by go_grown)
  have hg0 : w.grownBy (w.alloc (.cells #[.int .i64 0, .int .i64 0, .int .i64 0, .int .i64 0, .int .i64 0, .int .i64 0, .int .i64 0] 61)) (some B) := World.grownBy_alloc _ _ _
  have hz0 : (w.alloc (.cells #[.int .i64 0, .int .i64 0, .int .i64 0, .int .i64 0, .int .i64 0, .int .i64 0, .int .i64 0] 61)).heap.size = w.heap.size + 1 := by simp
  go_enter Tryd.func299, Tryd.ntmps299
  go_wp2_with fail
  generalize w.alloc (.cells #[.int .i64 0, .int .i64 0, .int .i64 0, .int .i64 0, .int .i64 0, .int .i64 0, .int .i64 0] 61) = u0 at *
  have P0 := Lib.hid hp0; clear hp0
  have S0 := Lib.hid hs0; clear hs0 h
  refine (pickS_any L B N _ _ S0.out (by omega) (by omega)).mono ?_
  rintro e w1 ⟨x1, hx1, rfl, hs1, hg1⟩
  have S1 := Lib.hid hs1; clear hs1
  go_wp2_with fail
  refine (pickS_any L B (N + 2) _ _ S1.out (by omega) (by omega)).mono ?_
  rintro e w2 ⟨x2, hx2, rfl, hs2, hg2⟩
  have S2 := Lib.hid hs2; clear hs2
  go_wp2_with fail
  refine (pickS_any L B (N + 4) _ _ S2.out (by omega) (by omega)).mono ?_
  rintro e w3 ⟨x3, hx3, rfl, hs3, hg3⟩
  have g3 := grown_step hg0 (grown_step (grown_step hg1 hg2) hg3)
  have hz3 := (grown_step (grown_step hg1 hg2) hg3).size
  have P3 := Lib.hid (BaBox_grown P0.out (grown_step (grown_step hg1 hg2) hg3) (by omega))
  clear hg0 hg1 hg2 hg3
  go_wp2_with fail
  have hq3 : BaBox (w3.alloc (.cells #[.int .i64 (40 + x1), .int .i64 (10000 + x2 * 1000), .int .i64 (x3 * 1000), .int .i64 0, .int .i64 0, .int .i64 0, .int .i64 0] 61)) w3.heap.size (40 + x1) (10000 + x2 * 1000) (x3 * 1000) 0 0 0 0 := heap_alloc_new w3 _
  have hb3 : Below w3.heap.size w3 (w3.alloc (.cells #[.int .i64 (40 + x1), .int .i64 (10000 + x2 * 1000), .int .i64 (x3 * 1000), .int .i64 0, .int .i64 0, .int .i64 0, .int .i64 0] 61)) := by go_grown
  generalize hp1 : w3.heap.size = p1 at *
  have S3 := Lib.hid (Src_grown hs3 (below_grown (by rw [hp1]; exact hb3) none) (fun g hg => by cases hg))
  have P4 := Lib.hid (BaBox_kept P3.out (by rw [hp1]; exact hb3))
  have g4 := grown_step g3 (below_grown (by rw [hp1]; exact hb3) (some B))
  clear hb3 hs3 P3 hp1
  generalize w3.alloc (.cells #[.int .i64 (40 + x1), .int .i64 (10000 + x2 * 1000), .int .i64 (x3 * 1000), .int .i64 0, .int .i64 0, .int .i64 0, .int .i64 0] 61) = u3 at *
  have Q3 := Lib.hid hq3; clear hq3
  refine (pickS_any L B (N + 6) _ _ S3.out (by omega) (by omega)).mono ?_
  rintro e w4 ⟨x4, hx4, rfl, hs4, hg4⟩
  have q4 := BaBox_grown Q3.out hg4 (by omega)
  obtain ⟨⟨a0, a1, a2, a3, a4, a5, a6⟩, f⟩ := BaBox_facts q4
  have fz := f 3
  clear f
  go_wp2_with fail
  clear a0 a1 a2 a3 a4 a5 a6 fz
  have hq4 := (BaBox_put q4 (3000 + x4 * 500)).2.2.2.1
  have hs4' := Src_set (p := p1) (o := 3) (v := .int .i64 (3000 + x4 * 500)) hs4 (by omega) (by omega)
  have hg4' := grown_new (grown_step g4 hg4) (p := p1) (o := 3) (by omega) (.int .i64 (3000 + x4 * 500))
  have hp4 := BaBox_far (q := p1) (o := 3) (v := .int .i64 (3000 + x4 * 500)) (BaBox_grown P4.out hg4 (by omega)) (by omega)
  generalize w4.setCell ⟨p1, 3, none⟩ (.int .i64 (3000 + x4 * 500)) = v4 at *
  have Q4 := Lib.hid hq4; clear hq4 q4
  have S4 := Lib.hid hs4'; clear hs4' hs4
  have g5 := hg4'; clear hg4' hg4
  have P5 := Lib.hid hp4; clear hp4
  refine (pickS_any L B (N + 8) _ _ S4.out (by omega) (by omega)).mono ?_
  rintro e w5 ⟨x5, hx5, rfl, hs5, hg5⟩
  have q5 := BaBox_grown Q4.out hg5 (by omega)
  obtain ⟨⟨a0, a1, a2, a3, a4, a5, a6⟩, f⟩ := BaBox_facts q5
  have fz := f 4
  clear f
  go_wp2_with fail
  clear a0 a1 a2 a3 a4 a5 a6 fz
  have hq5 := (BaBox_put q5 (100 + x5)).2.2.2.2.1
  have hs5' := Src_set (p := p1) (o := 4) (v := .int .i64 (100 + x5)) hs5 (by omega) (by omega)
  have hg5' := grown_new (grown_step g5 hg5) (p := p1) (o := 4) (by omega) (.int .i64 (100 + x5))
  have hp5 := BaBox_far (q := p1) (o := 4) (v := .int .i64 (100 + x5)) (BaBox_grown P5.out hg5 (by omega)) (by omega)
  generalize w5.setCell ⟨p1, 4, none⟩ (.int .i64 (100 + x5)) = v5 at *
  have Q5 := Lib.hid hq5; clear hq5 q5
  have S5 := Lib.hid hs5'; clear hs5' hs5
  have g6 := hg5'; clear hg5' hg5
  have P6 := Lib.hid hp5; clear hp5
  refine (pickS_any L B (N + 10) _ _ S5.out (by omega) (by omega)).mono ?_
  rintro e w6 ⟨x6, hx6, rfl, hs6, hg6⟩
  have q6 := BaBox_grown Q5.out hg6 (by omega)
  obtain ⟨⟨a0, a1, a2, a3, a4, a5, a6⟩, f⟩ := BaBox_facts q6
  have fz := f 5
  clear f
  go_wp2_with fail
  clear a0 a1 a2 a3 a4 a5 a6 fz
  have hq6 := (BaBox_put q6 (5000 + x6 * 1000)).2.2.2.2.2.1
  have hs6' := Src_set (p := p1) (o := 5) (v := .int .i64 (5000 + x6 * 1000)) hs6 (by omega) (by omega)
  have hg6' := grown_new (grown_step g6 hg6) (p := p1) (o := 5) (by omega) (.int .i64 (5000 + x6 * 1000))
  have hp6 := BaBox_far (q := p1) (o := 5) (v := .int .i64 (5000 + x6 * 1000)) (BaBox_grown P6.out hg6 (by omega)) (by omega)
  generalize w6.setCell ⟨p1, 5, none⟩ (.int .i64 (5000 + x6 * 1000)) = v6 at *
  have Q6 := Lib.hid hq6; clear hq6 q6
  have S6 := Lib.hid hs6'; clear hs6' hs6
  have g7 := hg6'; clear hg6' hg6
  have P7 := Lib.hid hp6; clear hp6
  refine (pickS_any L B (N + 12) _ _ S6.out (by omega) (by omega)).mono ?_
  rintro e w7 ⟨x7, hx7, rfl, hs7, hg7⟩
  have q7 := BaBox_grown Q6.out hg7 (by omega)
  have r7 := BaBox_grown P7.out hg7 (by omega)
  obtain ⟨⟨a0, a1, a2, a3, a4, a5, a6⟩, f⟩ := BaBox_facts q7
  obtain ⟨⟨c0, c1, c2, c3, c4, c5, c6⟩, fz⟩ := BaBox_facts r7
  have hne : ¬ w.heap.size = p1 := by omega
  have hne' : ¬ p1 = w.heap.size := by omega
  have S7 := Lib.hid hs7; clear hs7
  have G7 := Lib.hid (grown_step g7 hg7)
  clear q7 r7 hg7
  go_wp2
  (try simp only [Exit.inBlock, Exit.then])
  refine bodyPost_ret (v := .agg #[.int .i64 (40 + x1), .int .i64 (10000 + x2 * 1000), .int .i64 (x3 * 1000), .int .i64 (3000 + x4 * 500), .int .i64 (100 + x5), .int .i64 (5000 + x6 * 1000), .int .i64 (60 + x7)]) ?_ rfl ⟨_, _, _, _, _, _, _, rfl, ?_, ?_⟩
  · rw [results_cell1 rfl]
    go_simp
  · exact src_end (Src_set S7.out (by omega) (by omega)) (by omega) (by omega) _ _ _ _ _ _ _
  · exact grown_end (grown_new G7.out (by omega) _) (Nat.le_refl _) _ _ _ _ _ _ _

theorem RdI_lit (u : World) (t : TypeId) (zs : List Int) (hl : zs.length ≤ 9223372036854775807) : RdI (u.alloc (.cells (zs.map (Value.int .i64)).toArray t)) (.slice (some ⟨u.heap.size, 0, none⟩) zs.length zs.length) zs :=
  RdI_of _ _ _ zs hl (by simp) (fun k hk => by
    rw [cell_of_row _ _ k _ _ _ (heap_alloc_new u _)]
    simp [hk])

set_option maxHeartbeats 4000000 in
theorem bentB_any (L B N : Nat) (w : World) (h : Src w L B N) (hN : N < 600000000) :
    Calls Tryd.prog 263 #[.pointer (some ⟨B, 0, none⟩)] w fun e w' => ∃ s m b j a c d : Int, e = .returned (.agg #[.int .i64 s, .int .i64 m, .int .i64 b, .int .i64 j, .int .i64 a, .int .i64 c, .int .i64 d]) ∧ Src w' L B (N + 20) ∧ w.grownBy w' (some B) := by
  have hB := Src_lt h
  have hL := h.1
  have hp0 : BaBox (w.alloc (.cells #[.int .i64 0, .int .i64 0, .int .i64 0, .int .i64 0, .int .i64 0, .int .i64 0, .int .i64 0] 61)) w.heap.size 0 0 0 0 0 0 0 := heap_alloc_new w _
  have hs0 := Src_below h (show Below w.heap.size w (w.alloc (.cells #[.int .i64 0, .int .i64 0, .int .i64 0, .int .i64 0, .int .i64 0, .int .i64 0, .int .i64 0] 61)) by go_grown)
  have hg0 : w.grownBy (w.alloc (.cells #[.int .i64 0, .int .i64 0, .int .i64 0, .int .i64 0, .int .i64 0, .int .i64 0, .int .i64 0] 61)) (some B) := World.grownBy_alloc _ _ _
  have hz0 : (w.alloc (.cells #[.int .i64 0, .int .i64 0, .int .i64 0, .int .i64 0, .int .i64 0, .int .i64 0, .int .i64 0] 61)).heap.size = w.heap.size + 1 := by simp
  go_enter Tryd.func263, Tryd.ntmps263
  go_wp2_with fail
  generalize w.alloc (.cells #[.int .i64 0, .int .i64 0, .int .i64 0, .int .i64 0, .int .i64 0, .int .i64 0, .int .i64 0] 61) = u0 at *
  have P0 := Lib.hid hp0; clear hp0
  have S0 := Lib.hid hs0; clear hs0 h
  refine (drawB_any L B N _ S0.out (by omega)).mono ?_
  rintro e w1 ⟨s, m, b, j, a, c, d, rfl, hs1, hg1⟩
  have g1 := grown_step hg0 hg1
  have hz1 := hg1.size
  have P1 := Lib.hid (BaBox_grown P0.out hg1 (by omega))
  clear hg0 hg1
  go_wp2_with fail
  have hq2 : BaBox (w1.alloc (.cells #[.int .i64 s, .int .i64 m, .int .i64 b, .int .i64 j, .int .i64 a, .int .i64 c, .int .i64 d] 61)) w1.heap.size s m b j a c d := heap_alloc_new w1 _
  have hb2 : Below w1.heap.size w1 (w1.alloc (.cells #[.int .i64 s, .int .i64 m, .int .i64 b, .int .i64 j, .int .i64 a, .int .i64 c, .int .i64 d] 61)) := by go_grown
  generalize hp1 : w1.heap.size = p1 at *
  have S2 := Lib.hid (Src_below hs1 (by rw [hp1]; exact hb2))
  have P2 := Lib.hid (BaBox_kept P1.out (by rw [hp1]; exact hb2))
  have g2 := grown_step g1 (below_grown (by rw [hp1]; exact hb2) (some B))
  clear hb2 hs1 P1 hp1
  generalize w1.alloc (.cells #[.int .i64 s, .int .i64 m, .int .i64 b, .int .i64 j, .int .i64 a, .int .i64 c, .int .i64 d] 61) = u2 at *
  have Q2 := Lib.hid hq2; clear hq2
  refine (pickS_any L B (N + 14) _ _ S2.out (by omega) (by omega)).mono ?_
  rintro e w3 ⟨x, hx, rfl, hs3, hg3⟩
  have Q3 := Lib.hid (BaBox_grown Q2.out hg3 (by omega))
  have P3 := Lib.hid (BaBox_grown P2.out hg3 (by omega))
  have G3 := Lib.hid (grown_step g2 hg3)
  have hz3 := (grown_step g2 hg3).size
  have hl3 := BaBox_lt Q3.out
  have hl3' := BaBox_lt P3.out
  have S3 := Lib.hid hs3; clear hs3 Q2 P2 S2 g1 g2 hg3 S0 P0
  by_cases h0 : x = 0
  · subst h0
    go_wp2_with fail
    have hrA : RdI (w3.alloc (.cells #[.int .i64 9, .int .i64 10, .int .i64 200, .int .i64 201, .int .i64 (-9223372036854775808)] 2)) (.slice (some ⟨w3.heap.size, 0, none⟩) 5 5) [9, 10, 200, 201, -9223372036854775808] := RdI_lit w3 2 [9, 10, 200, 201, -9223372036854775808] (by simp)
    have hbA : Below w3.heap.size w3 (w3.alloc (.cells #[.int .i64 9, .int .i64 10, .int .i64 200, .int .i64 201, .int .i64 (-9223372036854775808)] 2)) := by go_grown
    refine (amongS_any L B (N + 16) _ [9, 10, 200, 201, -9223372036854775808] _ (Src_below S3.out hbA) (by omega) hrA (by simp) (by simp) (fun A n c e b off e2 => by injection e with e; rw [e2] at e; injection e with e; injection e with e; omega)).mono ?_
    rintro e wA ⟨yA, hyA, rfl, hsA, hgA⟩
    have QA := Lib.hid (BaBox_grown (BaBox_kept Q3.out hbA) hgA (by omega))
    have PA := Lib.hid (BaBox_grown (BaBox_kept P3.out hbA) hgA (by omega))
    have GA := Lib.hid (grown_step (grown_step G3.out (below_grown hbA (some B))) hgA)
    have SA := Lib.hid hsA; clear hsA hgA hbA hrA
    obtain ⟨⟨a0, a1, a2, a3, a4, a5, a6⟩, f⟩ := BaBox_facts QA.out
    obtain ⟨⟨c0, c1, c2, c3, c4, c5, c6⟩, fz⟩ := BaBox_facts PA.out
    have hne : ¬ w.heap.size = p1 := by omega
    have hne' : ¬ p1 = w.heap.size := by omega
    go_wp2
    (try simp only [Exit.inBlock, Exit.then])
    refine bodyPost_ret (v := .agg #[.int .i64 yA, .int .i64 m, .int .i64 b, .int .i64 j, .int .i64 a, .int .i64 c, .int .i64 d]) ?_ rfl ⟨_, _, _, _, _, _, _, rfl, ?_, ?_⟩
    · rw [results_cell1 rfl]
      go_simp
    · exact src_end (Src_set (Src_more SA.out (by omega)) (by omega) (by omega)) (by omega) (by omega) _ _ _ _ _ _ _
    · exact grown_end (grown_new (GA.out) (by omega) _) (Nat.le_refl _) _ _ _ _ _ _ _
  by_cases h1 : x = 1
  · subst h1
    go_wp2_with fail
    have hrA : RdI (w3.alloc (.cells #[.int .i64 0, .int .i64 1, .int .i64 500000, .int .i64 500001] 2)) (.slice (some ⟨w3.heap.size, 0, none⟩) 4 4) [0, 1, 500000, 500001] := RdI_lit w3 2 [0, 1, 500000, 500001] (by simp)
    have hbA : Below w3.heap.size w3 (w3.alloc (.cells #[.int .i64 0, .int .i64 1, .int .i64 500000, .int .i64 500001] 2)) := by go_grown
    refine (amongS_any L B (N + 16) _ [0, 1, 500000, 500001] _ (Src_below S3.out hbA) (by omega) hrA (by simp) (by simp) (fun A n c e b off e2 => by injection e with e; rw [e2] at e; injection e with e; injection e with e; omega)).mono ?_
    rintro e wA ⟨yA, hyA, rfl, hsA, hgA⟩
    have QA := Lib.hid (BaBox_grown (BaBox_kept Q3.out hbA) hgA (by omega))
    have PA := Lib.hid (BaBox_grown (BaBox_kept P3.out hbA) hgA (by omega))
    have GA := Lib.hid (grown_step (grown_step G3.out (below_grown hbA (some B))) hgA)
    have SA := Lib.hid hsA; clear hsA hgA hbA hrA
    obtain ⟨⟨a0, a1, a2, a3, a4, a5, a6⟩, f⟩ := BaBox_facts QA.out
    obtain ⟨⟨c0, c1, c2, c3, c4, c5, c6⟩, fz⟩ := BaBox_facts PA.out
    have hne : ¬ w.heap.size = p1 := by omega
    have hne' : ¬ p1 = w.heap.size := by omega
    go_wp2
    (try simp only [Exit.inBlock, Exit.then])
    refine bodyPost_ret (v := .agg #[.int .i64 s, .int .i64 yA, .int .i64 b, .int .i64 j, .int .i64 a, .int .i64 c, .int .i64 d]) ?_ rfl ⟨_, _, _, _, _, _, _, rfl, ?_, ?_⟩
    · rw [results_cell1 rfl]
      go_simp
    · exact src_end (Src_set (Src_more SA.out (by omega)) (by omega) (by omega)) (by omega) (by omega) _ _ _ _ _ _ _
    · exact grown_end (grown_new (GA.out) (by omega) _) (Nat.le_refl _) _ _ _ _ _ _ _
  by_cases h2 : x = 2
  · subst h2
    go_wp2_with fail
    have hrA : RdI (w3.alloc (.cells #[.int .i64 (-1), .int .i64 0, .int .i64 500000, .int .i64 500001] 2)) (.slice (some ⟨w3.heap.size, 0, none⟩) 4 4) [-1, 0, 500000, 500001] := RdI_lit w3 2 [-1, 0, 500000, 500001] (by simp)
    have hbA : Below w3.heap.size w3 (w3.alloc (.cells #[.int .i64 (-1), .int .i64 0, .int .i64 500000, .int .i64 500001] 2)) := by go_grown
    refine (amongS_any L B (N + 16) _ [-1, 0, 500000, 500001] _ (Src_below S3.out hbA) (by omega) hrA (by simp) (by simp) (fun A n c e b off e2 => by injection e with e; rw [e2] at e; injection e with e; injection e with e; omega)).mono ?_
    rintro e wA ⟨yA, hyA, rfl, hsA, hgA⟩
    have QA := Lib.hid (BaBox_grown (BaBox_kept Q3.out hbA) hgA (by omega))
    have PA := Lib.hid (BaBox_grown (BaBox_kept P3.out hbA) hgA (by omega))
    have GA := Lib.hid (grown_step (grown_step G3.out (below_grown hbA (some B))) hgA)
    have SA := Lib.hid hsA; clear hsA hgA hbA hrA
    obtain ⟨⟨a0, a1, a2, a3, a4, a5, a6⟩, f⟩ := BaBox_facts QA.out
    obtain ⟨⟨c0, c1, c2, c3, c4, c5, c6⟩, fz⟩ := BaBox_facts PA.out
    have hne : ¬ w.heap.size = p1 := by omega
    have hne' : ¬ p1 = w.heap.size := by omega
    go_wp2
    (try simp only [Exit.inBlock, Exit.then])
    refine bodyPost_ret (v := .agg #[.int .i64 s, .int .i64 m, .int .i64 yA, .int .i64 j, .int .i64 a, .int .i64 c, .int .i64 d]) ?_ rfl ⟨_, _, _, _, _, _, _, rfl, ?_, ?_⟩
    · rw [results_cell1 rfl]
      go_simp
    · exact src_end (Src_set (Src_more SA.out (by omega)) (by omega) (by omega)) (by omega) (by omega) _ _ _ _ _ _ _
    · exact grown_end (grown_new (GA.out) (by omega) _) (Nat.le_refl _) _ _ _ _ _ _ _
  by_cases h3 : x = 3
  · subst h3
    go_wp2_with fail
    have hrA : RdI (w3.alloc (.cells #[.int .i64 (-1), .int .i64 0, .int .i64 500000, .int .i64 500001] 2)) (.slice (some ⟨w3.heap.size, 0, none⟩) 4 4) [-1, 0, 500000, 500001] := RdI_lit w3 2 [-1, 0, 500000, 500001] (by simp)
    have hbA : Below w3.heap.size w3 (w3.alloc (.cells #[.int .i64 (-1), .int .i64 0, .int .i64 500000, .int .i64 500001] 2)) := by go_grown
    refine (amongS_any L B (N + 16) _ [-1, 0, 500000, 500001] _ (Src_below S3.out hbA) (by omega) hrA (by simp) (by simp) (fun A n c e b off e2 => by injection e with e; rw [e2] at e; injection e with e; injection e with e; omega)).mono ?_
    rintro e wA ⟨yA, hyA, rfl, hsA, hgA⟩
    have QA := Lib.hid (BaBox_grown (BaBox_kept Q3.out hbA) hgA (by omega))
    have PA := Lib.hid (BaBox_grown (BaBox_kept P3.out hbA) hgA (by omega))
    have GA := Lib.hid (grown_step (grown_step G3.out (below_grown hbA (some B))) hgA)
    have SA := Lib.hid hsA; clear hsA hgA hbA hrA
    obtain ⟨⟨a0, a1, a2, a3, a4, a5, a6⟩, f⟩ := BaBox_facts QA.out
    obtain ⟨⟨c0, c1, c2, c3, c4, c5, c6⟩, fz⟩ := BaBox_facts PA.out
    have hne : ¬ w.heap.size = p1 := by omega
    have hne' : ¬ p1 = w.heap.size := by omega
    go_wp2
    (try simp only [Exit.inBlock, Exit.then])
    refine bodyPost_ret (v := .agg #[.int .i64 s, .int .i64 m, .int .i64 b, .int .i64 yA, .int .i64 a, .int .i64 c, .int .i64 d]) ?_ rfl ⟨_, _, _, _, _, _, _, rfl, ?_, ?_⟩
    · rw [results_cell1 rfl]
      go_simp
    · exact src_end (Src_set (Src_more SA.out (by omega)) (by omega) (by omega)) (by omega) (by omega) _ _ _ _ _ _ _
    · exact grown_end (grown_new (GA.out) (by omega) _) (Nat.le_refl _) _ _ _ _ _ _ _
  by_cases h4 : x = 4
  · subst h4
    go_wp2_with fail
    have hrA : RdI (w3.alloc (.cells #[.int .i64 (-1), .int .i64 0, .int .i64 1000, .int .i64 1001] 2)) (.slice (some ⟨w3.heap.size, 0, none⟩) 4 4) [-1, 0, 1000, 1001] := RdI_lit w3 2 [-1, 0, 1000, 1001] (by simp)
    have hbA : Below w3.heap.size w3 (w3.alloc (.cells #[.int .i64 (-1), .int .i64 0, .int .i64 1000, .int .i64 1001] 2)) := by go_grown
    refine (amongS_any L B (N + 16) _ [-1, 0, 1000, 1001] _ (Src_below S3.out hbA) (by omega) hrA (by simp) (by simp) (fun A n c e b off e2 => by injection e with e; rw [e2] at e; injection e with e; injection e with e; omega)).mono ?_
    rintro e wA ⟨yA, hyA, rfl, hsA, hgA⟩
    have QA := Lib.hid (BaBox_grown (BaBox_kept Q3.out hbA) hgA (by omega))
    have PA := Lib.hid (BaBox_grown (BaBox_kept P3.out hbA) hgA (by omega))
    have GA := Lib.hid (grown_step (grown_step G3.out (below_grown hbA (some B))) hgA)
    have SA := Lib.hid hsA; clear hsA hgA hbA hrA
    obtain ⟨⟨a0, a1, a2, a3, a4, a5, a6⟩, f⟩ := BaBox_facts QA.out
    obtain ⟨⟨c0, c1, c2, c3, c4, c5, c6⟩, fz⟩ := BaBox_facts PA.out
    have hne : ¬ w.heap.size = p1 := by omega
    have hne' : ¬ p1 = w.heap.size := by omega
    go_wp2
    (try simp only [Exit.inBlock, Exit.then])
    refine bodyPost_ret (v := .agg #[.int .i64 s, .int .i64 m, .int .i64 b, .int .i64 j, .int .i64 a, .int .i64 c, .int .i64 yA]) ?_ rfl ⟨_, _, _, _, _, _, _, rfl, ?_, ?_⟩
    · rw [results_cell1 rfl]
      go_simp
    · exact src_end (Src_set (Src_more SA.out (by omega)) (by omega) (by omega)) (by omega) (by omega) _ _ _ _ _ _ _
    · exact grown_end (grown_new (GA.out) (by omega) _) (Nat.le_refl _) _ _ _ _ _ _ _
  by_cases h5 : x = 5
  · subst h5
    go_wp2_with fail
    have hrA : RdI (w3.alloc (.cells #[.int .i64 0, .int .i64 500000, .int .i64 500001] 2)) (.slice (some ⟨w3.heap.size, 0, none⟩) 3 3) [0, 500000, 500001] := RdI_lit w3 2 [0, 500000, 500001] (by simp)
    have hbA : Below w3.heap.size w3 (w3.alloc (.cells #[.int .i64 0, .int .i64 500000, .int .i64 500001] 2)) := by go_grown
    refine (amongS_any L B (N + 16) _ [0, 500000, 500001] _ (Src_below S3.out hbA) (by omega) hrA (by simp) (by simp) (fun A n c e b off e2 => by injection e with e; rw [e2] at e; injection e with e; injection e with e; omega)).mono ?_
    rintro e wA ⟨yA, hyA, rfl, hsA, hgA⟩
    have QA := Lib.hid (BaBox_grown (BaBox_kept Q3.out hbA) hgA (by omega))
    have PA := Lib.hid (BaBox_grown (BaBox_kept P3.out hbA) hgA (by omega))
    have GA := Lib.hid (grown_step (grown_step G3.out (below_grown hbA (some B))) hgA)
    have SA := Lib.hid hsA; clear hsA hgA hbA hrA
    obtain ⟨⟨a0, a1, a2, a3, a4, a5, a6⟩, f⟩ := BaBox_facts QA.out
    have fz := f 5
    clear f
    go_wp2_with fail
    clear a0 a1 a2 a3 a4 a5 a6 fz
    have hzA : (wA.setCell ⟨p1, 5, none⟩ (.int .i64 yA)).heap.size = wA.heap.size := by simp [World.setCell]
    have qA := (BaBox_put QA.out yA).2.2.2.2.2.1
    have sA := Src_set (p := p1) (o := 5) (v := .int .i64 yA) SA.out (by omega) (by omega)
    have gA := grown_new (p := p1) (o := 5) GA.out (by omega) (.int .i64 yA)
    have pA := BaBox_far (q := p1) (o := 5) (v := .int .i64 yA) PA.out (by omega)
    generalize wA.setCell ⟨p1, 5, none⟩ (.int .i64 yA) = uA at *
    clear QA SA GA PA
    have QA := Lib.hid qA; clear qA
    have SA := Lib.hid sA; clear sA
    have GA := Lib.hid gA; clear gA
    have PA := Lib.hid pA; clear pA
    have hlA := BaBox_lt QA.out
    have hlA' := Src_lt SA.out
    skip
    have hrC : RdI (uA.alloc (.cells #[.int .i64 (-1), .int .i64 0, .int .i64 1000, .int .i64 1001] 2)) (.slice (some ⟨wA.heap.size, 0, none⟩) 4 4) [-1, 0, 1000, 1001] := by rw [← hzA]; exact RdI_lit uA 2 [-1, 0, 1000, 1001] (by simp)
    have hbC : Below uA.heap.size uA (uA.alloc (.cells #[.int .i64 (-1), .int .i64 0, .int .i64 1000, .int .i64 1001] 2)) := by go_grown
    refine (amongS_any L B (N + 18) _ [-1, 0, 1000, 1001] _ (Src_below SA.out hbC) (by omega) hrC (by simp) (by simp) (fun A n c e b off e2 => by injection e with e; rw [e2] at e; injection e with e; injection e with e; omega)).mono ?_
    rintro e wC ⟨yC, hyC, rfl, hsC, hgC⟩
    have QC := Lib.hid (BaBox_grown (BaBox_kept QA.out hbC) hgC (by omega))
    have PC := Lib.hid (BaBox_grown (BaBox_kept PA.out hbC) hgC (by omega))
    have GC := Lib.hid (grown_step (grown_step GA.out (below_grown hbC (some B))) hgC)
    have SC := Lib.hid hsC; clear hsC hgC hbC hrC
    obtain ⟨⟨a0, a1, a2, a3, a4, a5, a6⟩, f⟩ := BaBox_facts QC.out
    obtain ⟨⟨c0, c1, c2, c3, c4, c5, c6⟩, fz⟩ := BaBox_facts PC.out
    have hne : ¬ w.heap.size = p1 := by omega
    have hne' : ¬ p1 = w.heap.size := by omega
    go_wp2
    (try simp only [Exit.inBlock, Exit.then])
    refine bodyPost_ret (v := .agg #[.int .i64 s, .int .i64 m, .int .i64 b, .int .i64 j, .int .i64 yC, .int .i64 yA, .int .i64 d]) ?_ rfl ⟨_, _, _, _, _, _, _, rfl, ?_, ?_⟩
    · rw [results_cell1 rfl]
      go_simp
    · exact src_end (Src_set (Src_more SC.out (by omega)) (by omega) (by omega)) (by omega) (by omega) _ _ _ _ _ _ _
    · exact grown_end (grown_new (GC.out) (by omega) _) (Nat.le_refl _) _ _ _ _ _ _ _
  have e0 : (x == 0) = false := by simpa using h0
  have e1 : (x == 1) = false := by simpa using h1
  have e2 : (x == 2) = false := by simpa using h2
  have e3 : (x == 3) = false := by simpa using h3
  have e4 : (x == 4) = false := by simpa using h4
  have e5 : (x == 5) = false := by simpa using h5
  obtain ⟨⟨a0, a1, a2, a3, a4, a5, a6⟩, f⟩ := BaBox_facts Q3.out
  obtain ⟨⟨c0, c1, c2, c3, c4, c5, c6⟩, fz⟩ := BaBox_facts P3.out
  have hne : ¬ w.heap.size = p1 := by omega
  have hne' : ¬ p1 = w.heap.size := by omega
  go_wp2
  (try simp only [Exit.inBlock, Exit.then])
  refine bodyPost_ret (v := .agg #[.int .i64 s, .int .i64 m, .int .i64 b, .int .i64 j, .int .i64 a, .int .i64 c, .int .i64 d]) ?_ rfl ⟨_, _, _, _, _, _, _, rfl, ?_, ?_⟩
  · rw [results_cell1 rfl]
    go_simp
  · exact src_end (Src_more S3.out (by omega)) (by omega) (by omega) _ _ _ _ _ _ _
  · exact grown_end (G3.out) (Nat.le_refl _) _ _ _ _ _ _ _

set_option maxHeartbeats 1000000 in
theorem drawLoad_any (L B N : Nat) (w : World) (h : Src w L B N) (hN : N < 700000000) :
    Calls Tryd.prog 264 #[.pointer (some ⟨B, 0, none⟩)] w fun e w' => ∃ x : Int, e = .returned (.int .i64 x) ∧ Src w' L B (N + 4) ∧ w.grownBy w' (some B) := by
  have H := Lib.hid h; clear h
  go_enter Tryd.func264, Tryd.ntmps264
  go_wp2_with fail
  refine (oneS_any L B N _ _ H.out (by omega) (by omega)).mono ?_
  rintro e w1 ⟨x, rfl, hs1, hg1⟩
  have S1 := Lib.hid hs1; clear hs1
  have hB := Src_lt S1.out
  cases x
  · go_wp2_with fail
    refine (pickS_any L B (N + 2) _ _ S1.out (by omega) (by omega)).mono ?_
    rintro e w2 ⟨y, hy, rfl, hs2, hg2⟩
    have S2 := Lib.hid hs2; clear hs2
    go_wp2
    go_ret
    exact ⟨_, rfl, S2.out, grown_step hg1 hg2⟩
  · have hr : RdI (w1.alloc (.cells #[.int .i64 (-1), .int .i64 0, .int .i64 50000, .int .i64 50001, .int .i64 9223372036854775807] 2)) (.slice (some ⟨w1.heap.size, 0, none⟩) 5 5) [-1, 0, 50000, 50001, 9223372036854775807] := RdI_lit w1 2 [-1, 0, 50000, 50001, 9223372036854775807] (by simp)
    have hb : Below w1.heap.size w1 (w1.alloc (.cells #[.int .i64 (-1), .int .i64 0, .int .i64 50000, .int .i64 50001, .int .i64 9223372036854775807] 2)) := by go_grown
    go_wp2_with fail
    refine (amongS_any L B (N + 2) _ [-1, 0, 50000, 50001, 9223372036854775807] _ (Src_below S1.out hb) (by omega) hr (by simp) (by simp) (fun A n c e b off e2 => by injection e with e; rw [e2] at e; injection e with e; injection e with e; omega)).mono ?_
    rintro e w2 ⟨y, hy, rfl, hs2, hg2⟩
    have S2 := Lib.hid hs2; clear hs2
    go_wp2
    go_ret
    exact ⟨_, rfl, S2.out, grown_step hg1 (grown_step (below_grown hb _) hg2)⟩

set_option maxHeartbeats 1000000 in
theorem drawRadius_any (L B N : Nat) (w : World) (h : Src w L B N) (hN : N < 700000000) :
    Calls Tryd.prog 265 #[.pointer (some ⟨B, 0, none⟩)] w fun e w' => ∃ x : Int, e = .returned (.int .i64 x) ∧ Src w' L B (N + 4) ∧ w.grownBy w' (some B) := by
  have H := Lib.hid h; clear h
  go_enter Tryd.func265, Tryd.ntmps265
  go_wp2_with fail
  refine (oneS_any L B N _ _ H.out (by omega) (by omega)).mono ?_
  rintro e w1 ⟨x, rfl, hs1, hg1⟩
  have S1 := Lib.hid hs1; clear hs1
  have hB := Src_lt S1.out
  cases x
  · go_wp2_with fail
    refine (pickS_any L B (N + 2) _ _ S1.out (by omega) (by omega)).mono ?_
    rintro e w2 ⟨y, hy, rfl, hs2, hg2⟩
    have S2 := Lib.hid hs2; clear hs2
    go_wp2
    go_ret
    exact ⟨_, rfl, S2.out, grown_step hg1 hg2⟩
  · have hr : RdI (w1.alloc (.cells #[.int .i64 (-1), .int .i64 0, .int .i64 1000, .int .i64 1001] 2)) (.slice (some ⟨w1.heap.size, 0, none⟩) 4 4) [-1, 0, 1000, 1001] := RdI_lit w1 2 [-1, 0, 1000, 1001] (by simp)
    have hb : Below w1.heap.size w1 (w1.alloc (.cells #[.int .i64 (-1), .int .i64 0, .int .i64 1000, .int .i64 1001] 2)) := by go_grown
    go_wp2_with fail
    refine (amongS_any L B (N + 2) _ [-1, 0, 1000, 1001] _ (Src_below S1.out hb) (by omega) hr (by simp) (by simp) (fun A n c e b off e2 => by injection e with e; rw [e2] at e; injection e with e; injection e with e; omega)).mono ?_
    rintro e w2 ⟨y, hy, rfl, hs2, hg2⟩
    have S2 := Lib.hid hs2; clear hs2
    go_wp2
    go_ret
    exact ⟨_, rfl, S2.out, grown_step hg1 (grown_step (below_grown hb _) hg2)⟩

set_option maxHeartbeats 1000000 in
theorem drawPercent_any (L B N : Nat) (w : World) (h : Src w L B N) (hN : N < 700000000) :
    Calls Tryd.prog 216 #[.pointer (some ⟨B, 0, none⟩)] w fun e w' => ∃ x : Int, e = .returned (.int .i64 x) ∧ Src w' L B (N + 4) ∧ w.grownBy w' (some B) := by
  have H := Lib.hid h; clear h
  go_enter Tryd.func216, Tryd.ntmps216
  go_wp2_with fail
  refine (oneS_any L B N _ _ H.out (by omega) (by omega)).mono ?_
  rintro e w1 ⟨x, rfl, hs1, hg1⟩
  have S1 := Lib.hid hs1; clear hs1
  have hB := Src_lt S1.out
  cases x
  · go_wp2_with fail
    refine (pickS_any L B (N + 2) _ _ S1.out (by omega) (by omega)).mono ?_
    rintro e w2 ⟨y, hy, rfl, hs2, hg2⟩
    have S2 := Lib.hid hs2; clear hs2
    go_wp2
    go_ret
    exact ⟨_, rfl, S2.out, grown_step hg1 hg2⟩
  · have hr : RdI (w1.alloc (.cells #[.int .i64 99, .int .i64 100, .int .i64 1000, .int .i64 1001] 2)) (.slice (some ⟨w1.heap.size, 0, none⟩) 4 4) [99, 100, 1000, 1001] := RdI_lit w1 2 [99, 100, 1000, 1001] (by simp)
    have hb : Below w1.heap.size w1 (w1.alloc (.cells #[.int .i64 99, .int .i64 100, .int .i64 1000, .int .i64 1001] 2)) := by go_grown
    go_wp2_with fail
    refine (amongS_any L B (N + 2) _ [99, 100, 1000, 1001] _ (Src_below S1.out hb) (by omega) hr (by simp) (by simp) (fun A n c e b off e2 => by injection e with e; rw [e2] at e; injection e with e; injection e with e; omega)).mono ?_
    rintro e w2 ⟨y, hy, rfl, hs2, hg2⟩
    have S2 := Lib.hid hs2; clear hs2
    go_wp2
    go_ret
    exact ⟨_, rfl, S2.out, grown_step hg1 (grown_step (below_grown hb _) hg2)⟩

set_option maxHeartbeats 4000000 in
theorem askB_any (L B N : Nat) (w : World) (h : Src w L B N) (hN : N < 500000000) :
    Calls Tryd.prog 215 #[.pointer (some ⟨B, 0, none⟩)] w fun e w' => ∃ s m b j a c d l r : Int, e = .returned (.tuple #[.agg #[.int .i64 s, .int .i64 m, .int .i64 b, .int .i64 j, .int .i64 a, .int .i64 c, .int .i64 d], .int .i64 l, .int .i64 r]) ∧ Src w' L B (N + 28) ∧ w.grownBy w' (some B) := by
  have hB := Src_lt h
  have hL := h.1
  have hp0 : BaBox (w.alloc (.cells #[.int .i64 0, .int .i64 0, .int .i64 0, .int .i64 0, .int .i64 0, .int .i64 0, .int .i64 0] 61)) w.heap.size 0 0 0 0 0 0 0 := heap_alloc_new w _
  have hs0 := Src_below h (show Below w.heap.size w (w.alloc (.cells #[.int .i64 0, .int .i64 0, .int .i64 0, .int .i64 0, .int .i64 0, .int .i64 0, .int .i64 0] 61)) by go_grown)
  have hg0 : w.grownBy (w.alloc (.cells #[.int .i64 0, .int .i64 0, .int .i64 0, .int .i64 0, .int .i64 0, .int .i64 0, .int .i64 0] 61)) (some B) := World.grownBy_alloc _ _ _
  have hz0 : (w.alloc (.cells #[.int .i64 0, .int .i64 0, .int .i64 0, .int .i64 0, .int .i64 0, .int .i64 0, .int .i64 0] 61)).heap.size = w.heap.size + 1 := by simp
  go_enter Tryd.func215, Tryd.ntmps215
  go_wp2_with fail
  generalize w.alloc (.cells #[.int .i64 0, .int .i64 0, .int .i64 0, .int .i64 0, .int .i64 0, .int .i64 0, .int .i64 0] 61) = u0 at *
  have P0 := Lib.hid hp0; clear hp0
  have S0 := Lib.hid hs0; clear hs0 h
  refine (bentB_any L B N _ S0.out (by omega)).mono ?_
  rintro e w1 ⟨s, m, b, j, a, c, d, rfl, hs1, hg1⟩
  have g1 := grown_step hg0 hg1
  have hz1 := hg1.size
  have P1 := Lib.hid (BaBox_grown P0.out hg1 (by omega))
  clear hg0 hg1
  go_wp2_with fail
  have hq2 : BaBox (w1.alloc (.cells #[.int .i64 s, .int .i64 m, .int .i64 b, .int .i64 j, .int .i64 a, .int .i64 c, .int .i64 d] 61)) w1.heap.size s m b j a c d := heap_alloc_new w1 _
  have hb2 : Below w1.heap.size w1 (w1.alloc (.cells #[.int .i64 s, .int .i64 m, .int .i64 b, .int .i64 j, .int .i64 a, .int .i64 c, .int .i64 d] 61)) := by go_grown
  generalize hp1 : w1.heap.size = p1 at *
  have S2 := Lib.hid (Src_below hs1 (by rw [hp1]; exact hb2))
  have P2 := Lib.hid (BaBox_kept P1.out (by rw [hp1]; exact hb2))
  have g2 := grown_step g1 (below_grown (by rw [hp1]; exact hb2) (some B))
  clear hb2 hs1 P1 hp1
  generalize w1.alloc (.cells #[.int .i64 s, .int .i64 m, .int .i64 b, .int .i64 j, .int .i64 a, .int .i64 c, .int .i64 d] 61) = u2 at *
  have Q2 := Lib.hid hq2; clear hq2
  refine (drawLoad_any L B (N + 20) _ S2.out (by omega)).mono ?_
  rintro e w3 ⟨l, rfl, hs3, hg3⟩
  have Q3 := Lib.hid (BaBox_grown Q2.out hg3 (by omega))
  have P3 := Lib.hid (BaBox_grown P2.out hg3 (by omega))
  have G3 := Lib.hid (grown_step g2 hg3)
  have S3 := Lib.hid hs3; clear hs3 Q2 P2 S2 g1 g2 hg3 S0 P0
  obtain ⟨⟨a0, a1, a2, a3, a4, a5, a6⟩, f⟩ := BaBox_facts Q3.out
  clear f
  have hne : ¬ w.heap.size = p1 := by omega
  have hne' : ¬ p1 = w.heap.size := by omega
  go_wp2_with fail
  first
    | go_region_held3 (fun w' => w'.cell? ⟨p1, 0, none⟩ = some (.int .i64 s) ∧ w'.cell? ⟨p1, 1, none⟩ = some (.int .i64 m) ∧ w'.cell? ⟨p1, 2, none⟩ = some (.int .i64 b) ∧ w'.cell? ⟨p1, 3, none⟩ = some (.int .i64 j) ∧ w'.cell? ⟨p1, 4, none⟩ = some (.int .i64 a) ∧ w'.cell? ⟨p1, 5, none⟩ = some (.int .i64 c) ∧ w'.cell? ⟨p1, 6, none⟩ = some (.int .i64 d)) (first | go_keep | (exact ⟨b0, b1, b2, b3, b4, b5, b6⟩))
        ((go_at_call 265; refine (drawRadius_any L B (N + 24) _ (by exact S3.out) (by omega)).mono ?_; rintro e w4 ⟨r, rfl, hs4, hg4⟩; (first | (replace hg4 := undrew hg4) | skip); obtain ⟨⟨b0, b1, b2, b3, b4, b5, b6⟩, f⟩ := BaBox_facts (BaBox_grown Q3.out (by exact hg4) (by omega)); obtain ⟨⟨c0, c1, c2, c3, c4, c5, c6⟩, fz⟩ := BaBox_facts (BaBox_grown P3.out (by exact hg4) (by omega)); clear f; have S4 := Lib.hid hs4; clear hs4; have G4 := Lib.hid (grown_step G3.out (by exact hg4)); clear hg4))
    | fail
  all_goals
    go_wp2
    (try simp only [Exit.inBlock, Exit.then])
    refine bodyPost_ret (v := .tuple #[.agg #[.int .i64 s, .int .i64 m, .int .i64 b, .int .i64 j, .int .i64 a, .int .i64 c, .int .i64 d], .int .i64 l, .int .i64 r]) ?_ rfl ⟨_, _, _, _, _, _, _, _, _, rfl, ?_, ?_⟩
    · simp [results, Tryd.results215, go_sem, c0, c1, c2, c3, c4, c5, c6, fz]
    · exact src_end S4.out (by omega) (by omega) _ _ _ _ _ _ _
    · exact grown_end G4.out (Nat.le_refl _) _ _ _ _ _ _ _

theorem Src_from {w : World} {A : Option Addr} {n c : Nat} (h : RdC w A n) (hn : n ≤ 1000000) : Src (w.alloc (.cells #[.slice A n c, .int .i64 0, .int .u64 0] 222)) w.heap.size w.heap.size 0 :=
  ⟨Nat.le_refl _, A, n, c, fun k hk => by
    obtain ⟨b, off, z, e, hlt, hc, z0, z1⟩ := h k hk
    exact ⟨b, off, z, e, hlt, by simp; omega, by rw [World.cell?_alloc_past _ _ _ hlt]; exact hc, z0, z1⟩, hn, 0, Nat.le_refl _, 0, by omega, by omega, heap_alloc_new w _⟩

set_option maxHeartbeats 4000000 in
theorem drawAll_any (A : Option Addr) (n cp : Nat) (w : World) (h : RdC w A n) (hn : n ≤ 1000000) :
    Calls Tryd.prog 123 #[.slice A n cp] w fun e w' => ∃ s m b j a c d l r q : Int, e = .returned (.tuple #[.agg #[.int .i64 s, .int .i64 m, .int .i64 b, .int .i64 j, .int .i64 a, .int .i64 c, .int .i64 d], .int .i64 l, .int .i64 r, .int .i64 q]) ∧ Below w.heap.size w w' := by
  have hp0 : BaBox (w.alloc (.cells #[.int .i64 0, .int .i64 0, .int .i64 0, .int .i64 0, .int .i64 0, .int .i64 0, .int .i64 0] 61)) w.heap.size 0 0 0 0 0 0 0 := heap_alloc_new w _
  have hb0 : Below w.heap.size w (w.alloc (.cells #[.int .i64 0, .int .i64 0, .int .i64 0, .int .i64 0, .int .i64 0, .int .i64 0, .int .i64 0] 61)) := by go_grown
  have hc0 := RdC_kept h hb0
  have hz0 : w.heap.size < (w.alloc (.cells #[.int .i64 0, .int .i64 0, .int .i64 0, .int .i64 0, .int .i64 0, .int .i64 0, .int .i64 0] 61)).heap.size := by simp
  go_enter Tryd.func123, Tryd.ntmps123
  go_wp2_with fail
  generalize w.alloc (.cells #[.int .i64 0, .int .i64 0, .int .i64 0, .int .i64 0, .int .i64 0, .int .i64 0, .int .i64 0] 61) = u0 at *
  refine (from_any _ _ A n cp rfl).mono ?_
  rintro e w1 ⟨rfl, h1⟩
  have hs1 := Src_from (c := cp) hc0 hn
  have hb1 : Below u0.heap.size u0 w1 := by rw [← h1]; go_grown
  rw [h1] at hs1
  have P1 := Lib.hid (BaBox_kept hp0 hb1)
  have B1 := kept_trans hb0 hb1
  have S1 := Lib.hid hs1; clear hs1 hc0 hp0 h1 h
  generalize hB : u0.heap.size = B at *
  have hB1 := Src_lt S1.out
  go_wp2_with fail
  refine (askB_any B B 0 _ S1.out (by omega)).mono ?_
  rintro e w2 ⟨s, m, b, j, a, c, d, l, r, rfl, hs2, hg2⟩
  have P2 := Lib.hid (BaBox_grown P1.out hg2 (by omega))
  have B2 := grown_below B1 hg2 (fun g hg => by injection hg with hg; omega)
  have hz2 := hg2.size
  clear hg2
  go_wp2_with fail
  have hq3 : BaBox (w2.alloc (.cells #[.int .i64 s, .int .i64 m, .int .i64 b, .int .i64 j, .int .i64 a, .int .i64 c, .int .i64 d] 61)) w2.heap.size s m b j a c d := heap_alloc_new w2 _
  have hb3 : Below w2.heap.size w2 (w2.alloc (.cells #[.int .i64 s, .int .i64 m, .int .i64 b, .int .i64 j, .int .i64 a, .int .i64 c, .int .i64 d] 61)) := by go_grown
  generalize hp1 : w2.heap.size = p1 at *
  have S3 := Lib.hid (Src_below hs2 (by rw [hp1]; exact hb3))
  have P3 := Lib.hid (BaBox_kept P2.out (by rw [hp1]; exact hb3))
  have B3 := kept_trans B2 (by rw [hp1]; exact hb3)
  clear hb3 hs2 P2 hp1
  generalize w2.alloc (.cells #[.int .i64 s, .int .i64 m, .int .i64 b, .int .i64 j, .int .i64 a, .int .i64 c, .int .i64 d] 61) = u3 at *
  have Q3 := Lib.hid hq3; clear hq3
  obtain ⟨⟨a0, a1, a2, a3, a4, a5, a6⟩, f⟩ := BaBox_facts Q3.out
  clear f
  have hne : ¬ w.heap.size = p1 := by omega
  have hne' : ¬ p1 = w.heap.size := by omega
  first
    | go_region_held3 (fun w' => w'.cell? ⟨p1, 0, none⟩ = some (.int .i64 s) ∧ w'.cell? ⟨p1, 1, none⟩ = some (.int .i64 m) ∧ w'.cell? ⟨p1, 2, none⟩ = some (.int .i64 b) ∧ w'.cell? ⟨p1, 3, none⟩ = some (.int .i64 j) ∧ w'.cell? ⟨p1, 4, none⟩ = some (.int .i64 a) ∧ w'.cell? ⟨p1, 5, none⟩ = some (.int .i64 c) ∧ w'.cell? ⟨p1, 6, none⟩ = some (.int .i64 d)) (first | go_keep | (exact ⟨b0, b1, b2, b3, b4, b5, b6⟩))
        ((go_at_call 216; refine (drawPercent_any B B 28 _ (by exact S3.out) (by omega)).mono ?_; rintro e w4 ⟨q, rfl, hs4, hg4⟩; (first | (replace hg4 := undrew hg4) | skip); obtain ⟨⟨b0, b1, b2, b3, b4, b5, b6⟩, f⟩ := BaBox_facts (BaBox_grown Q3.out (by exact hg4) (by omega)); obtain ⟨⟨c0, c1, c2, c3, c4, c5, c6⟩, fz⟩ := BaBox_facts (BaBox_grown P3.out (by exact hg4) (by omega)); clear f; clear hs4; have B4 := Lib.hid (grown_below B3 (by exact hg4) (fun g hg => by injection hg with hg; omega)); clear hg4))
    | fail
  all_goals
    go_wp2
    (try simp only [Exit.inBlock, Exit.then])
    refine bodyPost_ret (v := .tuple #[.agg #[.int .i64 s, .int .i64 m, .int .i64 b, .int .i64 j, .int .i64 a, .int .i64 c, .int .i64 d], .int .i64 l, .int .i64 r, .int .i64 q]) ?_ rfl ⟨_, _, _, _, _, _, _, _, _, _,  rfl, ?_⟩
    · simp [results, Tryd.results123, go_sem, c0, c1, c2, c3, c4, c5, c6, fz]
    · exact ((((((B4.out.setCell (Nat.le_refl _) _).setCell (Nat.le_refl _) _).setCell (Nat.le_refl _) _).setCell (Nat.le_refl _) _).setCell (Nat.le_refl _) _).setCell (Nat.le_refl _) _).setCell (Nat.le_refl _) _

set_option maxHeartbeats 2000000 in
theorem drawLB_any (A : Option Addr) (n cp : Nat) (w : World) (h : RdC w A n) (hn : n ≤ 1000000) :
    Calls Tryd.prog 35 #[.slice A n cp] w fun e w' => ∃ s m b j a c d l r q : Int, e = .returned (.tuple #[.agg #[.int .i64 s, .int .i64 m, .int .i64 b, .int .i64 j, .int .i64 a, .int .i64 c, .int .i64 d], .int .i64 l, .int .i64 r, .int .i64 q]) ∧ Below w.heap.size w w' := by
  have hp0 : BaBox (w.alloc (.cells #[.int .i64 0, .int .i64 0, .int .i64 0, .int .i64 0, .int .i64 0, .int .i64 0, .int .i64 0] 61)) w.heap.size 0 0 0 0 0 0 0 := heap_alloc_new w _
  have hb0 : Below w.heap.size w (w.alloc (.cells #[.int .i64 0, .int .i64 0, .int .i64 0, .int .i64 0, .int .i64 0, .int .i64 0, .int .i64 0] 61)) := by go_grown
  have hc0 := RdC_kept h hb0
  have hz0 : w.heap.size < (w.alloc (.cells #[.int .i64 0, .int .i64 0, .int .i64 0, .int .i64 0, .int .i64 0, .int .i64 0, .int .i64 0] 61)).heap.size := by simp
  clear h
  go_enter Tryd.func35, Tryd.ntmps35
  go_wp2_with fail
  generalize w.alloc (.cells #[.int .i64 0, .int .i64 0, .int .i64 0, .int .i64 0, .int .i64 0, .int .i64 0, .int .i64 0] 61) = u0 at *
  have P0 := Lib.hid hp0; clear hp0
  refine (drawAll_any A n cp _ hc0 hn).mono ?_
  rintro e w1 ⟨s, m, b, j, a, c, d, l, r, q, rfl, hb1⟩
  obtain ⟨⟨c0, c1, c2, c3, c4, c5, c6⟩, fz⟩ := BaBox_facts (BaBox_kept P0.out hb1)
  have B1 := Lib.hid (kept_trans hb0 hb1)
  clear hc0 hb1 hb0
  go_wp2
  (try simp only [Exit.inBlock, Exit.then])
  refine bodyPost_ret (v := .tuple #[.agg #[.int .i64 s, .int .i64 m, .int .i64 b, .int .i64 j, .int .i64 a, .int .i64 c, .int .i64 d], .int .i64 l, .int .i64 r, .int .i64 q]) ?_ rfl ⟨_, _, _, _, _, _, _, _, _, _, rfl, ?_⟩
  · simp [results, Tryd.results35, go_sem, c0, c1, c2, c3, c4, c5, c6, fz]
  · exact ((((((B1.out.setCell (Nat.le_refl _) _).setCell (Nat.le_refl _) _).setCell (Nat.le_refl _) _).setCell (Nat.le_refl _) _).setCell (Nat.le_refl _) _).setCell (Nat.le_refl _) _).setCell (Nat.le_refl _) _

set_option maxHeartbeats 2000000 in
theorem drawIS_any (A : Option Addr) (n cp : Nat) (w : World) (h : RdC w A n) (hn : n ≤ 1000000) :
    Calls Tryd.prog 38 #[.slice A n cp] w fun e w' => ∃ s m b j a c d l r q : Int, e = .returned (.tuple #[.agg #[.int .i64 s, .int .i64 m, .int .i64 b, .int .i64 j, .int .i64 a, .int .i64 c, .int .i64 d], .int .i64 l, .int .i64 r, .int .i64 q]) ∧ Below w.heap.size w w' := by
  have hp0 : BaBox (w.alloc (.cells #[.int .i64 0, .int .i64 0, .int .i64 0, .int .i64 0, .int .i64 0, .int .i64 0, .int .i64 0] 61)) w.heap.size 0 0 0 0 0 0 0 := heap_alloc_new w _
  have hb0 : Below w.heap.size w (w.alloc (.cells #[.int .i64 0, .int .i64 0, .int .i64 0, .int .i64 0, .int .i64 0, .int .i64 0, .int .i64 0] 61)) := by go_grown
  have hc0 := RdC_kept h hb0
  have hz0 : w.heap.size < (w.alloc (.cells #[.int .i64 0, .int .i64 0, .int .i64 0, .int .i64 0, .int .i64 0, .int .i64 0, .int .i64 0] 61)).heap.size := by simp
  clear h
  go_enter Tryd.func38, Tryd.ntmps38
  go_wp2_with fail
  generalize w.alloc (.cells #[.int .i64 0, .int .i64 0, .int .i64 0, .int .i64 0, .int .i64 0, .int .i64 0, .int .i64 0] 61) = u0 at *
  have P0 := Lib.hid hp0; clear hp0
  refine (drawAll_any A n cp _ hc0 hn).mono ?_
  rintro e w1 ⟨s, m, b, j, a, c, d, l, r, q, rfl, hb1⟩
  obtain ⟨⟨c0, c1, c2, c3, c4, c5, c6⟩, fz⟩ := BaBox_facts (BaBox_kept P0.out hb1)
  have B1 := Lib.hid (kept_trans hb0 hb1)
  clear hc0 hb1 hb0
  go_wp2
  (try simp only [Exit.inBlock, Exit.then])
  refine bodyPost_ret (v := .tuple #[.agg #[.int .i64 s, .int .i64 m, .int .i64 b, .int .i64 j, .int .i64 a, .int .i64 c, .int .i64 d], .int .i64 l, .int .i64 r, .int .i64 q]) ?_ rfl ⟨_, _, _, _, _, _, _, _, _, _, rfl, ?_⟩
  · simp [results, Tryd.results38, go_sem, c0, c1, c2, c3, c4, c5, c6, fz]
  · exact ((((((B1.out.setCell (Nat.le_refl _) _).setCell (Nat.le_refl _) _).setCell (Nat.le_refl _) _).setCell (Nat.le_refl _) _).setCell (Nat.le_refl _) _).setCell (Nat.le_refl _) _).setCell (Nat.le_refl _) _

theorem isL_ok {s m b j a c d l r q : Int} (h : (isL s m b j a c d l r q).2 = 0) : baseB s m b j a c d = true ∧ inB l 0 50000 = true ∧ inB r 0 1000 = true ∧ inB q 100 1000 = true ∧ isL s m b j a c d l r q = (stabB s m b j a c d l r q, 0) := by
  unfold isL at h ⊢
  by_cases hK : codeL3 (baseB s m b j a c d) [inB l 0 50000, inB r 0 1000, inB q 100 1000] = 0
  · obtain ⟨hv, hbs⟩ := codeL3_ok hK
    rw [if_pos hK]
    exact ⟨hv, hbs _ (by simp), hbs _ (by simp), hbs _ (by simp), rfl⟩
  · rw [if_neg hK] at h
    exact absurd h hK

theorem isL_is {s m b j a c d l r q : Int} (h1 : baseB s m b j a c d = true) (h2 : inB l 0 50000 = true) (h3 : inB r 0 1000 = true) (h4 : inB q 100 1000 = true) : isL s m b j a c d l r q = (stabB s m b j a c d l r q, 0) := by
  unfold isL
  rw [if_pos (by rw [h1, h2, h3, h4]; rfl)]

/-- The least ballast is enough, and no less is. -/
theorem lb_ok {s m b j a c d l r q : Int} (h : (lbAll s m b j a c d l r q).2 = 0) : (0 ≤ (lbAll s m b j a c d l r q).1 ∧ (lbAll s m b j a c d l r q).1 ≤ 500000) ∧ isL s m (lbAll s m b j a c d l r q).1 j a c d l r q = (true, 0) ∧ (1 ≤ (lbAll s m b j a c d l r q).1 → isL s m ((lbAll s m b j a c d l r q).1 - 1) j a c d l r q = (false, 0)) := by
  unfold lbAll at h ⊢
  by_cases hK : codeL3 (baseB s m b j a c d) [inB l 0 50000, inB r 0 1000, inB q 100 1000] = 0
  · obtain ⟨hv, hbs⟩ := codeL3_ok hK
    have hl : inB l 0 50000 = true := hbs _ (by simp)
    have hr : inB r 0 1000 = true := hbs _ (by simp)
    have hq : inB q 100 1000 = true := hbs _ (by simp)
    have hs := (base_bd hv).1
    have hnn := leastL_nn (totL m 0 j c l) s (2 * q * tiltL (tipL j a c d l r))
    rw [if_pos hK] at h ⊢
    by_cases hle : leastL (totL m 0 j c l) s (2 * q * tiltL (tipL j a c d l r)) ≤ 500000
    · rw [if_pos hle]
      refine ⟨⟨hnn, hle⟩, ?_, fun h1 => ?_⟩
      · rw [isL_is (base_ballast hv ⟨hnn, hle⟩) hl hr hq, stab_least (by omega) hnn]
        simp
      · dsimp only at h1 ⊢
        rw [isL_is (base_ballast hv ⟨by omega, by omega⟩) hl hr hq, stab_least (by omega) (by omega)]
        simp
        omega
    · rw [if_neg hle] at h
      simp at h
  · rw [if_neg hK] at h
    exact absurd h hK

theorem low_mul (n d : Int) (hd : 0 < d) : ∃ g : Int, 0 < g ∧ n = (lowL n d).1 * g ∧ d = (lowL n d).2 * g := by
  have hp := gcd_pos' n d hd
  refine ⟨(Nat.gcd n.natAbs d.natAbs : Nat), by omega, ?_, ?_⟩
  · unfold lowL
    rw [Int.tdiv_mul_cancel (Int.ofNat_dvd_left.2 (Nat.gcd_dvd_left _ _))]
  · unfold lowL
    rw [Int.tdiv_mul_cancel (Int.ofNat_dvd_left.2 (Nat.gcd_dvd_right _ _))]

theorem low_cmp (x A p : Int) (hA : 0 < A) : 2 * p * A ≤ 100 * x ↔ p * (lowL x (2 * A)).2 ≤ 100 * (lowL x (2 * A)).1 := by
  obtain ⟨g, hg, e1, e2⟩ := low_mul x (2 * A) (by omega)
  generalize (lowL x (2 * A)).1 = N at *
  generalize (lowL x (2 * A)).2 = D at *
  rw [show 2 * p * A = (p * D) * g by grind, show 100 * x = (100 * N) * g by grind]
  exact Int.mul_le_mul_right hg

theorem low_bd (n d k : Int) (hn : -k ≤ n ∧ n ≤ k) (hd : -k ≤ d ∧ d ≤ k) : (-k ≤ (lowL n d).1 ∧ (lowL n d).1 ≤ k) ∧ -k ≤ (lowL n d).2 ∧ (lowL n d).2 ≤ k := ⟨tdiv_bd _ _ _ hn, tdiv_bd _ _ _ hd⟩

/-- A crane that is stable has the safety that is told. -/
theorem sa_ok {s m b j a c d l r q : Int} (h1 : (isL s m b j a c d l r q).2 = 0) (h2 : (saL s m b j a c d l r).2 = 0) : (isL s m b j a c d l r q).1 = decide (q * (saL s m b j a c d l r).1.2 ≤ 100 * (saL s m b j a c d l r).1.1) ∧ (100 ≤ q ∧ q ≤ 1000) ∧ (-1100000000 ≤ (saL s m b j a c d l r).1.1 ∧ (saL s m b j a c d l r).1.1 ≤ 1100000000) ∧ -1100000000 ≤ (saL s m b j a c d l r).1.2 ∧ (saL s m b j a c d l r).1.2 ≤ 1100000000 := by
  obtain ⟨hv, hl, hr, hq, hE⟩ := isL_ok h1
  have hS := stab_parts hv hl hr (in_wide hq)
  rw [hE]
  unfold saL at h2 ⊢
  rw [if_pos (by rw [hv, hl, hr]; rfl)] at h2 ⊢
  unfold stabB
  generalize totL m b j c l = T at *
  generalize tipL j a c d l r = M at *
  obtain ⟨s0, s1, s2, s3, s4, s5⟩ := hS
  generalize tiltL M = A at *
  unfold safFr at h2 ⊢
  by_cases hA : A = 0
  · rw [if_pos hA] at h2; simp at h2
  · rw [if_neg hA] at h2 ⊢
    have hb := low_bd (T * s) (2 * A) 1100000000 (by omega) (by omega)
    refine ⟨?_, inB_true hq, hb.1, hb.2⟩
    dsimp only
    rw [decide_eq_decide, ← low_cmp (T * s) A q (by omega), show 100 * T * s = 100 * (T * s) by rw [Int.mul_assoc]]

/-- A fraction that fills a block. -/
def FrBox (w : World) (p : Nat) (x y : Int) : Prop := w.heap[p]? = some (.cells #[.int .i64 x, .int .i64 y] 70 (0, 0))

theorem FrBox_lt {w : World} {p : Nat} {x y : Int} (h : FrBox w p x y) : p < w.heap.size := World.block_lt_of_cell? _ _ (cell_of_row w p 0 _ _ _ h)

theorem FrBox_kept {W w1 : World} {p : Nat} {x y : Int} (h : FrBox W p x y) (hb : Below W.heap.size W w1) : FrBox w1 p x y := by
  unfold FrBox
  rw [hb.block p (FrBox_lt h)]
  exact h

theorem FrBox_at {w : World} {p : Nat} {x y : Int} (h : FrBox w p x y) : w.cell? ⟨p, 0, none⟩ = some (.int .i64 x) ∧ w.cell? ⟨p, 1, none⟩ = some (.int .i64 y) := ⟨by rw [cell_of_row w p 0 _ _ _ h]; rfl, by rw [cell_of_row w p 1 _ _ _ h]; rfl⟩

theorem f6big_any (A : Option Addr) (n c : Nat) (w : World) : Calls Tryd.prog 34 #[.slice A n c] w fun e w' => e = .returned (.bool (decide (4096 < n))) ∧ w = w' := by
  by_cases h : 4096 < n
  all_goals
    go_enter Tryd.func34, Tryd.ntmps34
    go_wp2
    go_ret
    exact ⟨by simp; omega, rfl⟩

theorem prodN_bd (x y p q : Int) (hx : 0 ≤ x ∧ x ≤ p) (hy : -q ≤ y ∧ y ≤ q) : -(p * q) ≤ x * y ∧ x * y ≤ p * q := by
  have h1 := Int.mul_le_mul_of_nonneg_left hy.2 hx.1
  have h2 := Int.mul_le_mul_of_nonneg_left hy.1 hx.1
  have h3 := Int.mul_le_mul_of_nonneg_right hx.2 (show 0 ≤ q by omega)
  rw [Int.mul_neg] at h2
  omega

-- needs open_bytes
set_option maxRecDepth 1000000 in
set_option maxHeartbeats 20000000 in
theorem walk_FnStability (w : World) (A : Option Addr) (n cp : Nat) (hr : RdC w A n) (hn : n ≤ maxLen) (ht : PowTab w) :
    Calls Tryd.prog 5 #[.slice A n cp] w fun e w' => e = .returned (.bool true) ∧ Below w.heap.size w w' := by
  have HR := Lib.hid hr; clear hr hn
  have HT := Lib.hid ht; clear ht
  by_cases hbig : 4096 < n
  · go_enter Tryd.func5, Tryd.ntmps5
    go_wp2_with fail
    refine (f6big_any _ _ _ _).mono ?_
    rintro e w1 ⟨rfl, rfl⟩
    go_wp2
    go_ret
    exact ⟨rfl, Below.refl _ _⟩
  go_enter Tryd.func5, Tryd.ntmps5
  go_wp2_with fail
  refine (f6big_any _ _ _ _).mono ?_
  rintro e w1 ⟨rfl, rfl⟩
  go_wp2_with fail
  refine (drawLB_any A n cp _ HR.out (by omega)).mono ?_
  rintro e w1 ⟨s, m, b, j, a, c, d, l, r, q, rfl, hb1⟩
  have hLI := fun u => implLB_any s m b j a c d l r q u
  have hLS := fun u => specLB_any s m b j a c d l r q u
  have hok := @lb_ok s m b j a c d l r q
  generalize lbAll s m b j a c d l r q = LB at *
  obtain ⟨ln, lc⟩ := LB
  dsimp only at hLI hLS hok
  have HLI := Lib.hid hLI; clear hLI
  have HLS := Lib.hid hLS; clear hLS
  have HOK := Lib.hid hok; clear hok
  go_wp2_with fail
  have hx1 : Below w1.heap.size w1 (w1.alloc (.cells #[.int .i64 s, .int .i64 m, .int .i64 b, .int .i64 j, .int .i64 a, .int .i64 c, .int .i64 d] 61)) := by go_grown
  have hq1 : BaBox (w1.alloc (.cells #[.int .i64 s, .int .i64 m, .int .i64 b, .int .i64 j, .int .i64 a, .int .i64 c, .int .i64 d] 61)) w1.heap.size s m b j a c d := heap_alloc_new w1 _
  have B1 := kept_trans hb1 hx1
  clear hx1
  have hpb := hb1.size
  generalize hp1 : w1.heap.size = pb at *
  generalize w1.alloc (.cells #[.int .i64 s, .int .i64 m, .int .i64 b, .int .i64 j, .int .i64 a, .int .i64 c, .int .i64 d] 61) = u1 at *
  have Kb := Lib.hid hq1; clear hq1 hp1
  refine (HLI.out _).mono ?_
  rintro e w2 ⟨rfl, hb2⟩
  replace Kb := Lib.hid (BaBox_kept Kb.out hb2)
  have B2 := kept_trans B1 hb2
  clear hb2
  obtain ⟨⟨a0, a1, a2', a3, a4, a5, a6⟩, f⟩ := BaBox_facts Kb.out
  clear f
  go_wp2_with fail
  clear a0 a1 a2' a3 a4 a5 a6
  refine (HLS.out _).mono ?_
  rintro e w3 ⟨rfl, hb3⟩
  replace Kb := Lib.hid (BaBox_kept Kb.out hb3)
  have B3 := kept_trans B2 hb3
  clear hb3
  go_wp2_with fail
  refine (drawIS_any A n cp _ (RdC_kept HR.out B3) (by omega)).mono ?_
  rintro e w4 ⟨s2, m2, b2, j2, a2, c2, d2, l2, r2, q2, rfl, hb4⟩
  replace Kb := Lib.hid (BaBox_kept Kb.out hb4)
  have B4 := kept_trans B3 hb4
  clear hb4
  have hVS := fun u => specVB_any s2 m2 b2 j2 a2 c2 d2 u
  have hVI := fun u => implVB_any s2 m2 b2 j2 a2 c2 d2 u
  have hTS := fun u => specBT_any s2 m2 b2 j2 a2 c2 d2 u
  have hTI := fun u t => implBT_any s2 m2 b2 j2 a2 c2 d2 u t
  have hMS := fun u => specTM_any s2 m2 b2 j2 a2 c2 d2 l2 u
  have hMI := fun u => implTM_any s2 m2 b2 j2 a2 c2 d2 l2 u
  have hOS := fun u => specMO_any s2 m2 b2 j2 a2 c2 d2 l2 r2 u
  have hOI := fun u => implMO_any s2 m2 b2 j2 a2 c2 d2 l2 r2 u
  have hFS := fun u => specOF_any s2 m2 b2 j2 a2 c2 d2 l2 r2 u
  have hFI := fun u => implOF_any s2 m2 b2 j2 a2 c2 d2 l2 r2 u
  have hPS := fun u => specPR_any s2 m2 b2 j2 a2 c2 d2 l2 r2 u
  have hPI := fun u => implPR_any s2 m2 b2 j2 a2 c2 d2 l2 r2 u
  have hAS := fun u => specSA_any s2 m2 b2 j2 a2 c2 d2 l2 r2 u
  have hAI := fun u => implSA_any s2 m2 b2 j2 a2 c2 d2 l2 r2 u
  have hIS := fun u => specIS_any s2 m2 b2 j2 a2 c2 d2 l2 r2 q2 u
  have hII := fun u => implIS_any s2 m2 b2 j2 a2 c2 d2 l2 r2 q2 u
  have hsa := @sa_ok s2 m2 b2 j2 a2 c2 d2 l2 r2 q2
  generalize baseB s2 m2 b2 j2 a2 c2 d2 = vb at *
  generalize (⟨(btextL s2 m2 b2 j2 a2 c2 d2).toArray⟩ : ByteArray) = tx at *
  generalize tmL s2 m2 b2 j2 a2 c2 d2 l2 = TM at *
  generalize moL s2 m2 b2 j2 a2 c2 d2 l2 r2 = MO at *
  generalize ofL s2 m2 b2 j2 a2 c2 d2 l2 r2 = OF at *
  generalize prL s2 m2 b2 j2 a2 c2 d2 l2 r2 = PR at *
  generalize saL s2 m2 b2 j2 a2 c2 d2 l2 r2 = SA at *
  generalize isL s2 m2 b2 j2 a2 c2 d2 l2 r2 q2 = IS at *
  obtain ⟨tm, tmc⟩ := TM
  obtain ⟨mo, moc⟩ := MO
  obtain ⟨⟨f1, f2⟩, fc⟩ := OF
  obtain ⟨⟨g1, g2⟩, gc⟩ := PR
  obtain ⟨⟨sn, sd⟩, sc⟩ := SA
  obtain ⟨isb, isc⟩ := IS
  dsimp only at hMS hMI hOS hOI hFS hFI hPS hPI hAS hAI hIS hII hsa
  have HVS := Lib.hid hVS; clear hVS
  have HVI := Lib.hid hVI; clear hVI
  have HTS := Lib.hid hTS; clear hTS
  have HTI := Lib.hid hTI; clear hTI
  have HMS := Lib.hid hMS; clear hMS
  have HMI := Lib.hid hMI; clear hMI
  have HOS := Lib.hid hOS; clear hOS
  have HOI := Lib.hid hOI; clear hOI
  have HFS := Lib.hid hFS; clear hFS
  have HFI := Lib.hid hFI; clear hFI
  have HPS := Lib.hid hPS; clear hPS
  have HPI := Lib.hid hPI; clear hPI
  have HAS := Lib.hid hAS; clear hAS
  have HAI := Lib.hid hAI; clear hAI
  have HIS := Lib.hid hIS; clear hIS
  have HII := Lib.hid hII; clear hII
  have HSA := Lib.hid hsa; clear hsa
  go_wp2_with fail
  have hx4 : Below w4.heap.size w4 (w4.alloc (.cells #[.int .i64 s2, .int .i64 m2, .int .i64 b2, .int .i64 j2, .int .i64 a2, .int .i64 c2, .int .i64 d2] 61)) := by go_grown
  have hq4 : BaBox (w4.alloc (.cells #[.int .i64 s2, .int .i64 m2, .int .i64 b2, .int .i64 j2, .int .i64 a2, .int .i64 c2, .int .i64 d2] 61)) w4.heap.size s2 m2 b2 j2 a2 c2 d2 := heap_alloc_new w4 _
  replace Kb := Lib.hid (BaBox_kept Kb.out hx4)
  have B4 := kept_trans B4 hx4
  clear hx4
  generalize hp4 : w4.heap.size = pc at *
  generalize w4.alloc (.cells #[.int .i64 s2, .int .i64 m2, .int .i64 b2, .int .i64 j2, .int .i64 a2, .int .i64 c2, .int .i64 d2] 61) = u4 at *
  have Kc := Lib.hid hq4; clear hq4 hp4
  refine (HVS.out _).mono ?_
  rintro e w5 ⟨rfl, hb5⟩
  replace Kb := Lib.hid (BaBox_kept Kb.out hb5)
  replace Kc := Lib.hid (BaBox_kept Kc.out hb5)
  have B5 := kept_trans B4 hb5
  clear hb5
  obtain ⟨⟨a0, a1, a2', a3, a4, a5, a6⟩, f⟩ := BaBox_facts Kc.out
  clear f
  go_wp2_with fail
  clear a0 a1 a2' a3 a4 a5 a6
  refine (HTS.out _).mono ?_
  rintro e w6 ⟨rfl, hb6⟩
  replace Kb := Lib.hid (BaBox_kept Kb.out hb6)
  replace Kc := Lib.hid (BaBox_kept Kc.out hb6)
  have B6 := kept_trans B5 hb6
  clear hb6
  obtain ⟨⟨a0, a1, a2', a3, a4, a5, a6⟩, f⟩ := BaBox_facts Kc.out
  clear f
  go_wp2_with fail
  clear a0 a1 a2' a3 a4 a5 a6
  refine (HMS.out _).mono ?_
  rintro e w7 ⟨rfl, hb7⟩
  replace Kb := Lib.hid (BaBox_kept Kb.out hb7)
  replace Kc := Lib.hid (BaBox_kept Kc.out hb7)
  have B7 := kept_trans B6 hb7
  clear hb7
  obtain ⟨⟨a0, a1, a2', a3, a4, a5, a6⟩, f⟩ := BaBox_facts Kc.out
  clear f
  go_wp2_with fail
  clear a0 a1 a2' a3 a4 a5 a6
  refine (HOS.out _).mono ?_
  rintro e w8 ⟨rfl, hb8⟩
  replace Kb := Lib.hid (BaBox_kept Kb.out hb8)
  replace Kc := Lib.hid (BaBox_kept Kc.out hb8)
  have B8 := kept_trans B7 hb8
  clear hb8
  obtain ⟨⟨a0, a1, a2', a3, a4, a5, a6⟩, f⟩ := BaBox_facts Kc.out
  clear f
  go_wp2_with fail
  clear a0 a1 a2' a3 a4 a5 a6
  refine (HFS.out _).mono ?_
  rintro e w9 ⟨rfl, hb9⟩
  replace Kb := Lib.hid (BaBox_kept Kb.out hb9)
  replace Kc := Lib.hid (BaBox_kept Kc.out hb9)
  have B9 := kept_trans B8 hb9
  clear hb9
  obtain ⟨⟨a0, a1, a2', a3, a4, a5, a6⟩, f⟩ := BaBox_facts Kc.out
  have hlt := BaBox_lt Kc.out
  clear f
  go_wp2_with fail
  clear a0 a1 a2' a3 a4 a5 a6 hlt
  have hx9 : Below w9.heap.size w9 (w9.alloc (.cells #[.int .i64 f1, .int .i64 f2] 70)) := by go_grown
  have hq9 : FrBox (w9.alloc (.cells #[.int .i64 f1, .int .i64 f2] 70)) w9.heap.size f1 f2 := heap_alloc_new w9 _
  replace Kb := Lib.hid (BaBox_kept Kb.out hx9)
  replace Kc := Lib.hid (BaBox_kept Kc.out hx9)
  have B9 := kept_trans B9 hx9
  clear hx9
  generalize hp9 : w9.heap.size = q1 at *
  generalize w9.alloc (.cells #[.int .i64 f1, .int .i64 f2] 70) = u9 at *
  have F1 := Lib.hid hq9; clear hq9 hp9
  refine (HPS.out _).mono ?_
  rintro e w10 ⟨rfl, hb10⟩
  replace Kb := Lib.hid (BaBox_kept Kb.out hb10)
  replace Kc := Lib.hid (BaBox_kept Kc.out hb10)
  replace F1 := Lib.hid (FrBox_kept F1.out hb10)
  have B10 := kept_trans B9 hb10
  clear hb10
  obtain ⟨⟨a0, a1, a2', a3, a4, a5, a6⟩, f⟩ := BaBox_facts Kc.out
  have hlt := BaBox_lt Kc.out
  clear f
  go_wp2_with fail
  clear a0 a1 a2' a3 a4 a5 a6 hlt
  have hx10 : Below w10.heap.size w10 (w10.alloc (.cells #[.int .i64 g1, .int .i64 g2] 70)) := by go_grown
  have hq10 : FrBox (w10.alloc (.cells #[.int .i64 g1, .int .i64 g2] 70)) w10.heap.size g1 g2 := heap_alloc_new w10 _
  replace Kb := Lib.hid (BaBox_kept Kb.out hx10)
  replace Kc := Lib.hid (BaBox_kept Kc.out hx10)
  replace F1 := Lib.hid (FrBox_kept F1.out hx10)
  have B10 := kept_trans B10 hx10
  clear hx10
  generalize hp10 : w10.heap.size = p2' at *
  generalize w10.alloc (.cells #[.int .i64 g1, .int .i64 g2] 70) = u10 at *
  have F2 := Lib.hid hq10; clear hq10 hp10
  refine (HAS.out _).mono ?_
  rintro e w11 ⟨rfl, hb11⟩
  replace Kb := Lib.hid (BaBox_kept Kb.out hb11)
  replace Kc := Lib.hid (BaBox_kept Kc.out hb11)
  replace F1 := Lib.hid (FrBox_kept F1.out hb11)
  replace F2 := Lib.hid (FrBox_kept F2.out hb11)
  have B11 := kept_trans B10 hb11
  clear hb11
  obtain ⟨⟨a0, a1, a2', a3, a4, a5, a6⟩, f⟩ := BaBox_facts Kc.out
  have hlt := BaBox_lt Kc.out
  clear f
  go_wp2_with fail
  clear a0 a1 a2' a3 a4 a5 a6 hlt
  have hx11 : Below w11.heap.size w11 (w11.alloc (.cells #[.int .i64 sn, .int .i64 sd] 70)) := by go_grown
  have hq11 : FrBox (w11.alloc (.cells #[.int .i64 sn, .int .i64 sd] 70)) w11.heap.size sn sd := heap_alloc_new w11 _
  replace Kb := Lib.hid (BaBox_kept Kb.out hx11)
  replace Kc := Lib.hid (BaBox_kept Kc.out hx11)
  replace F1 := Lib.hid (FrBox_kept F1.out hx11)
  replace F2 := Lib.hid (FrBox_kept F2.out hx11)
  have B11 := kept_trans B11 hx11
  clear hx11
  generalize hp11 : w11.heap.size = p3' at *
  generalize w11.alloc (.cells #[.int .i64 sn, .int .i64 sd] 70) = u11 at *
  have F3 := Lib.hid hq11; clear hq11 hp11
  refine (HIS.out _).mono ?_
  rintro e w12 ⟨rfl, hb12⟩
  replace Kb := Lib.hid (BaBox_kept Kb.out hb12)
  replace Kc := Lib.hid (BaBox_kept Kc.out hb12)
  replace F1 := Lib.hid (FrBox_kept F1.out hb12)
  replace F2 := Lib.hid (FrBox_kept F2.out hb12)
  replace F3 := Lib.hid (FrBox_kept F3.out hb12)
  have B12 := kept_trans B11 hb12
  clear hb12
  obtain ⟨⟨a0, a1, a2', a3, a4, a5, a6⟩, f⟩ := BaBox_facts Kc.out
  clear f
  go_wp2_with fail
  clear a0 a1 a2' a3 a4 a5 a6
  refine (HII.out _).mono ?_
  rintro e w13 ⟨rfl, hb13⟩
  replace Kb := Lib.hid (BaBox_kept Kb.out hb13)
  replace Kc := Lib.hid (BaBox_kept Kc.out hb13)
  replace F1 := Lib.hid (FrBox_kept F1.out hb13)
  replace F2 := Lib.hid (FrBox_kept F2.out hb13)
  replace F3 := Lib.hid (FrBox_kept F3.out hb13)
  have B13 := kept_trans B12 hb13
  clear hb13
  obtain ⟨⟨a0, a1, a2', a3, a4, a5, a6⟩, f⟩ := BaBox_facts Kc.out
  clear f
  go_wp2_with fail
  clear a0 a1 a2' a3 a4 a5 a6
  refine (HAI.out _).mono ?_
  rintro e w14 ⟨rfl, hb14⟩
  replace Kb := Lib.hid (BaBox_kept Kb.out hb14)
  replace Kc := Lib.hid (BaBox_kept Kc.out hb14)
  replace F1 := Lib.hid (FrBox_kept F1.out hb14)
  replace F2 := Lib.hid (FrBox_kept F2.out hb14)
  replace F3 := Lib.hid (FrBox_kept F3.out hb14)
  have B14 := kept_trans B13 hb14
  clear hb14
  obtain ⟨⟨a0, a1, a2', a3, a4, a5, a6⟩, f⟩ := BaBox_facts Kc.out
  have hlt := BaBox_lt Kc.out
  clear f
  go_wp2_with fail
  clear a0 a1 a2' a3 a4 a5 a6 hlt
  have hx14 : Below w14.heap.size w14 (w14.alloc (.cells #[.int .i64 sn, .int .i64 sd] 70)) := by go_grown
  have hq14 : FrBox (w14.alloc (.cells #[.int .i64 sn, .int .i64 sd] 70)) w14.heap.size sn sd := heap_alloc_new w14 _
  replace Kb := Lib.hid (BaBox_kept Kb.out hx14)
  replace Kc := Lib.hid (BaBox_kept Kc.out hx14)
  replace F1 := Lib.hid (FrBox_kept F1.out hx14)
  replace F2 := Lib.hid (FrBox_kept F2.out hx14)
  replace F3 := Lib.hid (FrBox_kept F3.out hx14)
  have B14 := kept_trans B14 hx14
  clear hx14
  generalize hp14 : w14.heap.size = p4' at *
  generalize w14.alloc (.cells #[.int .i64 sn, .int .i64 sd] 70) = u14 at *
  have F4 := Lib.hid hq14; clear hq14 hp14
  refine (HPI.out _).mono ?_
  rintro e w15 ⟨rfl, hb15⟩
  replace Kb := Lib.hid (BaBox_kept Kb.out hb15)
  replace Kc := Lib.hid (BaBox_kept Kc.out hb15)
  replace F1 := Lib.hid (FrBox_kept F1.out hb15)
  replace F2 := Lib.hid (FrBox_kept F2.out hb15)
  replace F3 := Lib.hid (FrBox_kept F3.out hb15)
  replace F4 := Lib.hid (FrBox_kept F4.out hb15)
  have B15 := kept_trans B14 hb15
  clear hb15
  obtain ⟨⟨a0, a1, a2', a3, a4, a5, a6⟩, f⟩ := BaBox_facts Kc.out
  have hlt := BaBox_lt Kc.out
  clear f
  go_wp2_with fail
  clear a0 a1 a2' a3 a4 a5 a6 hlt
  have hx15 : Below w15.heap.size w15 (w15.alloc (.cells #[.int .i64 g1, .int .i64 g2] 70)) := by go_grown
  have hq15 : FrBox (w15.alloc (.cells #[.int .i64 g1, .int .i64 g2] 70)) w15.heap.size g1 g2 := heap_alloc_new w15 _
  replace Kb := Lib.hid (BaBox_kept Kb.out hx15)
  replace Kc := Lib.hid (BaBox_kept Kc.out hx15)
  replace F1 := Lib.hid (FrBox_kept F1.out hx15)
  replace F2 := Lib.hid (FrBox_kept F2.out hx15)
  replace F3 := Lib.hid (FrBox_kept F3.out hx15)
  replace F4 := Lib.hid (FrBox_kept F4.out hx15)
  have B15 := kept_trans B15 hx15
  clear hx15
  generalize hp15 : w15.heap.size = p5' at *
  generalize w15.alloc (.cells #[.int .i64 g1, .int .i64 g2] 70) = u15 at *
  have F5 := Lib.hid hq15; clear hq15 hp15
  refine (HFI.out _).mono ?_
  rintro e w16 ⟨rfl, hb16⟩
  replace Kb := Lib.hid (BaBox_kept Kb.out hb16)
  replace Kc := Lib.hid (BaBox_kept Kc.out hb16)
  replace F1 := Lib.hid (FrBox_kept F1.out hb16)
  replace F2 := Lib.hid (FrBox_kept F2.out hb16)
  replace F3 := Lib.hid (FrBox_kept F3.out hb16)
  replace F4 := Lib.hid (FrBox_kept F4.out hb16)
  replace F5 := Lib.hid (FrBox_kept F5.out hb16)
  have B16 := kept_trans B15 hb16
  clear hb16
  obtain ⟨⟨a0, a1, a2', a3, a4, a5, a6⟩, f⟩ := BaBox_facts Kc.out
  have hlt := BaBox_lt Kc.out
  clear f
  go_wp2_with fail
  clear a0 a1 a2' a3 a4 a5 a6 hlt
  have hx16 : Below w16.heap.size w16 (w16.alloc (.cells #[.int .i64 f1, .int .i64 f2] 70)) := by go_grown
  have hq16 : FrBox (w16.alloc (.cells #[.int .i64 f1, .int .i64 f2] 70)) w16.heap.size f1 f2 := heap_alloc_new w16 _
  replace Kb := Lib.hid (BaBox_kept Kb.out hx16)
  replace Kc := Lib.hid (BaBox_kept Kc.out hx16)
  replace F1 := Lib.hid (FrBox_kept F1.out hx16)
  replace F2 := Lib.hid (FrBox_kept F2.out hx16)
  replace F3 := Lib.hid (FrBox_kept F3.out hx16)
  replace F4 := Lib.hid (FrBox_kept F4.out hx16)
  replace F5 := Lib.hid (FrBox_kept F5.out hx16)
  have B16 := kept_trans B16 hx16
  clear hx16
  generalize hp16 : w16.heap.size = p6' at *
  generalize w16.alloc (.cells #[.int .i64 f1, .int .i64 f2] 70) = u16 at *
  have F6 := Lib.hid hq16; clear hq16 hp16
  refine (HOI.out _).mono ?_
  rintro e w17 ⟨rfl, hb17⟩
  replace Kb := Lib.hid (BaBox_kept Kb.out hb17)
  replace Kc := Lib.hid (BaBox_kept Kc.out hb17)
  replace F1 := Lib.hid (FrBox_kept F1.out hb17)
  replace F2 := Lib.hid (FrBox_kept F2.out hb17)
  replace F3 := Lib.hid (FrBox_kept F3.out hb17)
  replace F4 := Lib.hid (FrBox_kept F4.out hb17)
  replace F5 := Lib.hid (FrBox_kept F5.out hb17)
  replace F6 := Lib.hid (FrBox_kept F6.out hb17)
  have B17 := kept_trans B16 hb17
  clear hb17
  obtain ⟨⟨a0, a1, a2', a3, a4, a5, a6⟩, f⟩ := BaBox_facts Kc.out
  clear f
  go_wp2_with fail
  clear a0 a1 a2' a3 a4 a5 a6
  refine (HMI.out _).mono ?_
  rintro e w18 ⟨rfl, hb18⟩
  replace Kb := Lib.hid (BaBox_kept Kb.out hb18)
  replace Kc := Lib.hid (BaBox_kept Kc.out hb18)
  replace F1 := Lib.hid (FrBox_kept F1.out hb18)
  replace F2 := Lib.hid (FrBox_kept F2.out hb18)
  replace F3 := Lib.hid (FrBox_kept F3.out hb18)
  replace F4 := Lib.hid (FrBox_kept F4.out hb18)
  replace F5 := Lib.hid (FrBox_kept F5.out hb18)
  replace F6 := Lib.hid (FrBox_kept F6.out hb18)
  have B18 := kept_trans B17 hb18
  clear hb18
  obtain ⟨x10, x11⟩ := FrBox_at F1.out
  obtain ⟨x20, x21⟩ := FrBox_at F2.out
  obtain ⟨x30, x31⟩ := FrBox_at F3.out
  obtain ⟨x40, x41⟩ := FrBox_at F4.out
  obtain ⟨x50, x51⟩ := FrBox_at F5.out
  obtain ⟨x60, x61⟩ := FrBox_at F6.out
  obtain ⟨⟨a0, a1, a2', a3, a4, a5, a6⟩, f⟩ := BaBox_facts Kc.out
  clear f
  go_wp2_with fail
  clear a0 a1 a2' a3 a4 a5 a6 x10 x11 x20 x21 x30 x31 x40 x41 x50 x51 x60 x61
  refine (HTI.out _ (tab_kept HT.out B18)).mono ?_
  rintro e w19 ⟨rfl, hb19⟩
  replace Kb := Lib.hid (BaBox_kept Kb.out hb19)
  replace Kc := Lib.hid (BaBox_kept Kc.out hb19)
  replace F1 := Lib.hid (FrBox_kept F1.out hb19)
  replace F2 := Lib.hid (FrBox_kept F2.out hb19)
  replace F3 := Lib.hid (FrBox_kept F3.out hb19)
  replace F4 := Lib.hid (FrBox_kept F4.out hb19)
  replace F5 := Lib.hid (FrBox_kept F5.out hb19)
  replace F6 := Lib.hid (FrBox_kept F6.out hb19)
  have B19 := kept_trans B18 hb19
  clear hb19
  clear F1 F2 F3 F5 F6
  obtain ⟨⟨a0, a1, a2', a3, a4, a5, a6⟩, f⟩ := BaBox_facts Kc.out
  clear f
  go_wp2_with fail
  clear a0 a1 a2' a3 a4 a5 a6
  refine (HVI.out _).mono ?_
  rintro e w20 ⟨rfl, hb20⟩
  replace Kb := Lib.hid (BaBox_kept Kb.out hb20)
  replace Kc := Lib.hid (BaBox_kept Kc.out hb20)
  replace F4 := Lib.hid (FrBox_kept F4.out hb20)
  have B20 := kept_trans B19 hb20
  clear hb20
  obtain ⟨y0, y1⟩ := FrBox_at F4.out
  have hF4 := F4
  clear Kc F4 hF4
  have HK := Lib.hid Kb.out
  have kb := Kb.out
  obtain ⟨⟨a0, a1, a2', a3, a4, a5, a6⟩, f⟩ := BaBox_facts kb
  have fz := f 2
  clear f kb
  have hBB := Lib.hid B20
  skip
  by_cases h1 : isc = 0
  · by_cases h2 : sc = 0
    · obtain ⟨e1, e2, e3, e4⟩ := HSA.out h1 h2
      subst h1 h2
      skip
      have k1 : IntKind.i64.wrap (100 * sn) = 100 * sn := IntWalk.i64_in _ (by omega)
      have k2 : wrap64 (100 * sn) = 100 * sn := IntWalk.wrap64_in _ (by omega)
      have k3 := prodN_bd q2 sd 1000 1100000000 (by omega) (by omega)
      have k4 : IntKind.i64.wrap (q2 * sd) = q2 * sd := IntWalk.i64_in _ (by omega)
      have k5 : wrap64 (q2 * sd) = q2 * sd := IntWalk.wrap64_in _ (by omega)
      subst e1
      by_cases hlc : lc = 0
      · subst hlc
        obtain ⟨⟨n0, n1⟩, ok1, ok2⟩ := HOK.out rfl
        have hI1 := fun u => implIS_any s m ln j a c d l r q u
        rw [ok1] at hI1
        have HI1 := Lib.hid hI1; clear hI1
        have hbx := Lib.hid ((BaBox_put HK.out ln).2.2.1)
        have HPB := Lib.hid hpb
        have hbs : Below w.heap.size w (w20.setCell ⟨pb, 2, none⟩ (.int .i64 ln)) := hBB.out.setCell hpb _
        clear hpb
        go_wp2_with fail
        generalize w20.setCell ⟨pb, 2, none⟩ (.int .i64 ln) = v0 at *
        refine (HI1.out _).mono ?_
        rintro e v1 ⟨rfl, hv1⟩
        have hbx1 := BaBox_kept hbx.out hv1
        have bv1 := kept_trans hbs hv1
        clear a0 a1 a2' a3 a4 a5 a6 fz hbx hbs hv1 ok1 HI1 HK hBB
        by_cases hn0 : ln = 0
        · subst hn0
          go_wp2
          go_ret
          exact ⟨rfl, bv1⟩
        · have hn1 : (ln == 0) = false := by simpa using hn0
          have ok3 := ok2 (by omega)
          have hI2 := fun u => implIS_any s m (ln - 1) j a c d l r q u
          rw [ok3] at hI2
          have HI2 := Lib.hid hI2; clear hI2
          have hbs2 : Below w.heap.size w (v1.setCell ⟨pb, 2, none⟩ (.int .i64 (ln - 1))) := bv1.setCell HPB.out _
          have hbx2 := (BaBox_put hbx1 (ln - 1)).2.2.1
          obtain ⟨⟨a0, a1, a2', a3, a4, a5, a6⟩, f⟩ := BaBox_facts hbx1
          have fz := f 2
          clear f hbx1 ok2 ok3
          have HBX2 := Lib.hid hbx2; clear hbx2
          go_wp2_with fail
          refine (HI2.out _).mono ?_
          rintro e v2 ⟨rfl, hv2⟩
          go_wp2
          go_ret
          exact ⟨rfl, kept_trans hbs2 hv2⟩
      · have hlc1 : (lc == 0) = false := by simpa using hlc
        have hlc2 : (lc != 0) = true := by simpa using hlc
        go_wp2
        go_ret
        exact ⟨rfl, hBB.out⟩
    · have h21 : (sc == 0) = false := by simpa using h2
      subst h1
      by_cases hlc : lc = 0
      · subst hlc
        obtain ⟨⟨n0, n1⟩, ok1, ok2⟩ := HOK.out rfl
        have hI1 := fun u => implIS_any s m ln j a c d l r q u
        rw [ok1] at hI1
        have HI1 := Lib.hid hI1; clear hI1
        have hbx := Lib.hid ((BaBox_put HK.out ln).2.2.1)
        have HPB := Lib.hid hpb
        have hbs : Below w.heap.size w (w20.setCell ⟨pb, 2, none⟩ (.int .i64 ln)) := hBB.out.setCell hpb _
        clear hpb
        go_wp2_with fail
        generalize w20.setCell ⟨pb, 2, none⟩ (.int .i64 ln) = v0 at *
        refine (HI1.out _).mono ?_
        rintro e v1 ⟨rfl, hv1⟩
        have hbx1 := BaBox_kept hbx.out hv1
        have bv1 := kept_trans hbs hv1
        clear a0 a1 a2' a3 a4 a5 a6 fz hbx hbs hv1 ok1 HI1 HK hBB
        by_cases hn0 : ln = 0
        · subst hn0
          go_wp2
          go_ret
          exact ⟨rfl, bv1⟩
        · have hn1 : (ln == 0) = false := by simpa using hn0
          have ok3 := ok2 (by omega)
          have hI2 := fun u => implIS_any s m (ln - 1) j a c d l r q u
          rw [ok3] at hI2
          have HI2 := Lib.hid hI2; clear hI2
          have hbs2 : Below w.heap.size w (v1.setCell ⟨pb, 2, none⟩ (.int .i64 (ln - 1))) := bv1.setCell HPB.out _
          have hbx2 := (BaBox_put hbx1 (ln - 1)).2.2.1
          obtain ⟨⟨a0, a1, a2', a3, a4, a5, a6⟩, f⟩ := BaBox_facts hbx1
          have fz := f 2
          clear f hbx1 ok2 ok3
          have HBX2 := Lib.hid hbx2; clear hbx2
          go_wp2_with fail
          refine (HI2.out _).mono ?_
          rintro e v2 ⟨rfl, hv2⟩
          go_wp2
          go_ret
          exact ⟨rfl, kept_trans hbs2 hv2⟩
      · have hlc1 : (lc == 0) = false := by simpa using hlc
        have hlc2 : (lc != 0) = true := by simpa using hlc
        go_wp2
        go_ret
        exact ⟨rfl, hBB.out⟩
  · have h11 : (isc == 0) = false := by simpa using h1
    by_cases hlc : lc = 0
    · subst hlc
      obtain ⟨⟨n0, n1⟩, ok1, ok2⟩ := HOK.out rfl
      have hI1 := fun u => implIS_any s m ln j a c d l r q u
      rw [ok1] at hI1
      have HI1 := Lib.hid hI1; clear hI1
      have hbx := Lib.hid ((BaBox_put HK.out ln).2.2.1)
      have HPB := Lib.hid hpb
      have hbs : Below w.heap.size w (w20.setCell ⟨pb, 2, none⟩ (.int .i64 ln)) := hBB.out.setCell hpb _
      clear hpb
      go_wp2_with fail
      generalize w20.setCell ⟨pb, 2, none⟩ (.int .i64 ln) = v0 at *
      refine (HI1.out _).mono ?_
      rintro e v1 ⟨rfl, hv1⟩
      have hbx1 := BaBox_kept hbx.out hv1
      have bv1 := kept_trans hbs hv1
      clear a0 a1 a2' a3 a4 a5 a6 fz hbx hbs hv1 ok1 HI1 HK hBB
      by_cases hn0 : ln = 0
      · subst hn0
        go_wp2
        go_ret
        exact ⟨rfl, bv1⟩
      · have hn1 : (ln == 0) = false := by simpa using hn0
        have ok3 := ok2 (by omega)
        have hI2 := fun u => implIS_any s m (ln - 1) j a c d l r q u
        rw [ok3] at hI2
        have HI2 := Lib.hid hI2; clear hI2
        have hbs2 : Below w.heap.size w (v1.setCell ⟨pb, 2, none⟩ (.int .i64 (ln - 1))) := bv1.setCell HPB.out _
        have hbx2 := (BaBox_put hbx1 (ln - 1)).2.2.1
        obtain ⟨⟨a0, a1, a2', a3, a4, a5, a6⟩, f⟩ := BaBox_facts hbx1
        have fz := f 2
        clear f hbx1 ok2 ok3
        have HBX2 := Lib.hid hbx2; clear hbx2
        go_wp2_with fail
        refine (HI2.out _).mono ?_
        rintro e v2 ⟨rfl, hv2⟩
        go_wp2
        go_ret
        exact ⟨rfl, kept_trans hbs2 hv2⟩
    · have hlc1 : (lc == 0) = false := by simpa using hlc
      have hlc2 : (lc != 0) = true := by simpa using hlc
      go_wp2
      go_ret
      exact ⟨rfl, hBB.out⟩

end Go.Proofs.YtjdppjcmelflbaaDoor
