/- Proved: for every input the law FnExactIsName returns true, and each argument reads afterwards as it read before; no condition beside those of the given row. -/
import Derived.Test.YtjddpbpambnlgaaRows
import Derived.WalkKit
import Derived.ProofKit
import Derived.OpenShut
import Derived.Lib.Hide
import Derived.Handy
import Derived.Carry
import Derived.Laws.RangeAny
import Derived.Lib.SmallJoins
import Derived.ChangeMaps5
namespace Go.Proofs.Ytjddpbpambnlgaa
open Go.ChangeShapes Go.WideShapes Go.ChangeAt Go.RowKit
set_option linter.unusedVariables false
set_option linter.unusedSimpArgs false

theorem trodAll_stay {H : Type} {enc : TypeId × Value → H} {P : Program} (hl : laidOutB P = true) {W W' : World} (hb : Below W.heap.size W W') :
    ∀ (ts : List TypeId) (vs : List Value) (ds : List (DataW H)) (ps : List MemPlace), ts.all (fun t => P.readableRec t && decide (t < P.types.size)) = true →
      DataW.TrodAll enc P W 0 (fun _ => true) true ts vs ds ps → (∀ x ∈ ps, x.block < W.heap.size) →
      DataW.TrodAll enc P W' 0 (fun b => decide (b < W.heap.size)) true ts vs ds ps := by
  intro ts
  induction ts with
  | nil => intro vs ds ps _ h _; obtain ⟨rfl, rfl, rfl⟩ := trodAll_nil h; exact rfl
  | cons t ts ih =>
    intro vs ds ps hr h hlt
    simp only [List.all_cons, Bool.and_eq_true, decide_eq_true_eq] at hr
    obtain ⟨v, vs', d, ds', p, q, rfl, rfl, rfl, h0, h1⟩ := trodAll_cons h
    exact ⟨p, q, Below.trod hl hr.1.1 hr.1.2 h0 hb (fun x hx => hlt x (by simp [hx])), ih _ _ _ hr.2 h1 (fun x hx => hlt x (by simp [hx])), rfl⟩

/-- A law's row at its end: it returned true, and of what was there nothing has turned. -/
theorem law_post {H : Type} {enc : TypeId × Value → H} {P : Program} {f : Func} {s : ChangeSpec} {W W' : World} {args : Array Value} {ds gs : List (DataW H)} {before : List MemPlace} {B : TypeId}
    (hl : laidOutB P = true) (hr : f.params.toList.all (fun t => P.readableRec t && decide (t < P.types.size)) = true)
    (hres : f.resultTypes = #[B]) (hB : P.underlying B = some .bool) (hv : s.vars = [])
    (hW : DataW.Whole enc P f.params.toList s.vars false W args.toList ds gs before)
    (hfn : s.fn H (ds ++ gs) = { results := [.lit (.bool true)], args := ds }) (hb : Below W.heap.size W W') :
    s.post enc P f false true false false W args (.bool true) W' := by
  have hlt : ∀ p ∈ before, p.block < W.heap.size := fun p hp => hW.lt p hp
  have hW' := hW
  obtain ⟨p, q, hA, hV, rfl, _, _⟩ := hW'
  rw [hv] at hV
  obtain ⟨rfl, rfl⟩ := trodVars_none hV
  refine ⟨ds, [], p ++ [], [], p, [], hW, ?_, ?_, ?_, hb.frame _, fun h => by cases h⟩
  · rw [hfn, hres]
    exact trodAll_cons_mk (shut_bool hB _) trodAll_mk0
  · rw [hfn]
    exact trodAll_stay hl hb _ _ _ _ hr hA (fun x hx => hlt x (by simp [hx]))
  · rw [hfn, hv]
    exact rfl

def smallI (c : Int) : Bool := decide (97 ≤ c) && decide (c ≤ 122)

def digitI (c : Int) : Bool := decide (48 ≤ c) && decide (c ≤ 57)

def okI (c : Int) : Bool := smallI c || digitI c || decide (c = 45)

def NameP (s : ByteArray) : Prop := 1 ≤ s.size ∧ s.size ≤ 12 ∧ (∀ h : 0 < s.size, smallI (s[0]'h).toNat = true) ∧ ∀ i, (h : i < s.size) → okI (s[i]'h).toNat = true

noncomputable def nameB (s : ByteArray) : Bool := @decide (NameP s) (Classical.propDecidable _)

theorem nameB_true {s : ByteArray} (h : NameP s) : nameB s = true := by unfold nameB; exact @decide_eq_true _ (Classical.propDecidable _) h

theorem nameB_false {s : ByteArray} (h : ¬ NameP s) : nameB s = false := by unfold nameB; exact @decide_eq_false _ (Classical.propDecidable _) h

theorem small_any (c : Int) (w : World) :
    Calls Try.prog 34 #[.int .u8 c] w fun e w' => e = .returned (.bool (smallI c)) ∧ w = w' := by
  unfold smallI
  rcases (show ¬ 97 ≤ c ∨ (97 ≤ c ∧ ¬ c ≤ 122) ∨ (97 ≤ c ∧ c ≤ 122) from by omega) with h1 | ⟨h1, h2⟩ | ⟨h1, h2⟩
  all_goals
    go_enter Try.func34, Try.ntmps34
    go_wp2
    go_ret
    exact ⟨by simp [*] <;> omega, rfl⟩

theorem digit_any (c : Int) (w : World) :
    Calls Try.prog 35 #[.int .u8 c] w fun e w' => e = .returned (.bool (digitI c)) ∧ w = w' := by
  unfold digitI
  rcases (show ¬ 48 ≤ c ∨ (48 ≤ c ∧ ¬ c ≤ 57) ∨ (48 ≤ c ∧ c ≤ 57) from by omega) with h1 | ⟨h1, h2⟩ | ⟨h1, h2⟩
  all_goals
    go_enter Try.func35, Try.ntmps35
    go_wp2
    go_ret
    exact ⟨by simp [*] <;> omega, rfl⟩

theorem isLetter_any (c : Int) (w : World) :
    Calls Try.prog 36 #[.int .i32 c] w fun e w' => e = .returned (.bool (smallI c)) ∧ w = w' := by
  unfold smallI
  rcases (show ¬ 97 ≤ c ∨ (97 ≤ c ∧ ¬ c ≤ 122) ∨ (97 ≤ c ∧ c ≤ 122) from by omega) with h1 | ⟨h1, h2⟩ | ⟨h1, h2⟩
  all_goals
    go_enter Try.func36, Try.ntmps36
    go_wp2
    go_ret
    exact ⟨by simp [*] <;> omega, rfl⟩

theorem isDigit_any (c : Int) (w : World) :
    Calls Try.prog 37 #[.int .i32 c] w fun e w' => e = .returned (.bool (digitI c)) ∧ w = w' := by
  unfold digitI
  rcases (show ¬ 48 ≤ c ∨ (48 ≤ c ∧ ¬ c ≤ 57) ∨ (48 ≤ c ∧ c ≤ 57) from by omega) with h1 | ⟨h1, h2⟩ | ⟨h1, h2⟩
  all_goals
    go_enter Try.func37, Try.ntmps37
    go_wp2
    go_ret
    exact ⟨by simp [*] <;> omega, rfl⟩

theorem specIsName_any (s : ByteArray) (w : World) (hs : s.size ≤ 1000000) :
    Calls Try.prog 14 #[.string s] w fun e w' => e = .returned (.bool (nameB s)) ∧ w = w' := by
  by_cases h0 : s.size = 0
  · have hE := nameB_false (s := s) (fun h => by have := h.1; omega)
    have hs0 : s = ByteArray.empty := by cases s with | mk d => simp [ByteArray.size] at h0; subst h0; rfl
    subst hs0
    rw [hE]
    go_enter Try.func14, Try.ntmps14
    go_wp2
    go_ret
    exact ⟨rfl, rfl⟩
  · have hne : s.toList.isEmpty = false := by
      rw [ByteArray.toList_eq]
      have : s.data.toList.length = s.size := Array.length_toList
      cases hl : s.data.toList with
      | nil => rw [hl] at this; simp at this; omega
      | cons a l => rfl
    have h0' : 0 < s.size := by omega
    by_cases h12 : s.size ≤ 12
    · cases hc : smallI (s[0]'h0').toNat
      · have hE := nameB_false (s := s) (fun h => by have := h.2.2.1 h0'; rw [hc] at this; cases this)
        rw [hE]
        have HC := Lib.hid hc; clear hc
        go_enter Try.func14, Try.ntmps14
        go_wp2_with (go_at_call 34; refine (small_any _ _).mono ?_; rw [HC.out]; rintro e w' ⟨rfl, rfl⟩)
        go_ret
        exact ⟨rfl, rfl⟩
      · have HC := Lib.hid hc; clear hc
        go_enter Try.func14, Try.ntmps14
        go_wp2_with (go_at_call 34; refine (small_any _ _).mono ?_; rw [HC.out]; rintro e w' ⟨rfl, rfl⟩)
        go_loop [3] (fun i => ∃ k : Nat, k ≤ s.size ∧ i = .int .i64 k ∧ ∀ j, (h : j < s.size) → j < k → okI (s[j]'h).toNat = true) (fun i => s.size - (intOf i).toNat)
        case atStart => exact ⟨0, by omega, rfl, fun j _ h => by omega⟩
        case round =>
          obtain ⟨k, hk, rfl, hall⟩ := hrel
          have HALL := Lib.hid hall; clear hall
          by_cases hlt : k < s.size
          · cases h1 : smallI (s[k]'hlt).toNat <;> cases h2 : digitI (s[k]'hlt).toNat <;> cases h3 : ((s[k]'hlt).toNat : Int) == 45
            all_goals
              have H1 := Lib.hid h1
              have H2 := Lib.hid h2
              have H3 := Lib.hid h3
              have h3' : (((s[k]'hlt).toNat : Int) != 45) = !(((s[k]'hlt).toNat : Int) == 45) := rfl
              rw [h3] at h3'
              clear h1 h2
              go_wp2_with (first | (go_at_call 34; refine (small_any _ _).mono ?_; rw [H1.out]; rintro e w' ⟨rfl, rfl⟩) | (go_at_call 35; refine (digit_any _ _).mono ?_; rw [H2.out]; rintro e w' ⟨rfl, rfl⟩))
              first
                | (go_ret
                   have hE := nameB_false (s := s) (fun h => by have := h.2.2.2 k hlt; simp [okI, H1.out, H2.out] at this; simp [this] at h3)
                   exact ⟨by rw [hE]; rfl, rfl⟩)
                | (go_round
                   case rel => exact ⟨k + 1, by omega, by go_num, fun j hj hjk => by
                     rcases Nat.lt_or_ge j k with h | h
                     · exact HALL.out j hj h
                     · have : j = k := by omega
                       subst this
                       simp [okI, H1.out, H2.out]
                       try simpa using h3⟩
                   case measure => simp [intOf]; omega)
          · have hE := nameB_true (s := s) ⟨by omega, h12, fun _ => HC.out, fun i hi => HALL.out i hi (by omega)⟩
            have HE := Lib.hid hE; clear hE
            go_wp2
            go_ret
            exact ⟨by rw [HE.out]; rfl, rfl⟩
    · have hE := nameB_false (s := s) (fun h => by have := h.2.1; omega)
      rw [hE]
      go_enter Try.func14, Try.ntmps14
      go_wp2
      go_ret
      exact ⟨rfl, rfl⟩

theorem implIsName_any (s : ByteArray) (w : World) (hs : s.size ≤ 1000000) :
    Calls Try.prog 15 #[.string s] w fun e w' => e = .returned (.bool (nameB s)) ∧ Below w.heap.size w w' := by
  by_cases h0 : s.size < 1
  · have hE := nameB_false (s := s) (fun h => by have := h.1; omega)
    rw [hE]
    go_enter Try.func15, Try.ntmps15
    go_wp2
    go_ret
    exact ⟨rfl, by go_grown⟩
  · by_cases h12 : s.size ≤ 12
    · go_enter Try.func15, Try.ntmps15
      go_wp2_with fail
      go_loopw [] (fun wr => ∃ k : Nat, k ≤ s.size ∧ wr = w.iter s k ∧ ∀ j, (h : j < s.size) → j < k → okI (s[j]'h).toNat = true ∧ (j = 0 → smallI (s[j]'h).toNat = true)) (fun wr => s.size - wr.iterPos w.heap.size)
      case atStart => exact ⟨0, by omega, rfl, fun j _ h => by omega⟩
      case round =>
        obtain ⟨k, hk, rfl, hall⟩ := hrel
        have HALL := Lib.hid hall; clear hall
        by_cases hlt : k < s.size
        · by_cases ha : (s[k]'hlt).toNat < 128
          · have hnx := fun ty => run_next_ascii (P := Try.prog) w s k ty hlt ha
            generalize hcg : (s[k]'hlt).toNat = c at *
            have HCG := Lib.hid hcg; clear hcg
            have hwrap : (c : Int) < 128 := by omega
            have next_ok : okI c = true → (k = 0 → smallI c = true) → ∀ j, (h : j < s.size) → j < k + 1 → okI (s[j]'h).toNat = true ∧ (j = 0 → smallI (s[j]'h).toNat = true) := by
              intro g1 g2 j hj hjk
              rcases Nat.lt_or_ge j k with h | h
              · exact HALL.out j hj h
              · have : j = k := by omega
                subst this
                rw [HCG.out]
                exact ⟨g1, g2⟩
            have NOK := Lib.hid next_ok; clear next_ok
            have bad0 : k = 0 → smallI c = false → nameB s = false := fun e g => nameB_false (fun h => by
              have h1 := h.2.2.1 (by omega)
              subst e
              rw [HCG.out, g] at h1
              cases h1)
            have badk : okI c = false → nameB s = false := fun g => nameB_false (fun h => by
              have h1 := h.2.2.2 k hlt
              rw [HCG.out, g] at h1
              cases h1)
            have BAD0 := Lib.hid bad0; clear bad0
            have BADK := Lib.hid badk; clear badk
            cases h1 : smallI c
            · by_cases hk0 : k = 0
              · have e0 : ((k : Int) == 0) = true := by simp [hk0]
                have H1 := Lib.hid h1; clear h1
                have HK0 := Lib.hid hk0; clear hk0
                go_wp2_with (go_at_call 36; refine (isLetter_any _ _).mono ?_; rw [H1.out]; rintro e w' ⟨rfl, rfl⟩)
                go_ret
                exact ⟨by rw [BAD0.out HK0.out H1.out]; rfl, by unfold World.iter; go_grown⟩
              · have e0 : ((k : Int) == 0) = false := by simp [hk0]
                cases h2 : digitI c <;> cases h3 : (c : Int) == 45
                all_goals
                  have h3' : ((c : Int) != 45) = !((c : Int) == 45) := rfl
                  rw [h3] at h3'
                  have H1 := Lib.hid h1; clear h1
                  have H2 := Lib.hid h2; clear h2
                  have H3 := Lib.hid h3
                  go_wp2_with (first | (go_at_call 36; refine (isLetter_any _ _).mono ?_; rw [H1.out]; rintro e w' ⟨rfl, rfl⟩) | (go_at_call 37; refine (isDigit_any _ _).mono ?_; rw [H2.out]; rintro e w' ⟨rfl, rfl⟩))
                  first
                    | (go_ret
                       exact ⟨by rw [BADK.out (by simp [okI, H1.out, H2.out]; simpa using H3.out)]; rfl, by unfold World.iter; go_grown⟩)
                    | (go_roundw
                       case rel => exact ⟨k + 1, by omega, rfl, NOK.out (by simp [okI, H1.out, H2.out]; try simpa using H3.out) (fun e => absurd e hk0)⟩
                       case measure => simp; omega)
            · have H1 := Lib.hid h1; clear h1
              go_wp2_with (go_at_call 36; refine (isLetter_any _ _).mono ?_; rw [H1.out]; rintro e w' ⟨rfl, rfl⟩)
              go_roundw
              case rel => exact ⟨k + 1, by omega, rfl, NOK.out (by simp [okI, H1.out]) (fun _ => H1.out)⟩
              case measure => simp; omega
          · have hhi := decode_high s k hlt (by omega)
            have hnx := fun ty => run_next_any (P := Try.prog) w s k ty hlt
            have hbad : nameB s = false := nameB_false (fun h => by
              have h1 := h.2.2.2 k hlt
              simp [okI, smallI, digitI] at h1
              omega)
            have HBAD := Lib.hid hbad; clear hbad
            generalize Utf8.decode s k = rn at *
            obtain ⟨r, n⟩ := rn
            simp only [] at hhi hnx
            have H1 : Hid (smallI (r : Int) = false) := Lib.hid (by simp [smallI]; omega)
            have H2 : Hid (digitI (r : Int) = false) := Lib.hid (by simp [digitI]; omega)
            have h3 : ((r : Int) != 45) = true := by simp; omega
            by_cases hk0 : k = 0
            all_goals
              first
                | (have e0 : ((k : Int) == 0) = true := by simp [hk0])
                | (have e0 : ((k : Int) == 0) = false := by simp [hk0])
              clear hk0
              go_wp2_with (first | (go_at_call 36; refine (isLetter_any _ _).mono ?_; rw [H1.out]; rintro e w' ⟨rfl, rfl⟩) | (go_at_call 37; refine (isDigit_any _ _).mono ?_; rw [H2.out]; rintro e w' ⟨rfl, rfl⟩))
              go_ret
              exact ⟨by rw [HBAD.out]; rfl, by unfold World.iter; go_grown⟩
        · have hnx := fun ty => run_next_end (P := Try.prog) w s k ty hlt
          have hE := nameB_true (s := s) ⟨by omega, h12, fun h => (HALL.out 0 h (by omega)).2 rfl, fun i hi => (HALL.out i hi (by omega)).1⟩
          have HE := Lib.hid hE; clear hE
          go_wp2
          go_ret
          exact ⟨by rw [HE.out]; rfl, by unfold World.iter; go_grown⟩
    · have hE := nameB_false (s := s) (fun h => by have := h.2.1; omega)
      rw [hE]
      go_enter Try.func15, Try.ntmps15
      go_wp2
      go_ret
      exact ⟨rfl, by go_grown⟩

theorem walk_FnExactIsName (s : ByteArray) (hs : s.size ≤ maxLen) (w : World) :
    Calls Try.prog 4 #[.string s] w fun e w' => e = .returned (.bool true) ∧ Below w.heap.size w w' := by
  unfold maxLen at hs
  by_cases hl : s.size ≤ 1000000
  · go_enter Try.func4, Try.ntmps4
    go_wp2_with (first | (go_at_call 14; refine (specIsName_any _ _ hl).mono ?_; rintro e w1 ⟨rfl, rfl⟩) | (go_at_call 15; refine (implIsName_any _ _ hl).mono ?_; rintro e w1 ⟨rfl, hb⟩))
    go_ret
    exact ⟨rfl, hb⟩
  · go_enter Try.func4, Try.ntmps4
    go_wp2
    go_ret
    exact ⟨rfl, by go_grown⟩

end Go.Proofs.Ytjddpbpambnlgaa
namespace Go.Proofs.Ytjddpbpambnlgaa.fnExactIsName
open Go.ChangeShapes Go.WideShapes Go.ChangeAt Go.RowKit
set_option linter.unusedVariables false
set_option linter.unusedSimpArgs false
open Go.Joins Go.ChangeMaps
set_option maxRecDepth 100000 in
theorem lifted (os : Os) (started : os.Started) (H : Type) (enc : TypeId × Value → H) :
    ReturnsInHanded {} Try.checked os 4 .any (Rows.fnExactIsNameSpec.pre6 enc Try.prog Try.f4 Rows.fnExactIsNameRow.domain false) (Rows.fnExactIsNameSpec.post enc Try.prog Try.f4 false true false false) := by
  refine returnsInHanded_of_change (C := Try.checked) (show ownKnob Try.prog.godebug = none by kernel_rfl) started (by kernel_rfl) Try.func4
    (ChangeSpec.witness6 (enc := enc) (C := Try.checked) false ⟨#[], #[.string ByteArray.empty], []⟩ 8 (by kernel_rfl) (by kernel_rfl) (by kernel_rfl) (by kernel_rfl)) ?_
  intro W base args ds gs before hval0 hW hcnd _
  have hval : ∀ (j : Nat) t v, Try.f4.params[j]? = some t → args[j]? = some v → Value.okWide Try.prog W .any base t v := hval0
  have hW' := hW
  obtain ⟨p, q, hA0, hV, rfl, hfz, hnd⟩ := hW
  have hA : DataW.TrodAll enc Try.prog W 0 (fun _ => true) true Try.f4.params.toList args.toList ds p := hA0
  rw [Try.params4] at hA hval
  obtain ⟨v0, vs0, d0, ds0, p0, q0, hargs, rfl, rfl, h0, r0⟩ := trodAll_cons hA
  obtain ⟨rfl, rfl, rfl⟩ := trodAll_nil r0
  obtain rfl : args = #[v0] := by cases args; simp_all
  obtain ⟨rfl, rfl⟩ := trodVars_none hV
  obtain ⟨a0, rfl, rfl, rfl, w0⟩ := open_string Try.underlying9 (hval 0 9 v0 rfl rfl) h0
  clear hA0 hval0
  refine (walk_FnExactIsName a0 w0 W).mono fun e W' ⟨he, hb⟩ => ?_
  subst he
  exact ⟨_, rfl, law_post (B := 4) (by kernel_rfl) (by kernel_rfl) rfl Try.underlying4 rfl hW' rfl hb⟩

/-- The statement: for every input the law returns true, and the arguments read afterwards as before. -/
theorem proved : Rows.FnExactIsNameSaid :=
  OpenClaim.holds_of_wide 4 Try.f4 rfl rfl rfl rfl rfl rfl rfl ⟨rfl, rfl, rfl, rfl, rfl⟩ rfl rfl rfl rfl rfl (by kernel_rfl) Try.func4 (by kernel_rfl)
    (of_decide_eq_true (by kernel_rfl)) (by unfold Func.isWrapper; first | (rw [if_pos (by decide +kernel)]; kernel_rfl) | (rw [if_neg (by decide +kernel)]; exact ⟨rfl, rfl⟩))
    (fun os started H enc _ => lifted os started H enc)
end Go.Proofs.Ytjddpbpambnlgaa.fnExactIsName
