/- Proved: for every input the law FnExactWayOf returns true, and each argument reads afterwards as it read before; no condition beside those of the given row. -/
import Derived.Test.YtjddpbpambnlgabRows
import Derived.WalkKit
import Derived.ProofKit
import Derived.OpenShut
import Derived.Lib.Hide
import Derived.Handy
import Derived.BigQuiet
import Derived.Carry
import Derived.Deep.QuietTactic
import Derived.OwnWalk
import Derived.Lib.SmallJoins
namespace Go.Proofs.Ytjddpbpambnlgab
open Go.ChangeShapes Go.WideShapes Go.ChangeAt Go.RowKit
set_option linter.unusedVariables false
set_option linter.unusedSimpArgs false

theorem tmod_pos (n k : Int) (h : 0 ≤ n) : n.tmod k = n % k := Int.tmod_eq_emod_of_nonneg h

theorem tmod_bd (n k : Int) (hk : 0 < k) : -k < n.tmod k ∧ n.tmod k < k ∧ ∃ q, n = k * q + n.tmod k := by
  refine ⟨Int.lt_tmod_of_pos n hk, Int.tmod_lt_of_pos n hk, n.tdiv k, ?_⟩
  have := Int.mul_tdiv_add_tmod n k
  omega

theorem trodAll_stay {H : Type} {enc : TypeId × Value → H} {P : Program} (hl : laidOutB P = true) {W W' : World} (hb : Below W.heap.size W W') :
    ∀ (ts : List TypeId) (vs : List Value) (ds : List (DataW H)) (ps : List MemPlace), ts.all (fun t => P.readableRec t && decide (t < P.types.size)) = true →
      DataW.TrodAll enc P W 0 (fun _ => true) true ts vs ds ps → (∀ x ∈ ps, x.block < W.heap.size) →
      DataW.TrodAll enc P W' 0 (fun b => decide (b < W.heap.size)) true ts vs ds ps := by
  intro ts
  induction ts with
  | nil => intro vs ds ps _ h _; obtain ⟨rfl, rfl, rfl⟩ := trodAll_nil h; exact rfl
  | cons t ts ih =>
    intro vs ds ps hr h hlt
    simp only [List.all_cons, Bool.and_eq_true, decide_eq_true_eq] at hr
    obtain ⟨v, vs', d, ds', p, q, rfl, rfl, rfl, h0, h1⟩ := trodAll_cons h
    exact ⟨p, q, Below.trod hl hr.1.1 hr.1.2 h0 hb (fun x hx => hlt x (by simp [hx])), ih _ _ _ hr.2 h1 (fun x hx => hlt x (by simp [hx])), rfl⟩

/-- A law's row at its end: it returned true, and of what was there nothing has turned. -/
theorem law_post {H : Type} {enc : TypeId × Value → H} {P : Program} {f : Func} {s : ChangeSpec} {W W' : World} {args : Array Value} {ds gs : List (DataW H)} {before : List MemPlace} {B : TypeId}
    (hl : laidOutB P = true) (hr : f.params.toList.all (fun t => P.readableRec t && decide (t < P.types.size)) = true)
    (hres : f.resultTypes = #[B]) (hB : P.underlying B = some .bool) (hv : s.vars = [])
    (hW : DataW.Whole enc P f.params.toList s.vars false W args.toList ds gs before)
    (hfn : s.fn H (ds ++ gs) = { results := [.lit (.bool true)], args := ds }) (hb : Below W.heap.size W W') :
    s.post enc P f false true false false W args (.bool true) W' := by
  have hlt : ∀ p ∈ before, p.block < W.heap.size := fun p hp => hW.lt p hp
  have hW' := hW
  obtain ⟨p, q, hA, hV, rfl, _, _⟩ := hW'
  rw [hv] at hV
  obtain ⟨rfl, rfl⟩ := trodVars_none hV
  refine ⟨ds, [], p ++ [], [], p, [], hW, ?_, ?_, ?_, hb.frame _, fun h => by cases h⟩
  · rw [hfn, hres]
    exact trodAll_cons_mk (shut_bool hB _) trodAll_mk0
  · rw [hfn]
    exact trodAll_stay hl hb _ _ _ _ hr hA (fun x hx => hlt x (by simp [hx]))
  · rw [hfn, hv]
    exact rfl

theorem kept_cell {W w1 : World} (hb : Below W.heap.size W w1) (b o : Nat) (h : b < W.heap.size) : w1.cell? ⟨b, o, none⟩ = W.cell? ⟨b, o, none⟩ := hb.cell (p := ⟨b, o, none⟩) h

theorem kept_frozen {W w1 : World} (hb : Below W.heap.size W w1) (b o : Nat) (h : b < W.heap.size) : w1.frozen? ⟨b, o, none⟩ = W.frozen? ⟨b, o, none⟩ := hb.frozen (p := ⟨b, o, none⟩) h

theorem kept {W w1 : World} (hb : Below W.heap.size W w1) :
    (∀ b o, b < W.heap.size → w1.cell? ⟨b, o, none⟩ = W.cell? ⟨b, o, none⟩) ∧ (∀ b o, b < W.heap.size → w1.frozen? ⟨b, o, none⟩ = W.frozen? ⟨b, o, none⟩) ∧ W.heap.size ≤ w1.heap.size :=
  ⟨kept_cell hb, kept_frozen hb, hb.size⟩

theorem kept_trans {a b c : World} (h : Below a.heap.size a b) (k : Below b.heap.size b c) : Below a.heap.size a c := h.trans (k.mono h.size)

theorem kept_drewN {B : Nat} {a w : World} (h : Below B a w) (n : Nat) : Below B a (w.drewN n) := { os := h.os, tape := h.tape, output := h.output, size := h.size, block := h.block }

theorem grown_step {a b c : World} {row : Option Nat} (h : a.grownBy b row) (k : b.grownBy c row) : a.grownBy c row :=
  ⟨k.os.trans h.os, k.tape.trans h.tape, k.output.trans h.output, Nat.le_trans h.size k.size, fun i hi hne => (k.block i (Nat.lt_of_lt_of_le hi h.size) hne).trans (h.block i hi hne)⟩

theorem grown_below {a b c : World} {row : Option Nat} (h : Below a.heap.size a b) (k : b.grownBy c row) (hr : ∀ g, row = some g → a.heap.size ≤ g) : Below a.heap.size a c := h.grown k h.size hr

def inB (n low high : Int) : Bool := decide (low ≤ n) && decide (n ≤ high)

theorem in_any (n low high : Int) (w : World) :
    Calls Try.prog 24 #[.int .i64 n, .int .i64 low, .int .i64 high] w fun e w' => e = .returned (.bool (inB n low high)) ∧ w = w' := by
  unfold inB
  by_cases h1 : low ≤ n <;> by_cases h2 : n ≤ high <;>
  · go_enter Try.func24, Try.ntmps24
    go_wp2
    go_ret
    exact ⟨by simp [*], rfl⟩

theorem mod_any (n : Int) (h1 : -1000000 ≤ n) (h2 : n ≤ 1000000) (w : World) :
    Calls Try.prog 33 #[.int .i64 n] w fun e w' => e = .returned (.int .i64 (n % 24)) ∧ w = w' := by
  have hb := tmod_bd n 24 (by omega)
  go_enter Try.func33, Try.ntmps33
  go_wp2
  go_ret
  have e1 : wrap64 (n.tmod 24 + 24) = n.tmod 24 + 24 := IntWalk.wrap64_in _ (by omega)
  have e2 := tmod_pos (n.tmod 24 + 24) 24 (by omega)
  exact ⟨by simp [e1, e2]; omega, rfl⟩

theorem dir_any (n : Int) (w : World) :
    Calls Try.prog 23 #[.int .i64 n] w fun e w' => e = .returned (.bool (inB n 0 23)) ∧ w = w' := by
  go_enter Try.func23, Try.ntmps23
  go_wp2_with (go_at_call 24; refine (in_any _ _ _ _).mono ?_; rintro e w' ⟨rfl, rfl⟩)
  go_ret
  exact ⟨rfl, rfl⟩

theorem valid_any (n : Int) (w : World) :
    Calls Try.prog 26 #[.int .i64 n] w fun e w' => e = .returned (.bool (inB n 0 23)) ∧ w = w' := by
  unfold inB
  by_cases h1 : 0 ≤ n <;> by_cases h2 : n < 24 <;>
  · go_enter Try.func26, Try.ntmps26
    go_wp2
    go_ret
    exact ⟨by simp [*]; try omega, rfl⟩

theorem validTurn_any (n : Int) (w : World) :
    Calls Try.prog 27 #[.int .i64 n] w fun e w' => e = .returned (.bool (inB n (-1000) 1000)) ∧ w = w' := by
  unfold inB
  by_cases h1 : -1000 ≤ n <;> by_cases h2 : n ≤ 1000 <;>
  · go_enter Try.func27, Try.ntmps27
    go_wp2
    go_ret
    exact ⟨by simp [*], rfl⟩

theorem turned_any (h b : Int) (h1 : -1000 ≤ h) (h2 : h ≤ 1000) (h3 : -1000 ≤ b) (h4 : b ≤ 1000) (w : World) :
    Calls Try.prog 28 #[.int .i64 h, .int .i64 b] w fun e w' => e = .returned (.int .i64 ((h + b) % 24)) ∧ w = w' := by
  have hb := tmod_bd (h + b) 24 (by omega)
  go_enter Try.func28, Try.ntmps28
  go_wp2
  go_ret
  exact ⟨by simp; omega, rfl⟩

theorem inB_true {n a b : Int} (h : inB n a b = true) : a ≤ n ∧ n ≤ b := by simpa [inB] using h

theorem info_int64 : (Try.prog.info? 2).map (fun i => (i.zero, i.size, i.bytes)) = some (some (.int .i64 0), 1, 8) := by kernel_rfl

theorem own_kept {W w1 : World} {base : Nat} {e : TypeId} {size : Nat} {v : Value} {n : Nat} {xs : List Value} (h : W.ownsRow base e size v n xs) (hb : Below W.heap.size W w1) : w1.ownsRow base e size v n xs := by
  refine ⟨h.1, ?_⟩
  rcases h.2 with h2 | ⟨g, cap, cur, hv, hg, hh, r⟩
  · exact Or.inl h2
  · refine Or.inr ⟨g, cap, cur, hv, hg, ?_, r⟩
    rw [hb.block g (h.lt g (by rw [hv]; rfl)).2]
    exact hh

/-- The slice value reads as a list of numbers. -/
def RdI (w : World) (v : Value) (zs : List Int) : Prop :=
  zs.length ≤ 9223372036854775807 ∧ ∃ A c, v = .slice A zs.length c ∧ ∀ k, (hk : k < zs.length) → ∃ b off, A = some ⟨b, off, none⟩ ∧ b < w.heap.size ∧ w.cell? ⟨b, off + k, none⟩ = some (.int .i64 zs[k])

/-- A row of numbers of the call's own, in a block from lo on and below hi. -/
def RowI (w : World) (lo hi : Nat) (v : Value) (zs : List Int) : Prop :=
  w.ownsRow lo 2 1 v zs.length (zs.map (Value.int .i64)) ∧ ∀ g, v.ownBlock = some g → lo ≤ g ∧ g < hi

theorem RowI_nil (w : World) (lo hi : Nat) : RowI w lo hi (.slice none 0 0) [] := ⟨World.ownsRow_nil _ _ _ _, fun g h => by simp [Value.ownBlock] at h⟩

theorem RowI_form {w : World} {lo hi : Nat} {v : Value} {zs : List Int} (h : RowI w lo hi v zs) :
    (zs = [] ∧ v = .slice none 0 0) ∨ ∃ g cap, v = .slice (some ⟨g, 0, none⟩) zs.length cap ∧ lo ≤ g ∧ g < hi ∧ g < w.heap.size ∧ zs.length ≤ cap ∧ cap ≤ maxLen := by
  rcases h.1.2 with ⟨h1, h2⟩ | ⟨g, cap, cur, rfl, hg, hh, h3, h4, _⟩
  · exact Or.inl ⟨List.eq_nil_of_length_eq_zero h2, h1⟩
  · exact Or.inr ⟨g, cap, rfl, hg, (h.2 g rfl).2, (h.1.lt g rfl).2, h3, h4⟩

theorem RowI_rd {w : World} {lo hi : Nat} {v : Value} {zs : List Int} (h : RowI w lo hi v zs) : RdI w v zs := by
  rcases RowI_form h with ⟨rfl, rfl⟩ | ⟨g, cap, rfl, _, _, hlt, h3, h4⟩
  · exact ⟨by simp, none, 0, rfl, fun k hk => by simp at hk⟩
  · unfold maxLen at h4
    refine ⟨by omega, some ⟨g, 0, none⟩, cap, rfl, fun k hk => ⟨g, 0, rfl, hlt, ?_⟩⟩
    rw [Nat.zero_add, h.1.cellAt k (by simpa using hk)]
    simp [hk]

theorem RowI_kept {W w1 : World} {lo hi : Nat} {v : Value} {zs : List Int} (h : RowI W lo hi v zs) (hb : Below W.heap.size W w1) : RowI w1 lo hi v zs := ⟨own_kept h.1 hb, h.2⟩

theorem RowI_far {W w1 : World} {lo hi : Nat} {v : Value} {zs : List Int} {row : Option Nat} (h : RowI W lo hi v zs) (hg : W.grownBy w1 row) (hr : ∀ g, row = some g → g < lo ∨ hi ≤ g) : RowI w1 lo hi v zs := by
  refine ⟨h.1.kept hg ?_, h.2⟩
  rcases hv : v.ownBlock with _ | g
  · exact Or.inl rfl
  · refine Or.inr (fun e => ?_)
    have h1 := h.2 g hv
    have h2 := hr g e.symm
    omega

theorem eqInts_same (v1 v2 : Value) (zs : List Int) (w : World) (h1 : RdI w v1 zs) (h2 : RdI w v2 zs) :
    Calls Try.prog 12 #[v1, v2] w fun e w' => e = .returned (.bool true) ∧ Below w.heap.size w w' := by
  obtain ⟨hl, A, c, rfl, r1⟩ := h1
  obtain ⟨_, A2, c2, rfl, r2⟩ := h2
  have R1 := Lib.hid r1; clear r1
  have R2 := Lib.hid r2; clear r2
  go_enter Try.func12, Try.ntmps12
  go_wp2_with fail
  go_loopw [5] (fun i wr => ∃ k : Nat, k ≤ zs.length ∧ i = .int .i64 k ∧ Below w.heap.size w wr) (fun i _ => zs.length - (intOf i).toNat)
  case atStart => exact ⟨0, by omega, rfl, Below.refl _ _⟩
  case round =>
    obtain ⟨k, hk, rfl, hb⟩ := hrel
    by_cases hlt : k < zs.length
    · obtain ⟨b, off, rfl, hbl, hc⟩ := R1.out k hlt
      obtain ⟨b2, off2, rfl, hbl2, hc2⟩ := R2.out k hlt
      rw [← kept_cell hb b _ hbl] at hc
      rw [← kept_cell hb b2 _ hbl2] at hc2
      go_wp2_with fail
      go_quiet (fail)
      go_wp2
      go_roundw
      case rel => exact ⟨k + 1, by omega, by go_num, kept_drewN hb _⟩
      case measure => simp [intOf]; omega
    · have : k = zs.length := by omega
      subst this
      go_wp2
      go_ret
      exact ⟨rfl, hb⟩

/-- What a marked list holds: k, k + 1, .. -/
def marks (k : Nat) : Nat → List Int
  | 0 => []
  | n + 1 => (k : Int) :: marks (k + 1) n

theorem marks_len (k n : Nat) : (marks k n).length = n := by
  induction n generalizing k with
  | zero => rfl
  | succ n ih => simp [marks, ih]

theorem marks_at (k n j : Nat) (h : j < n) : (marks k n)[j]? = some ((k + j : Nat) : Int) := by
  induction n generalizing k j with
  | zero => omega
  | succ n ih =>
    cases j with
    | zero => simp [marks]
    | succ j => simp only [marks, List.getElem?_cons_succ]; rw [ih (k + 1) j (by omega)]; congr 2; omega

theorem marks_set (k j : Nat) (l : List Int) (h : j < l.length) : (marks k j ++ l.drop j).set j ((k + j : Nat) : Int) = marks k (j + 1) ++ l.drop (j + 1) := by
  apply List.ext_getElem?
  intro i
  rw [List.getElem?_set]
  by_cases h1 : j = i
  · subst h1
    rw [if_pos rfl, if_pos (by simp [marks_len]; omega), List.getElem?_append_left (by rw [marks_len]; omega), marks_at _ _ _ (by omega)]
  · rw [if_neg h1]
    by_cases h2 : i < j
    · rw [List.getElem?_append_left (by rw [marks_len]; omega), List.getElem?_append_left (by rw [marks_len]; omega), marks_at _ _ _ h2, marks_at _ _ _ (by omega)]
    · rw [List.getElem?_append_right (by rw [marks_len]; omega), List.getElem?_append_right (by rw [marks_len]; omega), marks_len, marks_len, List.getElem?_drop, List.getElem?_drop]
      congr 1
      omega

theorem markInts_any (v : Value) (zs : List Int) (lo hi k0 : Nat) (w : World) (h : RowI w lo hi v zs) (hk0 : k0 ≤ 1000) (hn : zs.length ≤ 4611686018427387904) :
    Calls Try.prog 13 #[v, .int .i64 k0] w fun e w' => e = .returned (.int .i64 ((k0 + zs.length : Nat) : Int)) ∧ RowI w' lo hi v (marks k0 zs.length) ∧ w.grownBy w' v.ownBlock := by
  rcases RowI_form h with ⟨rfl, rfl⟩ | ⟨g, cap, rfl, _, _, hlt, _, _⟩
  · go_enter Try.func13, Try.ntmps13
    go_wp2_with fail
    refine wp_loop_rounds 1 ?_
    rw [rounds_succ]
    go_wp2
    go_ret
    exact ⟨rfl, RowI_nil _ _ _, World.grownBy.refl _ _⟩
  · have hll := zs.length
    generalize hN : zs.length = N at *
    have HN := Lib.hid hN; clear hN
    have H := Lib.hid h; clear h
    go_enter Try.func13, Try.ntmps13
    go_wp2_with fail
    go_loopw [1, 5] (fun q i wr => ∃ j : Nat, j ≤ N ∧ i = .int .i64 j ∧ q = .int .i64 ((k0 + j : Nat) : Int) ∧ wr.ownsRow lo 2 1 (.slice (some ⟨g, 0, none⟩) N cap) N ((marks k0 j ++ zs.drop j).map (Value.int .i64)) ∧ w.grownBy wr (some g)) (fun _ i _ => N - (intOf i).toNat)
    case atStart => exact ⟨0, by omega, rfl, by simp, by have := H.out.1; simpa [marks, HN.out] using this, World.grownBy.refl _ _⟩
    case round =>
      obtain ⟨j, hj, rfl, rfl, hown, hg⟩ := hrel
      by_cases hlt : j < N
      · have hcell : ∃ u, wr.cell? ⟨g, j, none⟩ = some u := by
          rw [hown.cellAt j (by omega)]
          have : j < ((marks k0 j ++ zs.drop j).map (Value.int .i64)).length := by simp [marks_len, HN.out]; omega
          exact ⟨_, List.getElem?_eq_getElem this⟩
        obtain ⟨u, hcell⟩ := hcell
        have hfz := hown.frozenAt j
        have hst := hown.stored j (.int .i64 ((k0 + j : Nat) : Int))
        have Hst := Lib.hid hst; clear hst
        have Hown := Lib.hid hown; clear hown
        go_wp2
        go_roundw
        case rel =>
          refine ⟨j + 1, by omega, by go_num, by go_num, ?_, ?_⟩
          · have := Hst.out.1
            rw [← List.map_set, marks_set _ _ _ (by rw [HN.out]; exact hlt)] at this
            exact this
          · exact grown_step hg Hst.out.2
        case measure => simp [intOf]; omega
      · have : j = N := by omega
        subst this
        go_wp2
        go_ret
        refine ⟨rfl, ⟨?_, fun x hx => H.out.2 x hx⟩, hg⟩
        rw [marks_len]
        have hd : zs.drop j = [] := List.drop_eq_nil_of_le (by rw [HN.out]; omega)
        rw [hd, List.append_nil] at hown
        exact hown

theorem heldInts_same (v : Value) (n k0 : Nat) (w : World) (h : RdI w v (marks k0 n)) (hk0 : k0 ≤ 1000) (hn : n ≤ 4611686018427387904) :
    Calls Try.prog 14 #[v, .int .i64 k0] w fun e w' => e = .returned (.int .i64 ((k0 + n : Nat) : Int)) ∧ w = w' := by
  obtain ⟨_, A, c, rfl, r1⟩ := h
  rw [marks_len] at *
  have R1 := Lib.hid r1; clear r1
  go_enter Try.func14, Try.ntmps14
  go_wp2_with fail
  go_loop [1, 5] (fun q i => ∃ j : Nat, j ≤ n ∧ i = .int .i64 j ∧ q = .int .i64 ((k0 + j : Nat) : Int)) (fun _ i => n - (intOf i).toNat)
  case atStart => exact ⟨0, by omega, rfl, by simp⟩
  case round =>
    obtain ⟨j, hj, rfl, rfl⟩ := hrel
    by_cases hlt : j < n
    · obtain ⟨b, off, rfl, hbl, hc⟩ := R1.out j (by rw [marks_len]; exact hlt)
      have hat := marks_at k0 n j hlt
      rw [List.getElem?_eq_getElem (by rw [marks_len]; exact hlt)] at hat
      rw [Option.some.inj hat] at hc
      clear hat
      go_wp2
      go_round
      case rel => exact ⟨j + 1, by omega, by go_num, by go_num⟩
      case measure => simp [intOf]; omega
    · have : j = n := by omega
      subst this
      go_wp2
      go_ret
      exact ⟨rfl, rfl⟩

def wayL (d s : Int) : Nat → List Int
  | 0 => [d]
  | n + 1 => wayL d s n ++ [(d + s * (n + 1)) % 24]

theorem wayL_len (d s : Int) (n : Nat) : (wayL d s n).length = n + 1 := by
  induction n with
  | zero => rfl
  | succ n ih => simp [wayL, ih]

/-- append of one number to a row of the call's own. -/
theorem wp_appendI {ops : Array Oper} {rest : List Oper} {o : Oper} {a : Act} {Q : Exit → Act → World → Prop} {W wr : World} (hgd : o.guard = none) (s x : Operand)
    (ho : o.op = .call { callee := .builtin .append, args := #[s, x], argTypes := #[29, 29] })
    (lo : Nat) (v : Value) (zs : List Int) (z : Int) (hs : a.eval s = v) (hrow : RowI wr lo wr.heap.size v zs) (hx : a.eval x = .slice (some ⟨wr.heap.size, 0, none⟩) 1 1)
    (hW : Below W.heap.size W wr) (hlo : W.heap.size ≤ lo) (hlo2 : lo ≤ wr.heap.size) (hn : zs.length < 17592186044416)
    (h : ∀ v' w', RowI w' lo w'.heap.size v' (zs ++ [z]) → Below W.heap.size W w' → wr.heap.size ≤ w'.heap.size → wpList Try.prog ops Q rest (a.put o.dst v') w') :
    wpList Try.prog ops Q (o :: rest) a (wr.alloc (.cells #[.int .i64 z] 2)) := by
  obtain ⟨i0, hi, hz0, hz1, hz2⟩ := info_parts info_int64
  refine wpList_append_own _ hgd s x _ ho lo 2 i0 (.int .i64 0) 1 8 Try.underlying29 hi hz0 hz1 hz2 rfl (by decide) v zs.length _ hs (hrow.1.alloc _) ⟨wr.heap.size, 0, none⟩ 1 1 [.int .i64 z] hx rfl ?_ ?_ ?_ ?_ ?_ ?_
  · intro j u hj
    cases j with
    | zero => simp at hj; subst hj; simp [Addr.add]
    | succ j => simp at hj
  · intro u hu; simp at hu; subst hu; rfl
  · unfold maxLen; omega
  · omega
  · simp; omega
  · intro v' w' hown hg _
    have e : (zs.map (Value.int .i64) ++ [.int .i64 z]) = (zs ++ [z]).map (Value.int .i64) := by simp
    rw [e] at hown
    have hrow' : RowI w' lo w'.heap.size v' (zs ++ [z]) := ⟨by simpa using hown, hown.lt⟩
    refine h v' w' hrow' ?_ (Nat.le_trans (by simp) hg.size)
    refine grown_below (hW.alloc hW.size _) hg (fun g hg2 => ?_)
    have := (hrow.2 g hg2).1
    omega

theorem l02Way_up (d : Int) (N : Nat) (hd : 0 ≤ d ∧ d ≤ 23) (hN : N ≤ 1000) (w : World) :
    Calls Try.prog 25 #[.int .i64 d, .int .i64 N] w fun e w' => ∃ v, e = .returned v ∧ RowI w' w.heap.size w'.heap.size v (wayL d 1 N) ∧ Below w.heap.size w w' := by
  go_enter Try.func25, Try.ntmps25
  go_wp2_with fail
  go_loopw [5, 7] (fun o k wr => ∃ j : Nat, j ≤ N ∧ k = .int .i64 j ∧ RowI wr w.heap.size wr.heap.size o (wayL d 1 j) ∧ Below w.heap.size w wr) (fun _ k _ => N - (intOf k).toNat)
  case atStart => exact ⟨0, by omega, rfl, ⟨World.ownsRow_lit w #[.int .i64 d] 1 (Nat.le_refl _) (by decide) (by rfl), fun g hg => by simp [Value.ownBlock] at hg; subst hg; simp⟩, by go_grown⟩
  case round =>
    obtain ⟨j, hj, rfl, hrow, hb⟩ := hrel
    have hsz := hb.size
    by_cases hlt : j < N
    · have hne : ((j : Int) != N) = true := by simp; omega
      go_wp2_with (first | (go_at_call 33; refine (mod_any _ (by omega) (by omega) _).mono ?_; rintro e w1 ⟨rfl, rfl⟩) | (at_builtin; refine wp_appendI rfl (.tmp 18) (.tmp 25) rfl w.heap.size _ _ _ rfl hrow rfl hb (Nat.le_refl _) hsz (by rw [wayL_len]; omega) ?_; intro v' w' hrow' hb' _))
      go_roundw
      case rel => exact ⟨j + 1, by omega, by go_num, by simpa [wayL, Int.add_assoc] using hrow', hb'⟩
      case measure => simp [intOf]; omega
    · have : j = N := by omega
      subst this
      go_wp2
      go_ret
      exact ⟨_, rfl, hrow, hb⟩

theorem l02Way_down (d : Int) (N : Nat) (hd : 0 ≤ d ∧ d ≤ 23) (h1 : 1 ≤ N) (hN : N ≤ 1000) (w : World) :
    Calls Try.prog 25 #[.int .i64 d, .int .i64 (-(N : Int))] w fun e w' => ∃ v, e = .returned v ∧ RowI w' w.heap.size w'.heap.size v (wayL d (-1) N) ∧ Below w.heap.size w w' := by
  have hneg : decide (0 < N) = true := by simp; omega
  go_enter Try.func25, Try.ntmps25
  go_wp2_with fail
  go_loopw [5, 7] (fun o k wr => ∃ j : Nat, j ≤ N ∧ k = .int .i64 (-(j : Int)) ∧ RowI wr w.heap.size wr.heap.size o (wayL d (-1) j) ∧ Below w.heap.size w wr) (fun _ k _ => N - (-(intOf k)).toNat)
  case atStart => exact ⟨0, by omega, rfl, ⟨World.ownsRow_lit w #[.int .i64 d] 1 (Nat.le_refl _) (by decide) (by rfl), fun g hg => by simp [Value.ownBlock] at hg; subst hg; simp⟩, by go_grown⟩
  case round =>
    obtain ⟨j, hj, rfl, hrow, hb⟩ := hrel
    have hsz := hb.size
    by_cases hlt : j < N
    · have hne : (-(j : Int) != -(N : Int)) = true := by simp; omega
      have g1 : -1001 ≤ -(j : Int) := by omega
      go_wp2_with (first | (go_at_call 33; refine (mod_any _ (by omega) (by omega) _).mono ?_; rintro e w1 ⟨rfl, rfl⟩) | (at_builtin; refine wp_appendI rfl (.tmp 18) (.tmp 25) rfl w.heap.size _ _ _ rfl hrow rfl hb (Nat.le_refl _) hsz (by rw [wayL_len]; omega) ?_; intro v' w' hrow' hb' _))
      go_roundw
      case rel => exact ⟨j + 1, by omega, by congr 1; omega, by rw [show wayL d (-1) (j + 1) = wayL d (-1) j ++ [(d + -(j : Int) + -1) % 24] by simp only [wayL]; congr 2; omega]; exact hrow', hb'⟩
      case measure => simp [intOf]; omega
    · have : j = N := by omega
      subst this
      go_wp2
      go_ret
      exact ⟨_, rfl, hrow, hb⟩

def wayAll (d b : Int) : List Int × Int := if inB d 0 23 && inB b (-1000) 1000 then (if 0 ≤ b then wayL d 1 b.toNat else wayL d (-1) (-b).toNat, 0) else ([], 2)

theorem specWayOf_any (d b : Int) (w : World) :
    Calls Try.prog 10 #[.int .i64 d, .int .i64 b] w fun e w' => ∃ v, e = .returned (.tuple #[v, .int .i64 (wayAll d b).2]) ∧ RowI w' w.heap.size w'.heap.size v (wayAll d b).1 ∧ Below w.heap.size w w' := by
  cases h1 : inB d 0 23 <;> cases h2 : inB b (-1000) 1000
  case true.true =>
    have g1 := inB_true h1
    have g2 := inB_true h2
    by_cases hneg : b < 0
    · obtain ⟨N, rfl⟩ : ∃ N : Nat, b = -(N : Int) := ⟨(-b).toNat, by omega⟩
      have E : wayAll d (-(N : Int)) = (wayL d (-1) N, 0) := by simp only [wayAll, h1, h2, Bool.and_self, if_true]; rw [if_neg (by omega)]; simp
      rw [E]
      clear E
      go_enter Try.func10, Try.ntmps10
      go_wp2_with (first | (go_at_call 23; refine (dir_any _ _).mono ?_; rintro e w1 ⟨rfl, rfl⟩) | (go_at_call 24; refine (in_any _ _ _ _).mono ?_; rintro e w1 ⟨rfl, rfl⟩) | (go_at_call 25; refine (l02Way_down d N g1 (by omega) (by omega) _).mono ?_; rintro e w1 ⟨v, rfl, hrow, hb⟩))
      go_ret2
      exact ⟨_, rfl, hrow, hb⟩
    · obtain ⟨N, rfl⟩ : ∃ N : Nat, b = (N : Int) := ⟨b.toNat, by omega⟩
      have E : wayAll d (N : Int) = (wayL d 1 N, 0) := by simp only [wayAll, h1, h2, Bool.and_self, if_true]; rw [if_pos (by omega)]; simp
      rw [E]
      clear E
      go_enter Try.func10, Try.ntmps10
      go_wp2_with (first | (go_at_call 23; refine (dir_any _ _).mono ?_; rintro e w1 ⟨rfl, rfl⟩) | (go_at_call 24; refine (in_any _ _ _ _).mono ?_; rintro e w1 ⟨rfl, rfl⟩) | (go_at_call 25; refine (l02Way_up d N g1 (by omega) _).mono ?_; rintro e w1 ⟨v, rfl, hrow, hb⟩))
      go_ret2
      exact ⟨_, rfl, hrow, hb⟩
  all_goals
    rw [show wayAll d b = ([], 2) by simp [wayAll, *]]
    go_enter Try.func10, Try.ntmps10
    go_wp2_with (first | (go_at_call 23; refine (dir_any _ _).mono ?_; rintro e w1 ⟨rfl, rfl⟩) | (go_at_call 24; refine (in_any _ _ _ _).mono ?_; rintro e w1 ⟨rfl, rfl⟩))
    go_ret2
    exact ⟨_, rfl, RowI_nil _ _ _, by go_grown⟩

theorem implWay_up (d : Int) (N : Nat) (h1 : inB d 0 23 = true) (hN : N ≤ 1000) (w : World) :
    Calls Try.prog 11 #[.int .i64 d, .int .i64 N] w fun e w' => ∃ v, e = .returned (.tuple #[v, .int .i64 0]) ∧ RowI w' w.heap.size w'.heap.size v (wayL d 1 N) ∧ Below w.heap.size w w' := by
  have g1 := inB_true h1
  have h2 : inB (N : Int) (-1000) 1000 = true := by simp [inB]; omega
  go_enter Try.func11, Try.ntmps11
  go_wp2_with (first | (go_at_call 26; refine (valid_any _ _).mono ?_; rintro e w1 ⟨rfl, rfl⟩) | (go_at_call 27; refine (validTurn_any _ _).mono ?_; rintro e w1 ⟨rfl, rfl⟩))
  go_loopw [7, 8, 25] (fun o a k wr => ∃ j : Nat, j ≤ N ∧ k = .int .i64 j ∧ a = .int .i64 ((d + j) % 24) ∧ RowI wr w.heap.size wr.heap.size o (wayL d 1 j) ∧ Below w.heap.size w wr) (fun _ _ k _ => N - (intOf k).toNat)
  case atStart => exact ⟨0, by omega, rfl, by simp; omega, ⟨World.ownsRow_lit w #[.int .i64 d] 1 (Nat.le_refl _) (by decide) (by rfl), fun g hg => by simp [Value.ownBlock] at hg; subst hg; simp⟩, by go_grown⟩
  case round =>
    obtain ⟨j, hj, rfl, rfl, hrow, hb⟩ := hrel
    have hsz := hb.size
    by_cases hlt : j < N
    · have e : ((d + (j : Int)) % 24 + 1) % 24 = (d + 1 * ((j : Int) + 1)) % 24 := by omega
      go_wp2_with (first | (go_at_call 28; refine (turned_any _ _ (by omega) (by omega) (by omega) (by omega) _).mono ?_; rw [e]; rintro e w' ⟨rfl, rfl⟩) | (at_builtin; refine wp_appendI rfl (.tmp 30) (.tmp 32) rfl w.heap.size _ _ _ rfl hrow rfl hb (Nat.le_refl _) hsz (by rw [wayL_len]; omega) ?_; intro v' w' hrow' hb' _))
      go_roundw
      case rel => exact ⟨j + 1, by omega, by go_num, by congr 2 <;> omega, by simpa [wayL] using hrow', hb'⟩
      case measure => simp [intOf]; omega
    · have : j = N := by omega
      subst this
      go_wp2
      go_ret2
      exact ⟨_, rfl, hrow, hb⟩

theorem implWay_down (d : Int) (N : Nat) (h1 : inB d 0 23 = true) (h0 : 1 ≤ N) (hN : N ≤ 1000) (w : World) :
    Calls Try.prog 11 #[.int .i64 d, .int .i64 (-(N : Int))] w fun e w' => ∃ v, e = .returned (.tuple #[v, .int .i64 0]) ∧ RowI w' w.heap.size w'.heap.size v (wayL d (-1) N) ∧ Below w.heap.size w w' := by
  have g1 := inB_true h1
  have h2 : inB (-(N : Int)) (-1000) 1000 = true := by simp [inB]; omega
  have hneg : decide (0 < N) = true := by simp; omega
  go_enter Try.func11, Try.ntmps11
  go_wp2_with (first | (go_at_call 26; refine (valid_any _ _).mono ?_; rintro e w1 ⟨rfl, rfl⟩) | (go_at_call 27; refine (validTurn_any _ _).mono ?_; rintro e w1 ⟨rfl, rfl⟩))
  go_loopw [7, 8, 25] (fun o a k wr => ∃ j : Nat, j ≤ N ∧ k = .int .i64 j ∧ a = .int .i64 ((d + -(j : Int)) % 24) ∧ RowI wr w.heap.size wr.heap.size o (wayL d (-1) j) ∧ Below w.heap.size w wr) (fun _ _ k _ => N - (intOf k).toNat)
  case atStart => exact ⟨0, by omega, rfl, by simp; omega, ⟨World.ownsRow_lit w #[.int .i64 d] 1 (Nat.le_refl _) (by decide) (by rfl), fun g hg => by simp [Value.ownBlock] at hg; subst hg; simp⟩, by go_grown⟩
  case round =>
    obtain ⟨j, hj, rfl, rfl, hrow, hb⟩ := hrel
    have hsz := hb.size
    by_cases hlt : j < N
    · have e : ((d + -(j : Int)) % 24 + -1) % 24 = (d + -1 * ((j : Int) + 1)) % 24 := by omega
      go_wp2_with (first | (go_at_call 28; refine (turned_any _ _ (by omega) (by omega) (by omega) (by omega) _).mono ?_; rw [e]; rintro e w' ⟨rfl, rfl⟩) | (at_builtin; refine wp_appendI rfl (.tmp 30) (.tmp 32) rfl w.heap.size _ _ _ rfl hrow rfl hb (Nat.le_refl _) hsz (by rw [wayL_len]; omega) ?_; intro v' w' hrow' hb' _))
      go_roundw
      case rel => exact ⟨j + 1, by omega, by go_num, by congr 2 <;> omega, by simpa [wayL] using hrow', hb'⟩
      case measure => simp [intOf]; omega
    · have : j = N := by omega
      subst this
      go_wp2
      go_ret2
      exact ⟨_, rfl, hrow, hb⟩

theorem implWayOf_any (d b : Int) (w : World) :
    Calls Try.prog 11 #[.int .i64 d, .int .i64 b] w fun e w' => ∃ v, e = .returned (.tuple #[v, .int .i64 (wayAll d b).2]) ∧ RowI w' w.heap.size w'.heap.size v (wayAll d b).1 ∧ Below w.heap.size w w' := by
  cases h1 : inB d 0 23 <;> cases h2 : inB b (-1000) 1000
  case true.true =>
    have g2 := inB_true h2
    by_cases hneg : b < 0
    · obtain ⟨N, rfl⟩ : ∃ N : Nat, b = -(N : Int) := ⟨(-b).toNat, by omega⟩
      rw [show wayAll d (-(N : Int)) = (wayL d (-1) N, 0) by simp only [wayAll, h1, h2, Bool.and_self, if_true]; rw [if_neg (by omega)]; simp]
      exact implWay_down d N h1 (by omega) (by omega) w
    · obtain ⟨N, rfl⟩ : ∃ N : Nat, b = (N : Int) := ⟨b.toNat, by omega⟩
      rw [show wayAll d (N : Int) = (wayL d 1 N, 0) by simp only [wayAll, h1, h2, Bool.and_self, if_true]; rw [if_pos (by omega)]; simp]
      exact implWay_up d N h1 (by omega) w
  all_goals
    rw [show wayAll d b = ([], 2) by simp [wayAll, *]]
    go_enter Try.func11, Try.ntmps11
    go_wp2_with (first | (go_at_call 26; refine (valid_any _ _).mono ?_; rintro e w1 ⟨rfl, rfl⟩) | (go_at_call 27; refine (validTurn_any _ _).mono ?_; rintro e w1 ⟨rfl, rfl⟩))
    go_ret2
    exact ⟨_, rfl, RowI_nil _ _ _, by go_grown⟩

theorem wayAll_len (d b : Int) : (wayAll d b).1.length ≤ 1001 := by
  unfold wayAll
  split
  · next h =>
    have g := inB_true (Bool.and_eq_true_iff.mp h).2
    simp only []
    split <;> rw [wayL_len] <;> omega
  · simp

theorem walk_FnExactWayOf (d : Int) (w0 : (Lit.int .i64 d).wf = true) (b : Int) (w1 : (Lit.int .i64 b).wf = true) (w : World) :
    Calls Try.prog 4 #[.int .i64 d, .int .i64 b] w fun e w' => e = .returned (.bool true) ∧ Below w.heap.size w w' := by
  have hlen := wayAll_len d b
  have hS := specWayOf_any d b
  have hI := implWayOf_any d b
  generalize hL : wayAll d b = L at *
  obtain ⟨zs, c⟩ := L
  clear hL
  have HS := Lib.hid hS; clear hS
  have HI := Lib.hid hI; clear hI
  simp only [] at hlen
  go_enter Try.func4, Try.ntmps4
  go_wp2_with fail
  refine (HS.out _).mono ?_
  rintro e w1 ⟨v0, rfl, r0, b0⟩
  go_wp2_with fail
  refine (HI.out _).mono ?_
  rintro e w2 ⟨v1, rfl, r1, b1⟩
  have r0' := RowI_kept r0 b1
  go_wp2_with fail
  refine (eqInts_same _ _ _ _ (RowI_rd r1) (RowI_rd r0')).mono ?_
  rintro e w3 ⟨rfl, b2⟩
  have r0'' := RowI_kept r0' b2
  have r1' := RowI_kept r1 b2
  go_wp2_with fail
  refine (markInts_any _ _ _ _ 101 _ r1' (by omega) (by omega)).mono ?_
  rintro e w4 ⟨rfl, r1'', g3⟩
  have r0''' := RowI_far r0'' g3 (fun g hg => by have := r1'.2 g hg; omega)
  have B4 : Below w.heap.size w w4 := grown_below (kept_trans (kept_trans b0 b1) b2) g3 (fun g hg => by have := r1'.2 g hg; have := b0.size; omega)
  go_wp2_with fail
  refine (heldInts_same _ _ 101 _ (RowI_rd r1'') (by omega) (by omega)).mono ?_
  rintro e w5 ⟨rfl, rfl⟩
  go_wp2_with fail
  refine (HI.out _).mono ?_
  rintro e w5 ⟨v2, rfl, r2, b5⟩
  have q0 := RowI_kept r0''' b5
  have q1 := RowI_kept r1'' b5
  go_wp2_with fail
  refine (eqInts_same _ _ _ _ (RowI_rd r2) (RowI_rd q0)).mono ?_
  rintro e w6 ⟨rfl, b6⟩
  have p1 := RowI_kept q1 b6
  go_wp2_with fail
  refine (heldInts_same _ _ 101 _ (RowI_rd p1) (by omega) (by omega)).mono ?_
  rintro e w7 ⟨rfl, rfl⟩
  go_wp2
  go_ret
  exact ⟨rfl, kept_trans (kept_trans B4 b5) b6⟩

end Go.Proofs.Ytjddpbpambnlgab
namespace Go.Proofs.Ytjddpbpambnlgab.fnExactWayOf
open Go.ChangeShapes Go.WideShapes Go.ChangeAt Go.RowKit
set_option linter.unusedVariables false
set_option linter.unusedSimpArgs false
open Go.Joins
set_option maxRecDepth 100000 in
theorem lifted (os : Os) (started : os.Started) (H : Type) (enc : TypeId × Value → H) :
    ReturnsInHanded {} Try.checked os 4 .any (Rows.fnExactWayOfSpec.pre6 enc Try.prog Try.f4 Rows.fnExactWayOfRow.domain false) (Rows.fnExactWayOfSpec.post enc Try.prog Try.f4 false true false false) := by
  refine returnsInHanded_of_change (C := Try.checked) (show ownKnob Try.prog.godebug = none by kernel_rfl) started (by kernel_rfl) Try.func4
    (ChangeSpec.witness6 (enc := enc) (C := Try.checked) false ⟨#[], #[.int .i64 0, .int .i64 0], []⟩ 8 (by kernel_rfl) (by kernel_rfl) (by kernel_rfl) (by kernel_rfl)) ?_
  intro W base args ds gs before hval0 hW hcnd _
  have hval : ∀ (j : Nat) t v, Try.f4.params[j]? = some t → args[j]? = some v → Value.okWide Try.prog W .any base t v := hval0
  have hW' := hW
  obtain ⟨p, q, hA0, hV, rfl, hfz, hnd⟩ := hW
  have hA : DataW.TrodAll enc Try.prog W 0 (fun _ => true) true Try.f4.params.toList args.toList ds p := hA0
  rw [Try.params4] at hA hval
  obtain ⟨v0, vs0, d0, ds0, p0, q0, hargs, rfl, rfl, h0, r0⟩ := trodAll_cons hA
  obtain ⟨v1, vs1, d1, ds1, p1, q1, rfl, rfl, rfl, h1, r1⟩ := trodAll_cons r0
  obtain ⟨rfl, rfl, rfl⟩ := trodAll_nil r1
  obtain rfl : args = #[v0, v1] := by cases args; simp_all
  obtain ⟨rfl, rfl⟩ := trodVars_none hV
  obtain ⟨a0, rfl, rfl, rfl, w0⟩ := open_int Try.underlying2 (hval 0 2 v0 rfl rfl) h0
  obtain ⟨a1, rfl, rfl, rfl, w1⟩ := open_int Try.underlying2 (hval 1 2 v1 rfl rfl) h1
  clear hA0 hval0
  refine (walk_FnExactWayOf a0 w0 a1 w1 W).mono fun e W' ⟨he, hb⟩ => ?_
  subst he
  exact ⟨_, rfl, law_post (B := 4) (by kernel_rfl) (by kernel_rfl) rfl Try.underlying4 rfl hW' rfl hb⟩

/-- The statement: for every input the law returns true, and the arguments read afterwards as before. -/
theorem proved : Rows.FnExactWayOfSaid :=
  OpenClaim.holds_of_wide 4 Try.f4 rfl rfl rfl rfl rfl rfl rfl ⟨rfl, rfl, rfl, rfl, rfl⟩ rfl rfl rfl rfl rfl (by kernel_rfl) Try.func4 (by kernel_rfl)
    (of_decide_eq_true (by kernel_rfl)) (by unfold Func.isWrapper; first | (rw [if_pos (by decide +kernel)]; kernel_rfl) | (rw [if_neg (by decide +kernel)]; exact ⟨rfl, rfl⟩))
    (fun os started H enc _ => lifted os started H enc)
end Go.Proofs.Ytjddpbpambnlgab.fnExactWayOf
