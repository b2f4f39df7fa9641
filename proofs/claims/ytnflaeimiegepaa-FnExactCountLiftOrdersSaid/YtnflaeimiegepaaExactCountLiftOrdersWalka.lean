/- Proved: for every input the law FnExactCountLiftOrders returns true, and each argument reads afterwards as it read before; no condition beside those of the given row. -/
import Derived.Test.YtnflaeimiegepaaRows
import Derived.WalkKit
import Derived.ProofKit
import Derived.OpenShut
import Derived.Lib.Hide
import Derived.Handy
import Derived.BigQuiet
import Derived.Carry
import Derived.Deep.DeepCutAuto
import Derived.Deep.LoopGhost
import Derived.Deep.QuietTactic
import Derived.Deep.RegionHeld3
import Derived.Deep.SlicePairs
import Derived.Laws.Entries
import Derived.Laws.RangeAny
import Derived.Lib.SmallJoins
import Derived.Maps.OwnSet
import Derived.Maps.RangeWalk
import Derived.OwnWalk
import Derived.Shelf.Abstract
import Derived.WalkMore
import Derived.Lib.SmallJoins
import Derived.ChangeMaps5
namespace Go.Proofs.Ytnflaeimiegepaa
open Go.ChangeShapes Go.WideShapes Go.ChangeAt Go.RowKit
set_option linter.unusedVariables false
set_option linter.unusedSimpArgs false

theorem tmod_pos (n k : Int) (h : 0 ≤ n) : n.tmod k = n % k := Int.tmod_eq_emod_of_nonneg h

theorem trodAll_stay {H : Type} {enc : TypeId × Value → H} {P : Program} (hl : laidOutB P = true) {W W' : World} (hb : Below W.heap.size W W') :
    ∀ (ts : List TypeId) (vs : List Value) (ds : List (DataW H)) (ps : List MemPlace), ts.all (fun t => P.readableRec t && decide (t < P.types.size)) = true →
      DataW.TrodAll enc P W 0 (fun _ => true) true ts vs ds ps → (∀ x ∈ ps, x.block < W.heap.size) →
      DataW.TrodAll enc P W' 0 (fun b => decide (b < W.heap.size)) true ts vs ds ps := by
  intro ts
  induction ts with
  | nil => intro vs ds ps _ h _; obtain ⟨rfl, rfl, rfl⟩ := trodAll_nil h; exact rfl
  | cons t ts ih =>
    intro vs ds ps hr h hlt
    simp only [List.all_cons, Bool.and_eq_true, decide_eq_true_eq] at hr
    obtain ⟨v, vs', d, ds', p, q, rfl, rfl, rfl, h0, h1⟩ := trodAll_cons h
    exact ⟨p, q, Below.trod hl hr.1.1 hr.1.2 h0 hb (fun x hx => hlt x (by simp [hx])), ih _ _ _ hr.2 h1 (fun x hx => hlt x (by simp [hx])), rfl⟩

/-- A law's row at its end: it returned true, and of what was there nothing has turned. -/
theorem law_post {H : Type} {enc : TypeId × Value → H} {P : Program} {f : Func} {s : ChangeSpec} {W W' : World} {args : Array Value} {ds gs : List (DataW H)} {before : List MemPlace} {B : TypeId}
    (hl : laidOutB P = true) (hr : f.params.toList.all (fun t => P.readableRec t && decide (t < P.types.size)) = true)
    (hres : f.resultTypes = #[B]) (hB : P.underlying B = some .bool) (hv : s.vars = [])
    (hW : DataW.Whole enc P f.params.toList s.vars false W args.toList ds gs before)
    (hfn : s.fn H (ds ++ gs) = { results := [.lit (.bool true)], args := ds }) (hb : Below W.heap.size W W') :
    s.post enc P f false true false false W args (.bool true) W' := by
  have hlt : ∀ p ∈ before, p.block < W.heap.size := fun p hp => hW.lt p hp
  have hW' := hW
  obtain ⟨p, q, hA, hV, rfl, _, _⟩ := hW'
  rw [hv] at hV
  obtain ⟨rfl, rfl⟩ := trodVars_none hV
  refine ⟨ds, [], p ++ [], [], p, [], hW, ?_, ?_, ?_, hb.frame _, fun h => by cases h⟩
  · rw [hfn, hres]
    exact trodAll_cons_mk (shut_bool hB _) trodAll_mk0
  · rw [hfn]
    exact trodAll_stay hl hb _ _ _ _ hr hA (fun x hx => hlt x (by simp [hx]))
  · rw [hfn, hv]
    exact rfl

theorem kept_cell {W w1 : World} (hb : Below W.heap.size W w1) (b o : Nat) (h : b < W.heap.size) : w1.cell? ⟨b, o, none⟩ = W.cell? ⟨b, o, none⟩ := hb.cell (p := ⟨b, o, none⟩) h

theorem kept_frozen {W w1 : World} (hb : Below W.heap.size W w1) (b o : Nat) (h : b < W.heap.size) : w1.frozen? ⟨b, o, none⟩ = W.frozen? ⟨b, o, none⟩ := hb.frozen (p := ⟨b, o, none⟩) h

theorem kept {W w1 : World} (hb : Below W.heap.size W w1) :
    (∀ b o, b < W.heap.size → w1.cell? ⟨b, o, none⟩ = W.cell? ⟨b, o, none⟩) ∧ (∀ b o, b < W.heap.size → w1.frozen? ⟨b, o, none⟩ = W.frozen? ⟨b, o, none⟩) ∧ W.heap.size ≤ w1.heap.size :=
  ⟨kept_cell hb, kept_frozen hb, hb.size⟩

theorem kept_trans {a b c : World} (h : Below a.heap.size a b) (k : Below b.heap.size b c) : Below a.heap.size a c := h.trans (k.mono h.size)

theorem kept_at {W w1 : World} (hb : Below W.heap.size W w1) (b : Nat) {G : Prop} (h : b < W.heap.size)
    (k : (∀ o, w1.cell? ⟨b, o, none⟩ = W.cell? ⟨b, o, none⟩) → (∀ o, w1.frozen? ⟨b, o, none⟩ = W.frozen? ⟨b, o, none⟩) → b < w1.heap.size → G) : G :=
  k (fun o => kept_cell hb b o h) (fun o => kept_frozen hb b o h) (Nat.lt_of_lt_of_le h hb.size)

theorem kept_drewN {B : Nat} {a w : World} (h : Below B a w) (n : Nat) : Below B a (w.drewN n) := { os := h.os, tape := h.tape, output := h.output, size := h.size, block := h.block }

theorem grown_step {a b c : World} {row : Option Nat} (h : a.grownBy b row) (k : b.grownBy c row) : a.grownBy c row :=
  ⟨k.os.trans h.os, k.tape.trans h.tape, k.output.trans h.output, Nat.le_trans h.size k.size, fun i hi hne => (k.block i (Nat.lt_of_lt_of_le hi h.size) hne).trans (h.block i hi hne)⟩

theorem grown_below {a b c : World} {row : Option Nat} (h : Below a.heap.size a b) (k : b.grownBy c row) (hr : ∀ g, row = some g → a.heap.size ≤ g) : Below a.heap.size a c := h.grown k h.size hr

theorem results_cell1 {fn : Func} {p : Tmp} {ty : TypeId} (h : fn.results = #[.cell p ty]) (tmps : Array Value) (P : Program) (w : World) :
    (results fn tmps).run P w = ((asAddr (tmps.getD p undef)).run P w).andThen fun a w₁ => (loadVar ty a).run P w₁ := by
  simp only [results, h]
  simp [Sem.run_bind, Result.andThen]

theorem grown_set (w : World) (a : Addr) (u : Value) : w.grownBy (w.setCell a u) (some a.block) :=
  ⟨rfl, rfl, rfl, by simp, fun k _ hk => heap_setCell_other w a k u (fun e => hk (by rw [e]))⟩

def inB (n low high : Int) : Bool := decide (low ≤ n) && decide (n ≤ high)

theorem in_any (n low high : Int) (w : World) :
    Calls Try.prog 81 #[.int .i64 n, .int .i64 low, .int .i64 high] w fun e w' => e = .returned (.bool (inB n low high)) ∧ w = w' := by
  unfold inB
  by_cases h1 : low ≤ n <;> by_cases h2 : n ≤ high <;>
  · go_enter Try.func81, Try.ntmps81
    go_wp2
    go_ret
    exact ⟨by simp [*], rfl⟩

def okP (x y : Int) : Bool := inB x (-10000) 10000 && inB y (-10000) 10000

theorem specOk_any (x y : Int) (w : World) :
    Calls Try.prog 99 #[.agg #[.int .i64 x, .int .i64 y]] w fun e w' => e = .returned (.bool (okP x y)) ∧ Below w.heap.size w w' := by
  unfold okP
  cases h1 : inB x (-10000) 10000 <;>
  · go_enter Try.func99, Try.ntmps99
    go_wp2_with (go_at_call 81; refine (in_any _ _ _ _).mono ?_; rintro e w' ⟨rfl, rfl⟩)
    go_ret
    exact ⟨by simp, by go_grown⟩

theorem validPlace_any (x y : Int) (w : World) :
    Calls Try.prog 75 #[.agg #[.int .i64 x, .int .i64 y]] w fun e w' => e = .returned (.bool (okP x y)) ∧ Below w.heap.size w w' := by
  unfold okP inB
  rcases (show ¬ -10000 ≤ x ∨ (-10000 ≤ x ∧ ¬ x ≤ 10000) ∨ (-10000 ≤ x ∧ x ≤ 10000 ∧ ¬ -10000 ≤ y) ∨ (-10000 ≤ x ∧ x ≤ 10000 ∧ -10000 ≤ y ∧ ¬ y ≤ 10000) ∨ (-10000 ≤ x ∧ x ≤ 10000 ∧ -10000 ≤ y ∧ y ≤ 10000) from by omega) with h1 | ⟨h1, h2⟩ | ⟨h1, h2, h3⟩ | ⟨h1, h2, h3, h4⟩ | ⟨h1, h2, h3, h4⟩
  all_goals
    go_enter Try.func75, Try.ntmps75
    go_wp2
    go_ret
    exact ⟨by simp [*] <;> omega, by go_grown⟩

theorem toPoint_any (x y : Int) (w : World) :
    Calls Try.prog 38 #[.agg #[.int .i64 x, .int .i64 y]] w fun e w' => e = .returned (.agg #[.int .i64 x, .int .i64 y]) ∧ Below w.heap.size w w' := by
  go_enter Try.func38, Try.ntmps38
  go_wp2
  go_returns
  exact ⟨rfl, by go_grown⟩

theorem info_int64 : (Try.prog.info? 2).map (fun i => (i.zero, i.size, i.bytes)) = some (some (.int .i64 0), 1, 8) := by kernel_rfl

theorem own_kept {W w1 : World} {base : Nat} {e : TypeId} {size : Nat} {v : Value} {n : Nat} {xs : List Value} (h : W.ownsRow base e size v n xs) (hb : Below W.heap.size W w1) : w1.ownsRow base e size v n xs := by
  refine ⟨h.1, ?_⟩
  rcases h.2 with h2 | ⟨g, cap, cur, hv, hg, hh, r⟩
  · exact Or.inl h2
  · refine Or.inr ⟨g, cap, cur, hv, hg, ?_, r⟩
    rw [hb.block g (h.lt g (by rw [hv]; rfl)).2]
    exact hh

/-- The slice value reads as a list of numbers. -/
def RdI (w : World) (v : Value) (zs : List Int) : Prop :=
  zs.length ≤ 9223372036854775807 ∧ ∃ A c, v = .slice A zs.length c ∧ ∀ k, (hk : k < zs.length) → ∃ b off, A = some ⟨b, off, none⟩ ∧ b < w.heap.size ∧ w.cell? ⟨b, off + k, none⟩ = some (.int .i64 zs[k])

theorem RdI_kept {W w1 : World} {v : Value} {zs : List Int} (h : RdI W v zs) (hb : Below W.heap.size W w1) : RdI w1 v zs := by
  obtain ⟨hl, A, c, rfl, hr⟩ := h
  refine ⟨hl, A, c, rfl, fun k hk => ?_⟩
  obtain ⟨b, off, e, hlt, hc⟩ := hr k hk
  exact ⟨b, off, e, Nat.lt_of_lt_of_le hlt hb.size, by rw [kept_cell hb b _ hlt]; exact hc⟩

/-- A row of numbers of the call's own, in a block from lo on and below hi. -/
def RowI (w : World) (lo hi : Nat) (v : Value) (zs : List Int) : Prop :=
  w.ownsRow lo 2 1 v zs.length (zs.map (Value.int .i64)) ∧ ∀ g, v.ownBlock = some g → lo ≤ g ∧ g < hi

theorem RowI_nil (w : World) (lo hi : Nat) : RowI w lo hi (.slice none 0 0) [] := ⟨World.ownsRow_nil _ _ _ _, fun g h => by simp [Value.ownBlock] at h⟩

theorem RowI_form {w : World} {lo hi : Nat} {v : Value} {zs : List Int} (h : RowI w lo hi v zs) :
    (zs = [] ∧ v = .slice none 0 0) ∨ ∃ g cap, v = .slice (some ⟨g, 0, none⟩) zs.length cap ∧ lo ≤ g ∧ g < hi ∧ g < w.heap.size ∧ zs.length ≤ cap ∧ cap ≤ maxLen := by
  rcases h.1.2 with ⟨h1, h2⟩ | ⟨g, cap, cur, rfl, hg, hh, h3, h4, _⟩
  · exact Or.inl ⟨List.eq_nil_of_length_eq_zero h2, h1⟩
  · exact Or.inr ⟨g, cap, rfl, hg, (h.2 g rfl).2, (h.1.lt g rfl).2, h3, h4⟩

theorem RowI_rd {w : World} {lo hi : Nat} {v : Value} {zs : List Int} (h : RowI w lo hi v zs) : RdI w v zs := by
  rcases RowI_form h with ⟨rfl, rfl⟩ | ⟨g, cap, rfl, _, _, hlt, h3, h4⟩
  · exact ⟨by simp, none, 0, rfl, fun k hk => by simp at hk⟩
  · unfold maxLen at h4
    refine ⟨by omega, some ⟨g, 0, none⟩, cap, rfl, fun k hk => ⟨g, 0, rfl, hlt, ?_⟩⟩
    rw [Nat.zero_add, h.1.cellAt k (by simpa using hk)]
    simp [hk]

theorem RowI_kept {W w1 : World} {lo hi : Nat} {v : Value} {zs : List Int} (h : RowI W lo hi v zs) (hb : Below W.heap.size W w1) : RowI w1 lo hi v zs := ⟨own_kept h.1 hb, h.2⟩

theorem RowI_far {W w1 : World} {lo hi : Nat} {v : Value} {zs : List Int} {row : Option Nat} (h : RowI W lo hi v zs) (hg : W.grownBy w1 row) (hr : ∀ g, row = some g → g < lo ∨ hi ≤ g) : RowI w1 lo hi v zs := by
  refine ⟨h.1.kept hg ?_, h.2⟩
  rcases hv : v.ownBlock with _ | g
  · exact Or.inl rfl
  · refine Or.inr (fun e => ?_)
    have h1 := h.2 g hv
    have h2 := hr g e.symm
    omega

theorem eqInts_same (v1 v2 : Value) (zs : List Int) (w : World) (h1 : RdI w v1 zs) (h2 : RdI w v2 zs) :
    Calls Try.prog 80 #[v1, v2] w fun e w' => e = .returned (.bool true) ∧ Below w.heap.size w w' := by
  obtain ⟨hl, A, c, rfl, r1⟩ := h1
  obtain ⟨_, A2, c2, rfl, r2⟩ := h2
  have R1 := Lib.hid r1; clear r1
  have R2 := Lib.hid r2; clear r2
  go_enter Try.func80, Try.ntmps80
  go_wp2_with fail
  go_loopw [5] (fun i wr => ∃ k : Nat, k ≤ zs.length ∧ i = .int .i64 k ∧ Below w.heap.size w wr) (fun i _ => zs.length - (intOf i).toNat)
  case atStart => exact ⟨0, by omega, rfl, Below.refl _ _⟩
  case round =>
    obtain ⟨k, hk, rfl, hb⟩ := hrel
    by_cases hlt : k < zs.length
    · obtain ⟨b, off, rfl, hbl, hc⟩ := R1.out k hlt
      obtain ⟨b2, off2, rfl, hbl2, hc2⟩ := R2.out k hlt
      rw [← kept_cell hb b _ hbl] at hc
      rw [← kept_cell hb b2 _ hbl2] at hc2
      go_wp2_with fail
      go_quiet (fail)
      go_wp2
      go_roundw
      case rel => exact ⟨k + 1, by omega, by go_num, kept_drewN hb _⟩
      case measure => simp [intOf]; omega
    · have : k = zs.length := by omega
      subst this
      go_wp2
      go_ret
      exact ⟨rfl, hb⟩

/-- append of one number to a row of the call's own. -/
theorem wp_appendI {ops : Array Oper} {rest : List Oper} {o : Oper} {a : Act} {Q : Exit → Act → World → Prop} {W wr : World} (hgd : o.guard = none) (s x : Operand)
    (ho : o.op = .call { callee := .builtin .append, args := #[s, x], argTypes := #[25, 25] })
    (lo : Nat) (v : Value) (zs : List Int) (z : Int) (hs : a.eval s = v) (hrow : RowI wr lo wr.heap.size v zs) (hx : a.eval x = .slice (some ⟨wr.heap.size, 0, none⟩) 1 1)
    (hW : Below W.heap.size W wr) (hlo : W.heap.size ≤ lo) (hlo2 : lo ≤ wr.heap.size) (hn : zs.length < 17592186044416)
    (h : ∀ v' w', RowI w' lo w'.heap.size v' (zs ++ [z]) → Below W.heap.size W w' → wr.heap.size ≤ w'.heap.size → wpList Try.prog ops Q rest (a.put o.dst v') w') :
    wpList Try.prog ops Q (o :: rest) a (wr.alloc (.cells #[.int .i64 z] 2)) := by
  obtain ⟨i0, hi, hz0, hz1, hz2⟩ := info_parts info_int64
  refine wpList_append_own _ hgd s x _ ho lo 2 i0 (.int .i64 0) 1 8 Try.underlying25 hi hz0 hz1 hz2 rfl (by decide) v zs.length _ hs (hrow.1.alloc _) ⟨wr.heap.size, 0, none⟩ 1 1 [.int .i64 z] hx rfl ?_ ?_ ?_ ?_ ?_ ?_
  · intro j u hj
    cases j with
    | zero => simp at hj; subst hj; simp [Addr.add]
    | succ j => simp at hj
  · intro u hu; simp at hu; subst hu; rfl
  · unfold maxLen; omega
  · omega
  · simp; omega
  · intro v' w' hown hg _
    have e : (zs.map (Value.int .i64) ++ [.int .i64 z]) = (zs ++ [z]).map (Value.int .i64) := by simp
    rw [e] at hown
    have hrow' : RowI w' lo w'.heap.size v' (zs ++ [z]) := ⟨by simpa using hown, hown.lt⟩
    refine h v' w' hrow' ?_ (Nat.le_trans (by simp) hg.size)
    refine grown_below (hW.alloc hW.size _) hg (fun g hg2 => ?_)
    have := (hrow.2 g hg2).1
    omega

theorem eqPoint_same (x y : Int) (w : World) :
    Calls Try.prog 46 #[.agg #[.int .i64 x, .int .i64 y], .agg #[.int .i64 x, .int .i64 y]] w fun e w' => e = .returned (.bool true) ∧ Below w.heap.size w w' := by
  go_enter Try.func46, Try.ntmps46
  go_wp2
  go_ret
  exact ⟨rfl, by go_grown⟩

def smallI (c : Int) : Bool := decide (97 ≤ c) && decide (c ≤ 122)

def digitI (c : Int) : Bool := decide (48 ≤ c) && decide (c ≤ 57)

def okI (c : Int) : Bool := smallI c || digitI c || decide (c = 45)

def NameP (s : ByteArray) : Prop := 1 ≤ s.size ∧ s.size ≤ 12 ∧ (∀ h : 0 < s.size, smallI (s[0]'h).toNat = true) ∧ ∀ i, (h : i < s.size) → okI (s[i]'h).toNat = true

noncomputable def nameB (s : ByteArray) : Bool := @decide (NameP s) (Classical.propDecidable _)

theorem nameB_true {s : ByteArray} (h : NameP s) : nameB s = true := by unfold nameB; exact @decide_eq_true _ (Classical.propDecidable _) h

theorem nameB_false {s : ByteArray} (h : ¬ NameP s) : nameB s = false := by unfold nameB; exact @decide_eq_false _ (Classical.propDecidable _) h

theorem small_any (c : Int) (w : World) :
    Calls Try.prog 114 #[.int .u8 c] w fun e w' => e = .returned (.bool (smallI c)) ∧ w = w' := by
  unfold smallI
  rcases (show ¬ 97 ≤ c ∨ (97 ≤ c ∧ ¬ c ≤ 122) ∨ (97 ≤ c ∧ c ≤ 122) from by omega) with h1 | ⟨h1, h2⟩ | ⟨h1, h2⟩
  all_goals
    go_enter Try.func114, Try.ntmps114
    go_wp2
    go_ret
    exact ⟨by simp [*] <;> omega, rfl⟩

theorem digit_any (c : Int) (w : World) :
    Calls Try.prog 115 #[.int .u8 c] w fun e w' => e = .returned (.bool (digitI c)) ∧ w = w' := by
  unfold digitI
  rcases (show ¬ 48 ≤ c ∨ (48 ≤ c ∧ ¬ c ≤ 57) ∨ (48 ≤ c ∧ c ≤ 57) from by omega) with h1 | ⟨h1, h2⟩ | ⟨h1, h2⟩
  all_goals
    go_enter Try.func115, Try.ntmps115
    go_wp2
    go_ret
    exact ⟨by simp [*] <;> omega, rfl⟩

theorem isLetter_any (c : Int) (w : World) :
    Calls Try.prog 101 #[.int .i32 c] w fun e w' => e = .returned (.bool (smallI c)) ∧ w = w' := by
  unfold smallI
  rcases (show ¬ 97 ≤ c ∨ (97 ≤ c ∧ ¬ c ≤ 122) ∨ (97 ≤ c ∧ c ≤ 122) from by omega) with h1 | ⟨h1, h2⟩ | ⟨h1, h2⟩
  all_goals
    go_enter Try.func101, Try.ntmps101
    go_wp2
    go_ret
    exact ⟨by simp [*] <;> omega, rfl⟩

theorem isDigit_any (c : Int) (w : World) :
    Calls Try.prog 102 #[.int .i32 c] w fun e w' => e = .returned (.bool (digitI c)) ∧ w = w' := by
  unfold digitI
  rcases (show ¬ 48 ≤ c ∨ (48 ≤ c ∧ ¬ c ≤ 57) ∨ (48 ≤ c ∧ c ≤ 57) from by omega) with h1 | ⟨h1, h2⟩ | ⟨h1, h2⟩
  all_goals
    go_enter Try.func102, Try.ntmps102
    go_wp2
    go_ret
    exact ⟨by simp [*] <;> omega, rfl⟩

theorem specIsName_any (s : ByteArray) (w : World) (hs : s.size ≤ 1000000) :
    Calls Try.prog 98 #[.string s] w fun e w' => e = .returned (.bool (nameB s)) ∧ w = w' := by
  by_cases h0 : s.size = 0
  · have hE := nameB_false (s := s) (fun h => by have := h.1; omega)
    have hs0 : s = ByteArray.empty := by cases s with | mk d => simp [ByteArray.size] at h0; subst h0; rfl
    subst hs0
    rw [hE]
    go_enter Try.func98, Try.ntmps98
    go_wp2
    go_ret
    exact ⟨rfl, rfl⟩
  · have hne : s.toList.isEmpty = false := by
      rw [ByteArray.toList_eq]
      have : s.data.toList.length = s.size := Array.length_toList
      cases hl : s.data.toList with
      | nil => rw [hl] at this; simp at this; omega
      | cons a l => rfl
    have h0' : 0 < s.size := by omega
    by_cases h12 : s.size ≤ 12
    · cases hc : smallI (s[0]'h0').toNat
      · have hE := nameB_false (s := s) (fun h => by have := h.2.2.1 h0'; rw [hc] at this; cases this)
        rw [hE]
        have HC := Lib.hid hc; clear hc
        go_enter Try.func98, Try.ntmps98
        go_wp2_with (go_at_call 114; refine (small_any _ _).mono ?_; rw [HC.out]; rintro e w' ⟨rfl, rfl⟩)
        go_ret
        exact ⟨rfl, rfl⟩
      · have HC := Lib.hid hc; clear hc
        go_enter Try.func98, Try.ntmps98
        go_wp2_with (go_at_call 114; refine (small_any _ _).mono ?_; rw [HC.out]; rintro e w' ⟨rfl, rfl⟩)
        go_loop [3] (fun i => ∃ k : Nat, k ≤ s.size ∧ i = .int .i64 k ∧ ∀ j, (h : j < s.size) → j < k → okI (s[j]'h).toNat = true) (fun i => s.size - (intOf i).toNat)
        case atStart => exact ⟨0, by omega, rfl, fun j _ h => by omega⟩
        case round =>
          obtain ⟨k, hk, rfl, hall⟩ := hrel
          have HALL := Lib.hid hall; clear hall
          by_cases hlt : k < s.size
          · cases h1 : smallI (s[k]'hlt).toNat <;> cases h2 : digitI (s[k]'hlt).toNat <;> cases h3 : ((s[k]'hlt).toNat : Int) == 45
            all_goals
              have H1 := Lib.hid h1
              have H2 := Lib.hid h2
              have H3 := Lib.hid h3
              have h3' : (((s[k]'hlt).toNat : Int) != 45) = !(((s[k]'hlt).toNat : Int) == 45) := rfl
              rw [h3] at h3'
              clear h1 h2
              go_wp2_with (first | (go_at_call 114; refine (small_any _ _).mono ?_; rw [H1.out]; rintro e w' ⟨rfl, rfl⟩) | (go_at_call 115; refine (digit_any _ _).mono ?_; rw [H2.out]; rintro e w' ⟨rfl, rfl⟩))
              first
                | (go_ret
                   have hE := nameB_false (s := s) (fun h => by have := h.2.2.2 k hlt; simp [okI, H1.out, H2.out] at this; simp [this] at h3)
                   exact ⟨by rw [hE]; rfl, rfl⟩)
                | (go_round
                   case rel => exact ⟨k + 1, by omega, by go_num, fun j hj hjk => by
                     rcases Nat.lt_or_ge j k with h | h
                     · exact HALL.out j hj h
                     · have : j = k := by omega
                       subst this
                       simp [okI, H1.out, H2.out]
                       try simpa using h3⟩
                   case measure => simp [intOf]; omega)
          · have hE := nameB_true (s := s) ⟨by omega, h12, fun _ => HC.out, fun i hi => HALL.out i hi (by omega)⟩
            have HE := Lib.hid hE; clear hE
            go_wp2
            go_ret
            exact ⟨by rw [HE.out]; rfl, rfl⟩
    · have hE := nameB_false (s := s) (fun h => by have := h.2.1; omega)
      rw [hE]
      go_enter Try.func98, Try.ntmps98
      go_wp2
      go_ret
      exact ⟨rfl, rfl⟩

theorem implIsName_any (s : ByteArray) (w : World) (hs : s.size ≤ 1000000) :
    Calls Try.prog 73 #[.string s] w fun e w' => e = .returned (.bool (nameB s)) ∧ Below w.heap.size w w' := by
  by_cases h0 : s.size < 1
  · have hE := nameB_false (s := s) (fun h => by have := h.1; omega)
    rw [hE]
    go_enter Try.func73, Try.ntmps73
    go_wp2
    go_ret
    exact ⟨rfl, by go_grown⟩
  · by_cases h12 : s.size ≤ 12
    · go_enter Try.func73, Try.ntmps73
      go_wp2_with fail
      go_loopw [] (fun wr => ∃ k : Nat, k ≤ s.size ∧ wr = w.iter s k ∧ ∀ j, (h : j < s.size) → j < k → okI (s[j]'h).toNat = true ∧ (j = 0 → smallI (s[j]'h).toNat = true)) (fun wr => s.size - wr.iterPos w.heap.size)
      case atStart => exact ⟨0, by omega, rfl, fun j _ h => by omega⟩
      case round =>
        obtain ⟨k, hk, rfl, hall⟩ := hrel
        have HALL := Lib.hid hall; clear hall
        by_cases hlt : k < s.size
        · by_cases ha : (s[k]'hlt).toNat < 128
          · have hnx := fun ty => run_next_ascii (P := Try.prog) w s k ty hlt ha
            generalize hcg : (s[k]'hlt).toNat = c at *
            have HCG := Lib.hid hcg; clear hcg
            have hwrap : (c : Int) < 128 := by omega
            have next_ok : okI c = true → (k = 0 → smallI c = true) → ∀ j, (h : j < s.size) → j < k + 1 → okI (s[j]'h).toNat = true ∧ (j = 0 → smallI (s[j]'h).toNat = true) := by
              intro g1 g2 j hj hjk
              rcases Nat.lt_or_ge j k with h | h
              · exact HALL.out j hj h
              · have : j = k := by omega
                subst this
                rw [HCG.out]
                exact ⟨g1, g2⟩
            have NOK := Lib.hid next_ok; clear next_ok
            have bad0 : k = 0 → smallI c = false → nameB s = false := fun e g => nameB_false (fun h => by
              have h1 := h.2.2.1 (by omega)
              subst e
              rw [HCG.out, g] at h1
              cases h1)
            have badk : okI c = false → nameB s = false := fun g => nameB_false (fun h => by
              have h1 := h.2.2.2 k hlt
              rw [HCG.out, g] at h1
              cases h1)
            have BAD0 := Lib.hid bad0; clear bad0
            have BADK := Lib.hid badk; clear badk
            cases h1 : smallI c
            · by_cases hk0 : k = 0
              · have e0 : ((k : Int) == 0) = true := by simp [hk0]
                have H1 := Lib.hid h1; clear h1
                have HK0 := Lib.hid hk0; clear hk0
                go_wp2_with (go_at_call 101; refine (isLetter_any _ _).mono ?_; rw [H1.out]; rintro e w' ⟨rfl, rfl⟩)
                go_ret
                exact ⟨by rw [BAD0.out HK0.out H1.out]; rfl, by unfold World.iter; go_grown⟩
              · have e0 : ((k : Int) == 0) = false := by simp [hk0]
                cases h2 : digitI c <;> cases h3 : (c : Int) == 45
                all_goals
                  have h3' : ((c : Int) != 45) = !((c : Int) == 45) := rfl
                  rw [h3] at h3'
                  have H1 := Lib.hid h1; clear h1
                  have H2 := Lib.hid h2; clear h2
                  have H3 := Lib.hid h3
                  go_wp2_with (first | (go_at_call 101; refine (isLetter_any _ _).mono ?_; rw [H1.out]; rintro e w' ⟨rfl, rfl⟩) | (go_at_call 102; refine (isDigit_any _ _).mono ?_; rw [H2.out]; rintro e w' ⟨rfl, rfl⟩))
                  first
                    | (go_ret
                       exact ⟨by rw [BADK.out (by simp [okI, H1.out, H2.out]; simpa using H3.out)]; rfl, by unfold World.iter; go_grown⟩)
                    | (go_roundw
                       case rel => exact ⟨k + 1, by omega, rfl, NOK.out (by simp [okI, H1.out, H2.out]; try simpa using H3.out) (fun e => absurd e hk0)⟩
                       case measure => simp; omega)
            · have H1 := Lib.hid h1; clear h1
              go_wp2_with (go_at_call 101; refine (isLetter_any _ _).mono ?_; rw [H1.out]; rintro e w' ⟨rfl, rfl⟩)
              go_roundw
              case rel => exact ⟨k + 1, by omega, rfl, NOK.out (by simp [okI, H1.out]) (fun _ => H1.out)⟩
              case measure => simp; omega
          · have hhi := decode_high s k hlt (by omega)
            have hnx := fun ty => run_next_any (P := Try.prog) w s k ty hlt
            have hbad : nameB s = false := nameB_false (fun h => by
              have h1 := h.2.2.2 k hlt
              simp [okI, smallI, digitI] at h1
              omega)
            have HBAD := Lib.hid hbad; clear hbad
            generalize Utf8.decode s k = rn at *
            obtain ⟨r, n⟩ := rn
            simp only [] at hhi hnx
            have H1 : Hid (smallI (r : Int) = false) := Lib.hid (by simp [smallI]; omega)
            have H2 : Hid (digitI (r : Int) = false) := Lib.hid (by simp [digitI]; omega)
            have h3 : ((r : Int) != 45) = true := by simp; omega
            by_cases hk0 : k = 0
            all_goals
              first
                | (have e0 : ((k : Int) == 0) = true := by simp [hk0])
                | (have e0 : ((k : Int) == 0) = false := by simp [hk0])
              clear hk0
              go_wp2_with (first | (go_at_call 101; refine (isLetter_any _ _).mono ?_; rw [H1.out]; rintro e w' ⟨rfl, rfl⟩) | (go_at_call 102; refine (isDigit_any _ _).mono ?_; rw [H2.out]; rintro e w' ⟨rfl, rfl⟩))
              go_ret
              exact ⟨by rw [HBAD.out]; rfl, by unfold World.iter; go_grown⟩
        · have hnx := fun ty => run_next_end (P := Try.prog) w s k ty hlt
          have hE := nameB_true (s := s) ⟨by omega, h12, fun h => (HALL.out 0 h (by omega)).2 rfl, fun i hi => (HALL.out i hi (by omega)).1⟩
          have HE := Lib.hid hE; clear hE
          go_wp2
          go_ret
          exact ⟨by rw [HE.out]; rfl, by unfold World.iter; go_grown⟩
    · have hE := nameB_false (s := s) (fun h => by have := h.2.1; omega)
      rw [hE]
      go_enter Try.func73, Try.ntmps73
      go_wp2
      go_ret
      exact ⟨rfl, by go_grown⟩

theorem flat_len {α : Type} {enc : α → List Value} {sz : Nat} (h : ∀ z, (enc z).length = sz) (zs : List α) : (zs.flatMap enc).length = zs.length * sz := by
  induction zs with
  | nil => simp
  | cons z zs ih => rw [List.flatMap_cons, List.length_append, ih, h, List.length_cons, Nat.add_mul]; omega

theorem flat_at {α : Type} {enc : α → List Value} {sz : Nat} (h : ∀ z, (enc z).length = sz) (zs : List α) (k j : Nat) (hk : k < zs.length) (hj : j < sz) : (zs.flatMap enc)[k * sz + j]? = (enc zs[k])[j]? := by
  induction zs generalizing k with
  | nil => simp at hk
  | cons z zs ih =>
    cases k with
    | zero => rw [List.flatMap_cons, List.getElem?_append_left (by rw [h]; omega)]; simp
    | succ k =>
      have e : (k + 1) * sz + j - (enc z).length = k * sz + j := by rw [h, Nat.add_mul]; omega
      rw [List.flatMap_cons, List.getElem?_append_right (by rw [h, Nat.add_mul]; omega), e, ih k (by simpa using hk)]
      simp

/-- The slice value reads as n elements of sz cells each, cell for cell. -/
def RdF (w : World) (v : Value) (n sz : Nat) (xs : List Value) : Prop :=
  n ≤ 9223372036854775807 ∧ xs.length = n * sz ∧ ∃ A c, v = .slice A n c ∧ ∀ i, i < n * sz → ∃ b off, A = some ⟨b, off, none⟩ ∧ b < w.heap.size ∧ w.cell? ⟨b, off + i, none⟩ = xs[i]?

theorem RdF_kept {W w1 : World} {v : Value} {n sz : Nat} {xs : List Value} (h : RdF W v n sz xs) (hb : Below W.heap.size W w1) : RdF w1 v n sz xs := by
  obtain ⟨hl, hx, A, c, rfl, hr⟩ := h
  refine ⟨hl, hx, A, c, rfl, fun k hk => ?_⟩
  obtain ⟨b, off, e, hlt, hc⟩ := hr k hk
  exact ⟨b, off, e, Nat.lt_of_lt_of_le hlt hb.size, by rw [kept_cell hb b _ hlt]; exact hc⟩

/-- A row of elements of the call's own (type e, sz cells each), in a block from lo on and below hi. -/
def RowF (e sz : Nat) (w : World) (lo hi : Nat) (v : Value) (n : Nat) (xs : List Value) : Prop :=
  w.ownsRow lo e sz v n xs ∧ ∀ g, v.ownBlock = some g → lo ≤ g ∧ g < hi

theorem RowF_form {e sz : Nat} {w : World} {lo hi : Nat} {v : Value} {n : Nat} {xs : List Value} (h : RowF e sz w lo hi v n xs) :
    (n = 0 ∧ xs = [] ∧ v = .slice none 0 0) ∨ ∃ g cap, v = .slice (some ⟨g, 0, none⟩) n cap ∧ lo ≤ g ∧ g < hi ∧ g < w.heap.size ∧ n ≤ cap ∧ cap ≤ maxLen := by
  rcases h.1.2 with ⟨h1, h2⟩ | ⟨g, cap, cur, rfl, hg, hh, h3, h4, _⟩
  · exact Or.inl ⟨h2, List.eq_nil_of_length_eq_zero (by rw [h.1.1, h2, Nat.zero_mul]), h1⟩
  · exact Or.inr ⟨g, cap, rfl, hg, (h.2 g rfl).2, (h.1.lt g rfl).2, h3, h4⟩

theorem RowF_rd {e sz : Nat} {w : World} {lo hi : Nat} {v : Value} {n : Nat} {xs : List Value} (h : RowF e sz w lo hi v n xs) : RdF w v n sz xs := by
  rcases RowF_form h with ⟨rfl, rfl, rfl⟩ | ⟨g, cap, rfl, _, _, hlt, h3, h4⟩
  · exact ⟨by simp, by simp, none, 0, rfl, fun k hk => by simp at hk⟩
  · unfold maxLen at h4
    refine ⟨by omega, h.1.1, some ⟨g, 0, none⟩, cap, rfl, fun k hk => ⟨g, 0, rfl, hlt, ?_⟩⟩
    rw [Nat.zero_add, h.1.cellAt k hk]

theorem RowF_kept {e sz : Nat} {W w1 : World} {lo hi : Nat} {v : Value} {n : Nat} {xs : List Value} (h : RowF e sz W lo hi v n xs) (hb : Below W.heap.size W w1) : RowF e sz w1 lo hi v n xs := ⟨own_kept h.1 hb, h.2⟩

/-- The first elements of a row. -/
theorem RowF_short {e sz : Nat} {w : World} {lo hi g cap m n : Nat} {xs : List Value} (h : RowF e sz w lo hi (.slice (some ⟨g, 0, none⟩) m cap) m xs) (hn : n ≤ m) :
    RowF e sz w lo hi (.slice (some ⟨g, 0, none⟩) n cap) n (xs.take (n * sz)) := by
  refine ⟨⟨?_, ?_⟩, fun g' hg' => h.2 g' hg'⟩
  · rw [List.length_take, h.1.1]
    have := Nat.mul_le_mul_right sz hn
    omega
  · rcases h.1.2 with ⟨h1, h2⟩ | ⟨g', cap', cur, h1, hg, hh, h3, h4, h5, h6⟩
    · simp at h1
    · simp only [Value.slice.injEq, Option.some.injEq, Addr.mk.injEq, and_true, true_and] at h1
      obtain ⟨rfl, rfl⟩ := h1
      refine Or.inr ⟨g, cap, cur, rfl, hg, hh, by omega, h4, h5, ?_⟩
      rw [← h6, List.take_take]
      congr 1
      have := Nat.mul_le_mul_right sz hn
      omega

def roomL (n : Nat) : Nat := if n % 6 = 5 then 0 else if n % 3 = 0 then 1 else n

theorem roomL_le (n : Nat) : roomL n ≤ n + 1 := by
  unfold roomL
  split
  · omega
  · split <;> omega

theorem room_any (n : Nat) (hn : n ≤ 9223372036854775807) (w : World) :
    Calls Try.prog 36 #[.int .i64 n] w fun e w' => e = .returned (.int .i64 (roomL n : Nat)) ∧ w = w' := by
  unfold roomL
  have e6 : (n : Int).tmod 6 = ((n % 6 : Nat) : Int) := by rw [tmod_pos _ _ (by omega)]; omega
  have e3 : (n : Int).tmod 3 = ((n % 3 : Nat) : Int) := by rw [tmod_pos _ _ (by omega)]; omega
  by_cases h6 : n % 6 = 5
  · rw [h6] at e6
    go_enter Try.func36, Try.ntmps36
    go_wp2
    go_ret
    exact ⟨by simp [h6], rfl⟩
  · have d6 : ((n : Int).tmod 6 == 5) = false := by rw [e6]; simp; omega
    by_cases h3 : n % 3 = 0
    · rw [h3] at e3
      go_enter Try.func36, Try.ntmps36
      go_wp2
      go_ret
      exact ⟨by simp [h6, h3], rfl⟩
    · have d3 : ((n : Int).tmod 3 == 0) = false := by rw [e3]; simp; omega
      go_enter Try.func36, Try.ntmps36
      go_wp2
      go_ret
      exact ⟨by simp [h6, h3], rfl⟩

theorem fill_step {α : Type} (T : List α) (z : α) (j : Nat) (h : j < T.length) : (T.take j ++ List.replicate (T.length - j) z).set j T[j] = T.take (j + 1) ++ List.replicate (T.length - (j + 1)) z := by
  obtain ⟨m, hm⟩ : ∃ m, T.length - j = m + 1 := ⟨T.length - j - 1, by omega⟩
  rw [hm, show T.length - (j + 1) = m by omega, List.replicate_succ, List.set_append, if_neg (by simp; omega), List.length_take, Nat.min_eq_left (by omega), Nat.sub_self, List.set_cons_zero, ← List.take_append_getElem h, List.append_assoc]
  rfl

theorem str_ne {a b : ByteArray} (h : ¬ a = b) : (a.toList == b.toList) = false := by
  rw [ByteArray.toList_eq, ByteArray.toList_eq, beq_eq_false_iff_ne]
  intro he
  apply h
  cases a
  cases b
  simpa [Array.toList_inj] using he

/-- A datum that is a list of n elements. -/
def DataLen {H : Type} (d : DataW H) (n : Nat) : Prop := (d = .nil ∧ n = 0) ∨ ∃ es rs, d = .slice es rs ∧ es.length = n

theorem fillPoint_any (w : World) :
    Calls Try.prog 71 #[] w fun e w' => e = .returned (.agg #[.int .i64 (-7000000000000000101), .int .i64 (-7000000000000000101)]) ∧ Below w.heap.size w w' := by
  go_enter Try.func71, Try.ntmps71
  go_wp2
  go_returns
  exact ⟨rfl, by go_grown⟩

/-- The block of a slice. -/
def blkOf : Value → Nat
  | .slice (some a) _ _ => a.block
  | _ => 0

theorem set_mid {α : Type} (T : List α) (z p : α) (m : Nat) : (T ++ List.replicate (m + 1) z).set T.length p = (T ++ [p]) ++ List.replicate m z := by
  rw [List.set_append_right _ _ (Nat.le_refl _), Nat.sub_self, List.replicate_succ, List.set_cons_zero, List.append_assoc]
  rfl

def blkLt (c c' : Value) : Prop := blkOf c < blkOf c'

/-- The first place at which p holds; -1 if there is none. -/
def idxL {α : Type} (p : α → Bool) (zs : List α) : Int := if zs.findIdx p < zs.length then (zs.findIdx p : Int) else -1

theorem idxL_is {α : Type} {p : α → Bool} {zs : List α} {k : Nat} (h : k < zs.length) (hk : p zs[k] = true) (hb : ∀ j (hj : j < zs.length), j < k → p zs[j] = false) : idxL p zs = (k : Int) := by
  unfold idxL
  have e : zs.findIdx p = k := by
    rw [List.findIdx_eq h]
    exact ⟨hk, fun j hj => hb j (by omega) hj⟩
  rw [e, if_pos h]

theorem idxL_none {α : Type} {p : α → Bool} {zs : List α} (hb : ∀ j (hj : j < zs.length), p zs[j] = false) : idxL p zs = -1 := by
  unfold idxL
  have e : zs.findIdx p = zs.length := by
    rw [List.findIdx_eq_length]
    intro x hx
    obtain ⟨i, hi, rfl⟩ := List.mem_iff_getElem.1 hx
    exact hb i hi
  rw [e, if_neg (by omega)]

theorem idxL_any {α : Type} (p : α → Bool) (zs : List α) : decide (0 ≤ idxL p zs) = zs.any p := by
  unfold idxL
  by_cases h : zs.findIdx p < zs.length
  · rw [if_pos h]
    have := List.findIdx_lt_length.1 h
    simp
    obtain ⟨x, hx, hp⟩ := this
    exact ⟨x, hx, hp⟩
  · rw [if_neg h]
    have : ¬ ∃ x ∈ zs, p x = true := fun hx => h (List.findIdx_lt_length.2 hx)
    simp at this ⊢
    exact this

theorem idxL_bd {α : Type} (p : α → Bool) (zs : List α) : -1 ≤ idxL p zs ∧ idxL p zs ≤ zs.length := by
  unfold idxL
  split <;> omega

theorem validHeight_any (h : Int) (w : World) :
    Calls Try.prog 76 #[.int .i64 h] w fun e w' => e = .returned (.bool (inB h 0 2000)) ∧ w = w' := by
  unfold inB
  by_cases h1 : 0 ≤ h <;> by_cases h2 : h ≤ 2000 <;>
  · go_enter Try.func76, Try.ntmps76
    go_wp2
    go_ret
    exact ⟨by simp [*], rfl⟩

/-- The indices below n that are wanted. -/
def idxsL (p : Nat → Bool) : Nat → List Int
  | 0 => []
  | n + 1 => if p n then idxsL p n ++ [(n : Int)] else idxsL p n

theorem idxsL_len (p : Nat → Bool) (n : Nat) : (idxsL p n).length ≤ n := by
  induction n with
  | zero => simp [idxsL]
  | succ n ih =>
    unfold idxsL
    split
    · simp; omega
    · omega

theorem RowI_lo {w : World} {lo lo' hi hi' : Nat} {v : Value} {zs : List Int} (h : RowI w lo hi v zs) (hl : lo' ≤ lo) (hh : hi ≤ hi') : RowI w lo' hi' v zs :=
  ⟨Joins.ownsRow_le h.1 hl, fun g hg => ⟨by have := (h.2 g hg).1; omega, by have := (h.2 g hg).2; omega⟩⟩

theorem RowI_new (w : World) : RowI (w.alloc (.cells #[] 2)) w.heap.size (w.alloc (.cells #[] 2)).heap.size (.slice (some ⟨w.heap.size, 0, none⟩) 0 0) [] :=
  ⟨World.ownsRow_lit w #[] 0 (Nat.le_refl _) (by decide) (by rfl), fun g hg => by simp [Value.ownBlock] at hg; subst hg; simp⟩

theorem RdI_of (w : World) (g c : Nat) (zs : List Int) (hl : zs.length ≤ 9223372036854775807) (hg : g < w.heap.size) (hc : ∀ k, (hk : k < zs.length) → w.cell? ⟨g, k, none⟩ = some (.int .i64 zs[k])) : RdI w (.slice (some ⟨g, 0, none⟩) zs.length c) zs :=
  ⟨hl, _, _, rfl, fun k hk => ⟨g, 0, rfl, hg, by rw [Nat.zero_add]; exact hc k hk⟩⟩

theorem rdI1 {w : World} {g c : Nat} {x : Int} (hg : g < w.heap.size) (h0 : w.cell? ⟨g, 0, none⟩ = some (.int .i64 x)) : RdI w (.slice (some ⟨g, 0, none⟩) 1 c) [x] :=
  RdI_of w g c [x] (by simp) hg (fun k hk => by simp at hk; subst hk; exact h0)

set_option maxRecDepth 100000 in
theorem indexFuncI_any (v : Value) (zs : List Int) (g : FuncId) (he : Enters Try.prog g) (cap : Array Value) (p : Int → Bool) (w : World) (h : RdI w v zs)
    (hf : ∀ k (hk : k < zs.length) w1, Below w.heap.size w w1 → Calls Try.prog g (#[.int .i64 zs[k]] ++ cap) w1 fun e w2 => e = .returned (.bool (p zs[k])) ∧ Below w1.heap.size w1 w2) :
    Calls Try.prog 116 #[v, .func (.func g) #[] cap] w fun e w' => e = .returned (.int .i64 (idxL p zs)) ∧ Below w.heap.size w w' := by
  obtain ⟨hl, A, c, rfl, r1⟩ := h
  have R := Lib.hid r1; clear r1
  have Hf := Lib.hid hf; clear hf
  have HIS := Lib.hid (fun k (h : k < zs.length) => @idxL_is _ p zs k h)
  have HNO := Lib.hid (@idxL_none _ p zs)
  generalize idxL p zs = G at *
  go_enter Try.func116, Try.ntmps116
  go_wp2_with fail
  go_loopw [8] (fun i wr => ∃ k : Nat, k ≤ zs.length ∧ i = .int .i64 k ∧ (∀ j (hj : j < zs.length), j < k → p zs[j] = false) ∧ Below w.heap.size w wr) (fun i _ => zs.length - (intOf i).toNat)
  case atStart => exact ⟨0, by omega, rfl, fun j _ h => by omega, Below.refl _ _⟩
  case round =>
    obtain ⟨k, hk, rfl, hall, hb⟩ := hrel
    by_cases hlt : k < zs.length
    · obtain ⟨b, off, rfl, hbl, hc0⟩ := R.out k hlt
      rw [← kept_cell hb b _ hbl] at hc0
      have hc := Hf.out k hlt wr hb
      cases hp : p zs[k]
      · have hnx : ∀ j (hj : j < zs.length), j < k + 1 → p zs[j] = false := fun j hj hjk => by
          rcases Nat.lt_or_ge j k with h1 | h1
          · exact hall j hj h1
          · obtain rfl : j = k := by omega
            exact hp
        rw [hp] at hc
        have HNX := Lib.hid hnx; clear hnx hall hp
        have Hc := Lib.hid hc; clear hc
        generalize zs[k] = x at *
        go_wp2_with fail
        rw [he, Oper.upon_enter]
        refine Hc.out.mono ?_
        rintro e w1 ⟨rfl, hb1⟩
        go_wp2
        go_roundw
        case rel => exact ⟨k + 1, by omega, by go_num, HNX.out, kept_trans hb hb1⟩
        case measure => simp [intOf]; omega
      · have hE := HIS.out k hlt hp hall
        subst hE
        rw [hp] at hc
        have Hc := Lib.hid hc; clear hc hall hp
        generalize zs[k] = x at *
        go_wp2_with fail
        rw [he, Oper.upon_enter]
        refine Hc.out.mono ?_
        rintro e w1 ⟨rfl, hb1⟩
        go_wp2
        go_ret
        exact ⟨rfl, kept_trans hb hb1⟩
    · have : k = zs.length := by omega
      subst this
      have hE := HNO.out (fun j hj => hall j hj hj)
      clear hall
      subst hE
      go_wp2
      go_ret
      exact ⟨rfl, hb⟩

theorem containsFuncI_any (v : Value) (zs : List Int) (g : FuncId) (he : Enters Try.prog g) (cap : Array Value) (p : Int → Bool) (w : World) (h : RdI w v zs)
    (hf : ∀ k (hk : k < zs.length) w1, Below w.heap.size w w1 → Calls Try.prog g (#[.int .i64 zs[k]] ++ cap) w1 fun e w2 => e = .returned (.bool (p zs[k])) ∧ Below w1.heap.size w1 w2) :
    Calls Try.prog 103 #[v, .func (.func g) #[] cap] w fun e w' => e = .returned (.bool (zs.any p)) ∧ Below w.heap.size w w' := by
  have H := Lib.hid (indexFuncI_any v zs g he cap p w h hf)
  obtain ⟨hl, A, c, rfl, r1⟩ := h
  clear hf r1
  have hbd := idxL_bd p zs
  rw [← idxL_any]
  generalize idxL p zs = G at *
  go_enter Try.func103, Try.ntmps103
  go_wp2_with fail
  refine H.out.mono ?_
  rintro e w1 ⟨rfl, hb1⟩
  go_wp2
  go_ret
  exact ⟨rfl, hb1⟩

theorem outside_any (n lo hi : Int) (b1 b2 : Nat) (w : World) (h1 : w.cell? ⟨b1, 0, none⟩ = some (.int .i64 lo)) (h2 : w.cell? ⟨b2, 0, none⟩ = some (.int .i64 hi)) :
    Calls Try.prog 104 #[.int .i64 n, .pointer (some ⟨b1, 0, none⟩), .pointer (some ⟨b2, 0, none⟩)] w fun e w' => e = .returned (.bool (!inB n lo hi)) ∧ Below w.heap.size w w' := by
  unfold inB
  by_cases g1 : lo ≤ n <;> by_cases g2 : n ≤ hi
  all_goals
    go_enter Try.func104, Try.ntmps104
    go_wp2
    go_ret
    exact ⟨by simp [*], Below.refl _ _⟩

theorem within_any (lo hi : Int) (v : Value) (zs : List Int) (w : World) (h : RdI w v zs) :
    Calls Try.prog 74 #[.int .i64 lo, .int .i64 hi, v] w fun e w' => e = .returned (.bool (zs.all fun n => inB n lo hi)) ∧ Below w.heap.size w w' := by
  have hall : (zs.all fun n => inB n lo hi) = !(zs.any fun n => !inB n lo hi) := by simp [List.any_eq_not_all_not]
  rw [hall]
  clear hall
  have HC := Lib.hid (fun u (q : RdI u v zs) b1 b2 (l1 : b1 < u.heap.size) (l2 : b2 < u.heap.size) (c1 : u.cell? ⟨b1, 0, none⟩ = some (.int .i64 lo)) (c2 : u.cell? ⟨b2, 0, none⟩ = some (.int .i64 hi)) =>
    containsFuncI_any v zs 104 (enters_of Try.func104 (by kernel_rfl) rfl) #[.pointer (some ⟨b1, 0, none⟩), .pointer (some ⟨b2, 0, none⟩)] (fun n => !inB n lo hi) u q
      (fun k hk w1 hb => outside_any zs[k] lo hi b1 b2 w1 (by rw [kept_cell hb b1 0 l1]; exact c1) (by rw [kept_cell hb b2 0 l2]; exact c2)))
  obtain ⟨hl, A, c, rfl, r1⟩ := h
  have H := Lib.hid (show RdI w (.slice A zs.length c) zs from ⟨hl, A, c, rfl, r1⟩); clear r1
  generalize (zs.any fun n => !inB n lo hi) = X at *
  have hmf : ∀ (fn : Fn) (first cap : Array Value) (w : World), (Instr.makeFunc fn first cap).run Try.prog w = .ok (.func fn first cap) w := fun _ _ _ _ => rfl
  go_enter Try.func74, Try.ntmps74
  go_wp2_with fail
  refine (HC.out _ (RdI_kept H.out (by go_grown)) w.heap.size (w.heap.size + 1) (by simp; try omega) (by simp) (by simp) (by simp)).mono ?_
  rintro e w1 ⟨rfl, hb1⟩
  have b1 := kept_trans (a := w) (by go_grown) hb1
  go_wp2
  go_ret
  exact ⟨rfl, b1⟩

/-- A world in which all that was there in W stands as it was. -/
structure BelowBy (W : World) where
  w : World
  h : Below W.heap.size W w
instance belowBy_some (W : World) : Inhabited (BelowBy W) := ⟨⟨W, Below.refl _ _⟩⟩

/-- A region that draws its order, whose operations only read and whose callees only make memory: walked once. -/
theorem wp_region_below {P : Program} {id : Nat} {Q : Exit → Act → World → Prop} {a : Act} {w : World} {l : List Oper} (hm : P.follows .mixedOrders = true) (hB : Region.lexB .any l.toArray = true)
    (h : wpQuiet P l.toArray (fun w' => ∃ p : BelowBy w, w' = p.w) (fun a' => ∀ w', (∃ p : BelowBy w, w' = p.w) → Q .normal a' w') l a) : (Code.region id l.toArray true).wp P Q a w :=
  wp_region_quiet (C := fun w' => ∃ p : BelowBy w, w' = p.w) hm hB ⟨⟨{ w with drawn := w.drawn + 1 }, ⟨rfl, rfl, rfl, Nat.le_refl _, fun _ _ => rfl⟩⟩, rfl⟩ (by simpa using h)

theorem below_call {P : Program} {f : FuncId} {args : Array Value} {W : World} {x : BelowBy W} {v : Value}
    (h : Below W.heap.size W x.w → Calls P f args x.w fun e w' => e = .returned v ∧ Below x.w.heap.size x.w w') : Calls P f args x.w fun e w'' => e = .returned v ∧ ∃ p : BelowBy W, w'' = p.w :=
  (h x.h).mono fun _ w' ⟨he, hb⟩ => ⟨he, ⟨w', kept_trans x.h hb⟩, rfl⟩

theorem idxsL_mem (p : Nat → Bool) (n : Nat) : ∀ i ∈ idxsL p n, ∃ k : Nat, i = (k : Int) ∧ k < n ∧ p k = true := by
  induction n with
  | zero => intro i hi; simp [idxsL] at hi
  | succ n ih =>
    intro i hi
    unfold idxsL at hi
    cases hp : p n
    · rw [hp] at hi
      obtain ⟨k, e, hk, hpk⟩ := ih i (by simpa using hi)
      exact ⟨k, e, by omega, hpk⟩
    · rw [hp] at hi
      simp only [if_true, List.mem_append, List.mem_singleton] at hi
      rcases hi with hi | hi
      · obtain ⟨k, e, hk, hpk⟩ := ih i hi
        exact ⟨k, e, by omega, hpk⟩
      · exact ⟨n, hi, by omega, hp⟩

theorem rdI0' (w : World) : RdI w (.slice none 0 0) [] := ⟨by simp, none, 0, rfl, fun k hk => by simp at hk⟩

def fillI : Int := -7000000000000000101

def copyI (zs : List Int) : List Int := zs ++ List.replicate (roomL zs.length) fillI

theorem copyI_len (zs : List Int) : (copyI zs).length = zs.length + roomL zs.length := by simp [copyI]

theorem copyI_at (zs : List Int) (j : Nat) : (h : j < zs.length) → (copyI zs)[j]'(by rw [copyI_len]; omega) = zs[j] := by
  intro h
  simp [copyI, h]

theorem copyI_fill (zs : List Int) (j : Nat) (h : zs.length ≤ j) : (h2 : j < (copyI zs).length) → (copyI zs)[j] = fillI := by
  intro h2
  simp [copyI, h]

/-- A copy of a list of numbers that the law made. -/
def CopyI (w : World) (lo hi : Nat) (v : Value) (zs : List Int) : Prop :=
  zs.length ≤ 1000000 ∧ ∃ g, v = .slice (some ⟨g, 0, none⟩) zs.length (copyI zs).length ∧ RowI w lo hi (.slice (some ⟨g, 0, none⟩) (copyI zs).length (copyI zs).length) (copyI zs)

theorem CopyI_kept {W w1 : World} {lo hi : Nat} {v : Value} {zs : List Int} (h : CopyI W lo hi v zs) (hb : Below W.heap.size W w1) : CopyI w1 lo hi v zs := by
  obtain ⟨hl, g, e, hr⟩ := h
  exact ⟨hl, g, e, RowI_kept hr hb⟩

theorem CopyI_rd {w : World} {lo hi : Nat} {v : Value} {zs : List Int} (h : CopyI w lo hi v zs) : RdI w v zs := by
  obtain ⟨hl, g, rfl, hr⟩ := h
  obtain ⟨h1, A, c, e, h2⟩ := RowI_rd hr
  injection e with e1 e2 e3
  subst e1
  refine ⟨by omega, _, _, rfl, fun k hk => ?_⟩
  obtain ⟨b, off, e4, h3, h4⟩ := h2 k (by rw [copyI_len]; omega)
  refine ⟨b, off, e4, h3, ?_⟩
  rw [h4]
  simp [copyI, hk]

theorem make_i64s (n : Nat) (h : n ≤ 4000000) (w : World) :
    (Instr.makeSlice 25 (.int .i64 (n : Int)) (.int .i64 (n : Int))).run Try.prog w = .ok (.slice (some ⟨w.heap.size, 0, none⟩) n n) (w.alloc (.cells (madeCells #[.int .i64 0] (n * 1)) 2)) := by
  obtain ⟨i, hi, hz, hs, hb⟩ := info_parts info_int64
  have hb' : (i.bytes : Int) * (n : Int) ≤ 281474976710656 := by rw [hb]; omega
  have hr := run_make (P := Try.prog) w 25 2 i (.int .i64 0) Try.underlying25 hi hz .i64 .i64 n n (by omega) (Int.le_refl _) hb' (by omega)
  simp only [Int.toNat_natCast, hs] at hr
  exact hr

theorem madeI_flat (n : Nat) : (madeCells #[.int .i64 0] (n * 1)).toList = (List.replicate n (0 : Int)).map (Value.int .i64) := by
  apply List.ext_getElem?
  intro j
  by_cases hj : j < n
  · simp [madeCells, hj, Nat.mod_one]
  · rw [List.getElem?_eq_none (by rw [Array.length_toList, size_madeCells]; omega), List.getElem?_eq_none (by simp; omega)]

set_option maxHeartbeats 1000000 in
theorem toI_row (v : Value) (zs : List Int) (bare : Bool) (w : World) (h : RdI w v zs) (hn : zs.length ≤ 1000000) (hbare : bare = false ∨ zs ≠ []) :
    Calls Try.prog 39 #[v, .bool bare] w fun e w' => ∃ v', e = .returned v' ∧ CopyI w' w.heap.size w'.heap.size v' zs ∧ Below w.heap.size w w' := by
  obtain ⟨hl, A, c, rfl, r1⟩ := h
  have R := Lib.hid r1; clear r1
  have hN := copyI_len zs
  have hr := roomL_le zs.length
  have hmk : ∀ w : World, (Instr.makeSlice 25 (.int .i64 ((zs.length : Int) + (roomL zs.length : Int))) (.int .i64 ((zs.length : Int) + (roomL zs.length : Int)))).run Try.prog w = .ok (.slice (some ⟨w.heap.size, 0, none⟩) (copyI zs).length (copyI zs).length) (w.alloc (.cells (madeCells #[.int .i64 0] ((copyI zs).length * 1)) 2)) := by
    intro w
    have := make_i64s (copyI zs).length (by omega) w
    rwa [show (((copyI zs).length : Nat) : Int) = (zs.length : Int) + (roomL zs.length : Int) by omega] at this
  have hcap : (copyI zs).length ≤ maxLen := by unfold maxLen; omega
  have hrow0 : ∀ wa : World, w.heap.size ≤ wa.heap.size → (wa.alloc (.cells (madeCells #[.int .i64 0] ((copyI zs).length * 1)) 2)).ownsRow w.heap.size 2 1 (.slice (some ⟨wa.heap.size, 0, none⟩) (copyI zs).length (copyI zs).length) (copyI zs).length (((copyI zs).take 0 ++ List.replicate ((copyI zs).length - 0) 0).map (Value.int .i64)) := by
    intro wa hwa
    have := World.ownsRow_lit wa (e := 2) (size := 1) (madeCells #[.int .i64 0] ((copyI zs).length * 1)) (copyI zs).length hwa hcap (size_madeCells _ _)
    rw [madeI_flat] at this
    simpa using this
  have Hrow := Lib.hid hrow0; clear hrow0
  have hb0 : bare = true → ((zs.length : Int) == 0) = false := by
    intro hb
    have : zs.length ≠ 0 := fun h => by
      rcases hbare with h1 | h1
      · rw [hb] at h1; cases h1
      · exact h1 (List.eq_nil_of_length_eq_zero h)
    simpa using this
  clear hbare
  generalize hNN : (copyI zs).length = N at *
  have HNN := Lib.hid hNN; clear hNN
  have hNb : N ≤ 2000002 ∧ zs.length ≤ N := by omega
  have HN := Lib.hid hN; clear hN
  cases bare
  all_goals
    have hbn := hb0
    simp only [forall_const, reduceCtorEq, false_implies, Bool.false_eq_true] at hbn
    clear hb0
    go_enter Try.func39, Try.ntmps39
    go_wp2_with (go_at_call 36; refine (room_any _ (by omega) _).mono ?_; rintro e w1 ⟨rfl, rfl⟩)
    go_loopw [6] (fun i wr => ∃ j : Nat, j ≤ zs.length ∧ i = .int .i64 j ∧ wr.ownsRow w.heap.size 2 1 (.slice (some ⟨w.heap.size, 0, none⟩) N N) N (((copyI zs).take j ++ List.replicate (N - j) 0).map (Value.int .i64)) ∧ Below w.heap.size w wr) (fun i _ => zs.length - (intOf i).toNat)
    case atStart => exact ⟨0, by omega, rfl, by have := Hrow.out w (Nat.le_refl _); rw [Nat.mul_one] at this; exact this, by go_grown⟩
    case round =>
      obtain ⟨j, hj, rfl, hown, hb⟩ := hrel
      have hsz := hb.size
      by_cases hlt : j < zs.length
      · obtain ⟨b, off, rfl, hbl, hc0⟩ := R.out j hlt
        rw [← kept_cell hb b _ hbl] at hc0
        have hstep := fill_step (copyI zs) (0 : Int) j (by rw [HNN.out]; omega)
        rw [copyI_at zs j hlt, HNN.out] at hstep
        generalize zs[j] = z at *
        have hlen : (((copyI zs).take j ++ List.replicate (N - j) 0).map (Value.int .i64)).length = N * 1 := hown.1
        obtain ⟨u0, hu0⟩ : ∃ u, wr.cell? ⟨w.heap.size, j, none⟩ = some u := by
          rw [hown.cellAt _ (by omega)]
          exact ⟨_, List.getElem?_eq_getElem (by omega)⟩
        have hz0 := hown.frozenAt j
        have hs0 := hown.stored j (.int .i64 z)
        rw [← List.map_set, hstep] at hs0
        have Hs := Lib.hid hs0.1
        have Hg := Lib.hid hs0.2
        clear hs0 hstep hown hlen
        go_wp2
        go_roundw
        case rel => exact ⟨j + 1, by omega, by go_num, Hs.out, grown_below hb Hg.out (fun g hg => by simp at hg; omega)⟩
        case measure => simp [intOf]; omega
      · have : j = zs.length := by omega
        subst this
        go_wp2_with fail
        go_loopw [7] (fun i wr => ∃ j : Nat, zs.length ≤ j ∧ j ≤ N ∧ i = .int .i64 j ∧ wr.ownsRow w.heap.size 2 1 (.slice (some ⟨w.heap.size, 0, none⟩) N N) N (((copyI zs).take j ++ List.replicate (N - j) 0).map (Value.int .i64)) ∧ Below w.heap.size w wr) (fun i _ => N - (intOf i).toNat)
        case atStart => exact ⟨zs.length, by omega, by omega, rfl, hown, hb⟩
        case round =>
          obtain ⟨j, hj0, hj, rfl, hown, hb⟩ := hrel
          have hsz := hb.size
          by_cases hlt : j < N
          · have hstep := fill_step (copyI zs) (0 : Int) j (by rw [HNN.out]; omega)
            rw [copyI_fill zs j hj0 (by rw [HNN.out]; omega), HNN.out] at hstep
            have hlen : (((copyI zs).take j ++ List.replicate (N - j) 0).map (Value.int .i64)).length = N * 1 := hown.1
            obtain ⟨u0, hu0⟩ : ∃ u, wr.cell? ⟨w.heap.size, j, none⟩ = some u := by
              rw [hown.cellAt _ (by omega)]
              exact ⟨_, List.getElem?_eq_getElem (by omega)⟩
            have hz0 := hown.frozenAt j
            have hs0 := hown.stored j (.int .i64 fillI)
            rw [← List.map_set, hstep] at hs0
            have Hs := Lib.hid hs0.1
            have Hg := Lib.hid hs0.2
            clear hs0 hstep hown hlen
            go_wp2
            go_roundw
            case rel => exact ⟨j + 1, by omega, by omega, by go_num, Hs.out, grown_below hb Hg.out (fun g hg => by simp at hg; omega)⟩
            case measure => simp [intOf]; omega
          · have : j = N := by omega
            subst this
            have Hown := Lib.hid hown; clear hown
            go_wp2
            go_ret
            have hT : (copyI zs).take j ++ List.replicate (j - j) 0 = copyI zs := by rw [List.take_of_length_le (by rw [HNN.out]; exact Nat.le_refl _)]; simp
            refine ⟨_, rfl, ⟨hn, w.heap.size, by rw [HNN.out]; rfl, ?_⟩, hb⟩
            have hO := Hown.out
            rw [hT] at hO
            unfold RowI
            rw [HNN.out]
            exact ⟨hO, fun g hg => by simp [Value.ownBlock] at hg; subst hg; exact ⟨Nat.le_refl _, (hO.lt _ rfl).2⟩⟩

theorem toI_false (v : Value) (zs : List Int) (w : World) (h : RdI w v zs) (hn : zs.length ≤ 1000000) :
    Calls Try.prog 39 #[v, .bool false] w fun e w' => ∃ v', e = .returned v' ∧ CopyI w' w.heap.size w'.heap.size v' zs ∧ Below w.heap.size w w' := toI_row v zs false w h hn (Or.inl rfl)

theorem intactI_same (v1 v2 : Value) (zs : List Int) (lo1 hi1 lo2 hi2 : Nat) (w : World) (h1 : CopyI w lo1 hi1 v1 zs) (h2 : CopyI w lo2 hi2 v2 zs) :
    Calls Try.prog 47 #[v1, v2] w fun e w' => e = .returned (.bool true) ∧ Below w.heap.size w w' := by
  obtain ⟨hn, g1, rfl, r1⟩ := h1
  obtain ⟨_, g2, rfl, r2⟩ := h2
  have q1 : RdI w _ (copyI zs) := RowI_rd r1
  have q2 : RdI w _ (copyI zs) := RowI_rd r2
  clear r1 r2
  have hN := copyI_len zs
  have hr := roomL_le zs.length
  generalize hT : copyI zs = T at *
  clear hT
  have Q1 := Lib.hid q1; clear q1
  have Q2 := Lib.hid q2; clear q2
  generalize hTl : T.length = N at *
  have hN' : (zs.length : Int) + (roomL zs.length : Int) = (N : Int) := by omega
  have hcap : zs.length ≤ N := by omega
  clear hN
  go_enter Try.func47, Try.ntmps47
  go_wp2_with (go_at_call 36; refine (room_any _ (by omega) _).mono ?_; rintro e w1 ⟨rfl, rfl⟩)
  go_region_held3 (fun _ => True) (trivial)
    ((go_at_call 80; refine (eqInts_same _ _ T _ (by exact Q1.out) (by exact Q2.out)).mono ?_; rintro e w1 ⟨rfl, hb1⟩; replace hb1 := kept_trans (a := w) (by go_grown) hb1))
  go_wp2
  go_ret
  exact ⟨rfl, by assumption⟩

theorem RdI_slice {w : World} {v : Value} {zs : List Int} (h : RdI w v zs) : ∃ A c, v = .slice A zs.length c ∧ zs.length ≤ 9223372036854775807 ∧
    ∀ k, (hk : k < zs.length) → ∃ b off, A = some ⟨b, off, none⟩ ∧ b < w.heap.size ∧ w.cell? ⟨b, off + k, none⟩ = some (.int .i64 zs[k]) := by
  obtain ⟨hl, A, c, rfl, hr⟩ := h
  exact ⟨A, c, rfl, hl, hr⟩

theorem RowI_set {w : World} {lo hi b o : Nat} {v u : Value} {zs : List Int} (h : RowI w lo hi v zs) (hb : b < lo) : RowI (w.setCell ⟨b, o, none⟩ u) lo hi v zs :=
  RowI_far h (grown_set _ _ _) (fun g hg => by simp at hg; omega)

theorem CopyI_row {w : World} {lo hi : Nat} {v : Value} {zs : List Int} (h : CopyI w lo hi v zs) : RowI w lo hi v zs := by
  obtain ⟨hl, g, rfl, hr⟩ := h
  have hF : RowF 2 1 w lo hi (.slice (some ⟨g, 0, none⟩) (copyI zs).length (copyI zs).length) (copyI zs).length ((copyI zs).map (Value.int .i64)) := hr
  have := RowF_short hF (n := zs.length) (by rw [copyI_len]; omega)
  have e : ((copyI zs).map (Value.int .i64)).take (zs.length * 1) = zs.map (Value.int .i64) := by
    rw [Nat.mul_one, ← List.map_take]
    simp [copyI]
  rw [e] at this
  exact this

theorem CopyI_set {w : World} {lo hi b o : Nat} {v u : Value} {zs : List Int} (h : CopyI w lo hi v zs) (hb : b < lo) : CopyI (w.setCell ⟨b, o, none⟩ u) lo hi v zs := by
  obtain ⟨hl, g, e, hr⟩ := h
  exact ⟨hl, g, e, RowI_set hr hb⟩

theorem CopyI_lo {w : World} {lo lo' hi hi' : Nat} {v : Value} {zs : List Int} (h : CopyI w lo hi v zs) (hl : lo' ≤ lo) (hh : hi ≤ hi') : CopyI w lo' hi' v zs := by
  obtain ⟨hn, g, e, hr⟩ := h
  exact ⟨hn, g, e, RowI_lo hr hl hh⟩

/-- A lift's fields. -/
structure Lf where
  nm : ByteArray
  wt : Int
  fx : Int
  fy : Int
  tx : Int
  ty : Int
  h : Int
  dl : Int
  af : List Int

/-- A lift, cell by cell; c: the slice of what it is after. -/
def encLf (p : Lf × Value) : List Value := [.string p.1.nm, .int .i64 p.1.wt, .int .i64 p.1.fx, .int .i64 p.1.fy, .int .i64 p.1.tx, .int .i64 p.1.ty, .int .i64 p.1.h, .int .i64 p.1.dl, p.2]

def wfLf (k : Lf) : Prop := k.nm.size ≤ maxLen ∧ (Lit.int .i64 k.wt).wf = true ∧ (Lit.int .i64 k.fx).wf = true ∧ (Lit.int .i64 k.fy).wf = true ∧ (Lit.int .i64 k.tx).wf = true ∧ (Lit.int .i64 k.ty).wf = true ∧ (Lit.int .i64 k.h).wf = true ∧ (Lit.int .i64 k.dl).wf = true

def flatLf (ks : List (Lf × Value)) : List Value := ks.flatMap encLf

theorem flatLf_len (ks : List (Lf × Value)) : (flatLf ks).length = ks.length * 9 := flat_len (enc := encLf) (fun _ => rfl) ks

theorem flatLf_at (ks : List (Lf × Value)) (k j : Nat) (h : k < ks.length) (hj : j < 9) : (flatLf ks)[k * 9 + j]? = (encLf ks[k])[j]? := flat_at (enc := encLf) (sz := 9) (fun _ => rfl) ks k j h hj

/-- The slice value reads as a list of cranes: their fields and their charts' slices. -/
def RdLf (w : World) (v : Value) (ks : List (Lf × Value)) : Prop := RdF w v ks.length 9 (flatLf ks) ∧ ∀ p ∈ ks, RdI w p.2 p.1.af

theorem RdLf_kept {W w1 : World} {v : Value} {ks : List (Lf × Value)} (h : RdLf W v ks) (hb : Below W.heap.size W w1) : RdLf w1 v ks := ⟨RdF_kept h.1 hb, fun p hp => RdI_kept (h.2 p hp) hb⟩

/-- A lift lies at a place. -/
def LfAt (w : World) (b o : Nat) (k : Lf) (c : Value) : Prop :=
  b < w.heap.size ∧ (w.cell? ⟨b, o, none⟩ = some (.string k.nm) ∧ w.cell? ⟨b, o + 1, none⟩ = some (.int .i64 k.wt) ∧ w.cell? ⟨b, o + 2, none⟩ = some (.int .i64 k.fx) ∧ w.cell? ⟨b, o + 3, none⟩ = some (.int .i64 k.fy) ∧ w.cell? ⟨b, o + 4, none⟩ = some (.int .i64 k.tx) ∧ w.cell? ⟨b, o + 5, none⟩ = some (.int .i64 k.ty) ∧ w.cell? ⟨b, o + 6, none⟩ = some (.int .i64 k.h) ∧ w.cell? ⟨b, o + 7, none⟩ = some (.int .i64 k.dl) ∧ w.cell? ⟨b, o + 8, none⟩ = some c) ∧ RdI w c k.af

theorem LfAt_kept {W w1 : World} {b o : Nat} {k : Lf} {c : Value} (h : LfAt W b o k c) (hb : Below W.heap.size W w1) : LfAt w1 b o k c := by
  obtain ⟨hlt, ⟨h0, h1, h2, h3, h4, h5, h6, h9, h8⟩, hr⟩ := h
  refine ⟨Nat.lt_of_lt_of_le hlt hb.size, ⟨?_, ?_, ?_, ?_, ?_, ?_, ?_, ?_, ?_⟩, RdI_kept hr hb⟩ <;> (rw [kept_cell hb b _ hlt]; assumption)

theorem RdLf_at {w : World} {v : Value} {ks : List (Lf × Value)} (h : RdLf w v ks) : ∃ A c, v = .slice A ks.length c ∧ ks.length ≤ 9223372036854775807 ∧
    ∀ i, (hi : i < ks.length) → ∃ b off, A = some ⟨b, off, none⟩ ∧ LfAt w b (off + i * 9) ks[i].1 ks[i].2 := by
  obtain ⟨⟨hl, hx, A, c, rfl, hr⟩, hcs⟩ := h
  refine ⟨A, c, rfl, hl, fun i hi => ?_⟩
  obtain ⟨b, off, rfl, hlt, h0⟩ := hr (i * 9) (by omega)
  have at_ : ∀ j, j < 9 → w.cell? ⟨b, off + (i * 9 + j), none⟩ = (encLf ks[i])[j]? := by
    intro j hj
    obtain ⟨b', off', e, _, h1⟩ := hr (i * 9 + j) (by omega)
    simp only [Option.some.injEq, Addr.mk.injEq, and_true] at e
    obtain ⟨rfl, rfl⟩ := e
    rw [h1, flatLf_at ks i j hi hj]
  refine ⟨b, off, rfl, hlt, ⟨?_, ?_, ?_, ?_, ?_, ?_, ?_, ?_, ?_⟩, hcs _ (List.getElem_mem hi)⟩
  · exact at_ 0 (by omega)
  · exact at_ 1 (by omega)
  · exact at_ 2 (by omega)
  · exact at_ 3 (by omega)
  · exact at_ 4 (by omega)
  · exact at_ 5 (by omega)
  · exact at_ 6 (by omega)
  · exact at_ 7 (by omega)
  · exact at_ 8 (by omega)

/-- What is left of a measure behind a lift; less than 0: too much. -/
def szLf (k : Lf) (left : Int) : Int := if (k.nm.size : Int) + (k.af.length : Int) ≤ left then left - k.nm.size - k.af.length else -1

theorem szI_any (A : Option Addr) (n c : Nat) (left : Int) (h : -9223372036854775808 ≤ left - n ∧ left ≤ 1000000) (hn : n ≤ 9223372036854775807) (w : World) :
    Calls Try.prog 31 #[.slice A n c, .int .i64 left] w fun e w' => e = .returned (.int .i64 (if (n : Int) ≤ left then left - n else -1)) ∧ w = w' := by
  by_cases h1 : (n : Int) ≤ left
  · rw [if_pos h1]
    go_enter Try.func31, Try.ntmps31
    go_wp2
    go_ret
    exact ⟨rfl, rfl⟩
  · rw [if_neg h1]
    go_enter Try.func31, Try.ntmps31
    go_wp2
    go_ret
    exact ⟨rfl, rfl⟩

theorem szLf_any (k : Lf) (c : Value) (left : Int) (h : 0 ≤ left ∧ left ≤ 1000000) (hs : k.nm.size ≤ maxLen) (w : World) (hr : RdI w c k.af) :
    Calls Try.prog 9 #[.agg #[.string k.nm, .int .i64 k.wt, .int .i64 k.fx, .int .i64 k.fy, .int .i64 k.tx, .int .i64 k.ty, .int .i64 k.h, .int .i64 k.dl, c], .int .i64 left] w fun e w' => e = .returned (.int .i64 (szLf k left)) ∧ Below w.heap.size w w' := by
  obtain ⟨A, cp, rfl, hl, _⟩ := RdI_slice hr
  clear hr
  unfold maxLen at hs
  unfold szLf
  obtain ⟨s, i1, i2, i3, i4, i5, i6, i7, zs⟩ := k
  dsimp only at *
  by_cases h1 : left < (s.size : Int)
  · rw [if_neg (by omega)]
    go_enter Try.func9, Try.ntmps9
    go_wp2
    go_ret
    exact ⟨rfl, by go_grown⟩
  · by_cases h2 : (s.size : Int) + (zs.length : Int) ≤ left
    · rw [if_pos h2]
      have e : (if (zs.length : Int) ≤ left - s.size then left - s.size - zs.length else -1) = left - s.size - zs.length := if_pos (by omega)
      go_enter Try.func9, Try.ntmps9
      go_wp2_with (go_at_call 31; refine ((szI_any _ _ _ _ (by omega) (by omega) _)).mono ?_; rintro e w1 ⟨rfl, rfl⟩)
      go_ret
      exact ⟨rfl, by go_grown⟩
    · rw [if_neg h2]
      go_enter Try.func9, Try.ntmps9
      go_wp2_with (go_at_call 31; refine ((szI_any _ _ _ _ (by omega) (by omega) _)).mono ?_; rintro e w1 ⟨rfl, rfl⟩)
      go_ret
      exact ⟨rfl, by go_grown⟩

/-- The measure of a list of cranes, beside its length. -/
def totLf : List (Lf × Value) → Nat
  | [] => 0
  | p :: ks => p.1.nm.size + p.1.af.length + totLf ks

theorem totLf_step (ks : List (Lf × Value)) (i : Nat) (h : i < ks.length) : totLf (ks.drop i) = ks[i].1.nm.size + ks[i].1.af.length + totLf (ks.drop (i + 1)) := by
  rw [List.drop_eq_getElem_cons h]
  rfl

theorem szLfs_any (v : Value) (ks : List (Lf × Value)) (left : Int) (w : World) (h : RdLf w v ks) (hl : 0 ≤ left ∧ left ≤ 1000000) (hw : ∀ p ∈ ks, wfLf p.1) :
    Calls Try.prog 8 #[v, .int .i64 left] w fun e w' => e = .returned (.int .i64 (if (ks.length : Int) + totLf ks ≤ left then left - ks.length - totLf ks else -1)) ∧ Below w.heap.size w w' := by
  obtain ⟨A, c, rfl, hln, r⟩ := RdLf_at h
  clear h
  by_cases h1 : left < (ks.length : Int)
  · rw [if_neg (by omega)]
    go_enter Try.func8, Try.ntmps8
    go_wp2
    go_ret
    exact ⟨rfl, Below.refl _ _⟩
  have R := Lib.hid r; clear r
  have HW := Lib.hid hw; clear hw
  have HS := Lib.hid (fun i (hi : i < ks.length) => totLf_step ks i hi)
  have hd0 : totLf (ks.drop 0) = totLf ks := by simp
  have hdn : totLf (ks.drop ks.length) = 0 := by simp [totLf]
  have HD0 := Lib.hid hd0; clear hd0
  have HDN := Lib.hid hdn; clear hdn
  go_enter Try.func8, Try.ntmps8
  go_wp2_with fail
  go_loopw [1, 5] (fun q i wr => ∃ (j : Nat) (l : Int), j ≤ ks.length ∧ i = .int .i64 j ∧ q = .int .i64 l ∧ 0 ≤ l ∧ l ≤ 1000000 ∧ l - totLf (ks.drop j) = left - ks.length - totLf ks ∧ Below w.heap.size w wr) (fun _ i _ => ks.length - (intOf i).toNat)
  case atStart => exact ⟨0, left - ks.length, by omega, rfl, by simp [IntWalk.i64_in, IntWalk.wrap64_in, *] <;> omega, by omega, by omega, by rw [HD0.out], Below.refl _ _⟩
  case round =>
    obtain ⟨j, l, hj, rfl, rfl, h0, h1, heq, hb⟩ := hrel
    by_cases hlt : j < ks.length
    · obtain ⟨b, off, rfl, hk⟩ := R.out j hlt
      have hs := HS.out j hlt
      have hwk := (HW.out ks[j] (List.getElem_mem hlt)).1
      have hk := LfAt_kept hk hb
      generalize ks[j].1 = k at *
      generalize ks[j].2 = cv at *
      obtain ⟨hlb, ⟨c0, c1, c2, c3, c4, c5, c6, c7, c8⟩, hr⟩ := hk
      obtain ⟨A2, cp2, rfl, _, _⟩ := RdI_slice hr
      have HZ := Lib.hid (szLf_any k (.slice A2 k.af.length cp2) l ⟨h0, h1⟩ hwk wr hr)
      clear hr
      have hszk : szLf k l = if (k.nm.size : Int) + (k.af.length : Int) ≤ l then l - k.nm.size - k.af.length else -1 := rfl
      generalize szLf k l = z at *
      by_cases hz : (k.nm.size : Int) + (k.af.length : Int) ≤ l
      · rw [if_pos hz] at hszk
        have hz0 : ¬ z < 0 := by omega
        go_wp2_with fail
        refine HZ.out.mono ?_
        rintro e w1 ⟨rfl, hb1⟩
        go_wp2
        go_roundw
        case rel => exact ⟨j + 1, _, by omega, by go_num, rfl, by omega, by omega, by omega, kept_trans hb hb1⟩
        case measure => simp [intOf]; omega
      · rw [if_neg hz] at hszk
        subst hszk
        go_wp2_with fail
        refine HZ.out.mono ?_
        rintro e w1 ⟨rfl, hb1⟩
        go_wp2
        go_ret
        exact ⟨by first | rfl | rw [if_neg (by omega)], kept_trans hb hb1⟩
    · have : j = ks.length := by omega
      subst this
      rw [HDN.out] at heq
      go_wp2
      go_ret
      have hE : (if (ks.length : Int) + (totLf ks : Nat) ≤ left then left - (ks.length : Int) - (totLf ks : Nat) else -1) = l := by rw [if_pos (by omega)]; omega
      exact ⟨by first | (rw [hE]; rfl) | (rw [show left - (ks.length : Int) - (totLf ks : Nat) = l by omega]; rfl), hb⟩

def fillLf : Lf := ⟨⟨#[126, 115, 112, 97, 114, 101, 126]⟩, -7000000000000000101, -7000000000000000101, -7000000000000000101, -7000000000000000101, -7000000000000000101, -7000000000000000101, -7000000000000000101, [fillI]⟩

def zeroLf : Lf × Value := (⟨⟨#[]⟩, 0, 0, 0, 0, 0, 0, 0, []⟩, .slice none 0 0)

theorem info_lift : (Try.prog.info? 36).map (fun i => (i.zero, i.size, i.bytes)) = some (some (.agg #[.string ⟨#[]⟩, .int .i64 0, .int .i64 0, .int .i64 0, .int .i64 0, .int .i64 0, .int .i64 0, .int .i64 0, .slice none 0 0]), 9, 96) := by kernel_rfl

theorem make_lifts (n : Nat) (h : n ≤ 4000000) (w : World) :
    (Instr.makeSlice 30 (.int .i64 (n : Int)) (.int .i64 (n : Int))).run Try.prog w = .ok (.slice (some ⟨w.heap.size, 0, none⟩) n n) (w.alloc (.cells (madeCells #[.string ⟨#[]⟩, .int .i64 0, .int .i64 0, .int .i64 0, .int .i64 0, .int .i64 0, .int .i64 0, .int .i64 0, .slice none 0 0] (n * 9)) 36)) := by
  obtain ⟨i, hi, hz, hs, hb⟩ := info_parts info_lift
  have hb' : (i.bytes : Int) * (n : Int) ≤ 281474976710656 := by rw [hb]; omega
  have hr := run_make (P := Try.prog) w 30 36 i (.agg #[.string ⟨#[]⟩, .int .i64 0, .int .i64 0, .int .i64 0, .int .i64 0, .int .i64 0, .int .i64 0, .int .i64 0, .slice none 0 0]) Try.underlying30 hi hz .i64 .i64 n n (by omega) (Int.le_refl _) hb' (by omega)
  simp only [Int.toNat_natCast, hs] at hr
  exact hr

theorem madeLf_flat (n : Nat) : (madeCells #[.string ⟨#[]⟩, .int .i64 0, .int .i64 0, .int .i64 0, .int .i64 0, .int .i64 0, .int .i64 0, .int .i64 0, .slice none 0 0] (n * 9)).toList = flatLf (List.replicate n zeroLf) := by
  apply List.ext_getElem?
  intro j
  by_cases hj : j < n * 9
  · have h := flatLf_at (List.replicate n zeroLf) (j / 9) (j % 9) (by simp; omega) (by omega)
    rw [show j / 9 * 9 + j % 9 = j by omega, List.getElem_replicate] at h
    rw [h]
    have hm := Nat.mod_lt j (show 0 < 9 by omega)
    rcases (show j % 9 = 0 ∨ j % 9 = 1 ∨ j % 9 = 2 ∨ j % 9 = 3 ∨ j % 9 = 4 ∨ j % 9 = 5 ∨ j % 9 = 6 ∨ j % 9 = 7 ∨ j % 9 = 8 by omega) with hp | hp | hp | hp | hp | hp | hp | hp | hp <;> simp [madeCells, hj, hp, encLf, zeroLf]
  · rw [List.getElem?_eq_none (by rw [Array.length_toList, size_madeCells]; omega), List.getElem?_eq_none (by rw [flatLf_len]; simp; omega)]

theorem flatLf_set (L : List (Lf × Value)) (j : Nat) (p : Lf × Value) :
    ((((((((((flatLf L).set (j * 9) (.string p.1.nm)).set (j * 9 + 1) (.int .i64 p.1.wt)).set (j * 9 + 2) (.int .i64 p.1.fx)).set (j * 9 + 3) (.int .i64 p.1.fy)).set (j * 9 + 4) (.int .i64 p.1.tx)).set (j * 9 + 5) (.int .i64 p.1.ty)).set (j * 9 + 6) (.int .i64 p.1.h)).set (j * 9 + 7) (.int .i64 p.1.dl)).set (j * 9 + 8) p.2) = flatLf (L.set j p) := by
  induction L generalizing j with
  | nil => simp [flatLf]
  | cons z L ih =>
    cases j with
    | zero => simp [flatLf, encLf]
    | succ j =>
      have := ih j
      simp only [flatLf, encLf, List.flatMap_cons, List.cons_append, List.nil_append, Nat.succ_mul, List.set_cons_succ] at this ⊢
      rw [← this]

/-- A lift is stored in a row, cell by cell. -/
def setLf9 (w : World) (g o : Nat) (p : Lf × Value) : World :=
  ((((((((w.setCell ⟨g, o, none⟩ (.string p.1.nm)).setCell ⟨g, o + 1, none⟩ (.int .i64 p.1.wt)).setCell ⟨g, o + 2, none⟩ (.int .i64 p.1.fx)).setCell ⟨g, o + 3, none⟩ (.int .i64 p.1.fy)).setCell ⟨g, o + 4, none⟩ (.int .i64 p.1.tx)).setCell ⟨g, o + 5, none⟩ (.int .i64 p.1.ty)).setCell ⟨g, o + 6, none⟩ (.int .i64 p.1.h)).setCell ⟨g, o + 7, none⟩ (.int .i64 p.1.dl)).setCell ⟨g, o + 8, none⟩ p.2

theorem row_setLf9 {w : World} {base g n cap : Nat} {L : List (Lf × Value)} (h : w.ownsRow base 36 9 (.slice (some ⟨g, 0, none⟩) n cap) n (flatLf L)) (j : Nat) (p : Lf × Value) :
    (setLf9 w g (j * 9) p).ownsRow base 36 9 (.slice (some ⟨g, 0, none⟩) n cap) n (flatLf (L.set j p)) ∧ w.grownBy (setLf9 w g (j * 9) p) (some g) := by
  have h0 := h.stored (j * 9) (.string p.1.nm)
  have h1 := h0.1.stored (j * 9 + 1) (.int .i64 p.1.wt)
  have h2 := h1.1.stored (j * 9 + 2) (.int .i64 p.1.fx)
  have h3 := h2.1.stored (j * 9 + 3) (.int .i64 p.1.fy)
  have h4 := h3.1.stored (j * 9 + 4) (.int .i64 p.1.tx)
  have h5 := h4.1.stored (j * 9 + 5) (.int .i64 p.1.ty)
  have h6 := h5.1.stored (j * 9 + 6) (.int .i64 p.1.h)
  have h7 := h6.1.stored (j * 9 + 7) (.int .i64 p.1.dl)
  have h8 := h7.1.stored (j * 9 + 8) p.2
  rw [flatLf_set] at h8
  exact ⟨h8.1, grown_step h0.2 (grown_step h1.2 (grown_step h2.2 (grown_step h3.2 (grown_step h4.2 (grown_step h5.2 (grown_step h6.2 (grown_step h7.2 h8.2)))))))⟩

theorem row_cellsLf {w : World} {base g n cap : Nat} {L : List (Lf × Value)} (h : w.ownsRow base 36 9 (.slice (some ⟨g, 0, none⟩) n cap) n (flatLf L)) (j : Nat) (hj : j < n) :
    ∃ u0 u1 u2 u3 u4 u5 u6 u7 u8, w.cell? ⟨g, j * 9, none⟩ = some u0 ∧ w.cell? ⟨g, j * 9 + 1, none⟩ = some u1 ∧ w.cell? ⟨g, j * 9 + 2, none⟩ = some u2 ∧ w.cell? ⟨g, j * 9 + 3, none⟩ = some u3 ∧ w.cell? ⟨g, j * 9 + 4, none⟩ = some u4 ∧ w.cell? ⟨g, j * 9 + 5, none⟩ = some u5 ∧ w.cell? ⟨g, j * 9 + 6, none⟩ = some u6 ∧ w.cell? ⟨g, j * 9 + 7, none⟩ = some u7 ∧ w.cell? ⟨g, j * 9 + 8, none⟩ = some u8 := by
  have hl : (flatLf L).length = n * 9 := h.1
  have at_ : ∀ o, o < n * 9 → ∃ u, w.cell? ⟨g, o, none⟩ = some u := fun o ho => ⟨_, by rw [h.cellAt o ho]; exact List.getElem?_eq_getElem (by omega)⟩
  obtain ⟨u0, h0⟩ := at_ (j * 9) (by omega)
  obtain ⟨u1, h1⟩ := at_ (j * 9 + 1) (by omega)
  obtain ⟨u2, h2⟩ := at_ (j * 9 + 2) (by omega)
  obtain ⟨u3, h3⟩ := at_ (j * 9 + 3) (by omega)
  obtain ⟨u4, h4⟩ := at_ (j * 9 + 4) (by omega)
  obtain ⟨u5, h5⟩ := at_ (j * 9 + 5) (by omega)
  obtain ⟨u6, h6⟩ := at_ (j * 9 + 6) (by omega)
  obtain ⟨u7, h7⟩ := at_ (j * 9 + 7) (by omega)
  obtain ⟨u8, h8⟩ := at_ (j * 9 + 8) (by omega)
  exact ⟨u0, u1, u2, u3, u4, u5, u6, u7, u8, h0, h1, h2, h3, h4, h5, h6, h7, h8⟩

/-- A copy of a list of cranes that the law made; Q: what is known of each chart, ρ: of two of them. -/
def LfsQ (Q : World → Nat → Nat → Lf → Value → Prop) (ρ : Value → Value → Prop) (w : World) (lo hi : Nat) (v : Value) (ks : List Lf) : Prop :=
  ks.length ≤ 1000000 ∧ ∃ (g : Nat) (T S : List (Lf × Value)), v = .slice (some ⟨g, 0, none⟩) ks.length (T ++ S).length ∧ lo ≤ g ∧ T.map (·.1) = ks ∧ S.map (·.1) = List.replicate (roomL ks.length) fillLf ∧
    RowF 36 9 w lo hi (.slice (some ⟨g, 0, none⟩) (T ++ S).length (T ++ S).length) (T ++ S).length (flatLf (T ++ S)) ∧ (∀ p ∈ T, Q w (g + 1) hi p.1 p.2) ∧ (∀ p ∈ S, RowI w (g + 1) hi p.2 [fillI]) ∧ T.Pairwise (fun p q => ρ p.2 q.2)

/-- What a chart's predicate must bear. -/
structure AftQ (Q : World → Nat → Nat → Lf → Value → Prop) : Prop where
  set : ∀ {w : World} {lo hi : Nat} {k : Lf} {c : Value} (b o : Nat) (u : Value), Q w lo hi k c → b < lo → Q (w.setCell ⟨b, o, none⟩ u) lo hi k c
  kept : ∀ {W w1 : World} {lo hi : Nat} {k : Lf} {c : Value}, Q W lo hi k c → Below W.heap.size W w1 → Q w1 lo hi k c
  wide : ∀ {w : World} {lo lo' hi hi' : Nat} {k : Lf} {c : Value}, Q w lo hi k c → lo' ≤ lo → hi ≤ hi' → Q w lo' hi' k c
  form : ∀ {w : World} {lo hi : Nat} {k : Lf} {c : Value}, Q w lo hi k c → ∃ A n cp, c = .slice A n cp

theorem AftQ_setLf9 {Q : World → Nat → Nat → Lf → Value → Prop} (q : AftQ Q) {w : World} {lo hi g o : Nat} {k : Lf} {c : Value} {p : Lf × Value} (h : Q w lo hi k c) (hb : g < lo) : Q (setLf9 w g o p) lo hi k c :=
  q.set _ _ _ (q.set _ _ _ (q.set _ _ _ (q.set _ _ _ (q.set _ _ _ (q.set _ _ _ (q.set _ _ _ (q.set _ _ _ (q.set _ _ _ h hb) hb) hb) hb) hb) hb) hb) hb) hb

/-- The chart of a filler. -/
def fillAQ (w : World) (lo hi : Nat) (_ : Lf) (c : Value) : Prop := RowI w lo hi c [fillI]

theorem fillAQ_ok : AftQ fillAQ where
  set := fun b o u h hb => RowI_set h hb
  kept := fun h hb => RowI_kept h hb
  wide := fun h hl hh => RowI_lo h hl hh
  form := fun h => by
    rcases RowI_form h with ⟨h1, _⟩ | ⟨g, cap, e, _⟩
    · cases h1
    · exact ⟨_, _, _, e⟩

set_option maxHeartbeats 4000000 in
theorem fillLf_any (w : World) :
    Calls Try.prog 37 #[] w fun e w' => ∃ c', e = .returned (.agg #[.string ⟨#[126, 115, 112, 97, 114, 101, 126]⟩, .int .i64 (-7000000000000000101), .int .i64 (-7000000000000000101), .int .i64 (-7000000000000000101), .int .i64 (-7000000000000000101), .int .i64 (-7000000000000000101), .int .i64 (-7000000000000000101), .int .i64 (-7000000000000000101), c']) ∧ RowI w' w.heap.size w'.heap.size c' [fillI] ∧ Below w.heap.size w w' := by
  have HR := Lib.hid (fun (u : World) => World.ownsRow_lit (base := w.heap.size) u (e := 2) (size := 1) #[.int .i64 (-7000000000000000101)] 1)
  go_enter Try.func37, Try.ntmps37
  go_wp2_with fail
  refine (fillPoint_any _).mono ?_
  rintro e w1 ⟨rfl, b1⟩
  refine kept_at b1 (w.heap.size) (by go_size) fun c1_0 z1_0 s1_0 => ?_
  replace b1 := kept_trans (a := w) (by go_grown) b1
  have l1 := kept_cell b1
  have zz1 := b1.size
  go_wp2_with fail
  refine (fillPoint_any _).mono ?_
  rintro e w2 ⟨rfl, b2⟩
  refine kept_at b2 (w.heap.size) (by go_size) fun c2_0 z2_0 s2_0 => ?_
  replace b2 := kept_trans (a := w) (by go_grown) b2
  have l2 := kept_cell b2
  have zz2 := b2.size
  go_simp
  go_step
  go_step
  go_simp
  go_step
  go_step
  go_simp
  repeat go_step
  (try simp only [Exit.inBlock, Exit.then])
  refine bodyPost_ret (v := .agg #[.string ⟨#[126, 115, 112, 97, 114, 101, 126]⟩, .int .i64 (-7000000000000000101), .int .i64 (-7000000000000000101), .int .i64 (-7000000000000000101), .int .i64 (-7000000000000000101), .int .i64 (-7000000000000000101), .int .i64 (-7000000000000000101), .int .i64 (-7000000000000000101), .slice (some ⟨w2.heap.size, 0, none⟩) 1 1]) ?_ rfl ⟨_, rfl, ?_, ?_⟩
  · rw [results_cell1 rfl]
    go_simp
  · suffices h : ∀ X : World, X.heap.size = w2.heap.size → RowI (X.alloc (.cells #[.int .i64 (-7000000000000000101)] 2)) w.heap.size (X.alloc (.cells #[.int .i64 (-7000000000000000101)] 2)).heap.size (.slice (some ⟨w2.heap.size, 0, none⟩) 1 1) [fillI] from h _ (by simp)
    intro X hX
    have h := HR.out X (by omega) (by unfold maxLen; omega) (by simp)
    rw [hX] at h
    refine ⟨by simpa [fillI] using h, fun g hg => ?_⟩
    simp [Value.ownBlock] at hg
    subst hg
    simp
    omega
  · go_grown

set_option maxHeartbeats 1000000 in
set_option maxRecDepth 100000 in
theorem toLfs_gen (bare : Bool) (Q : World → Nat → Nat → Lf → Value → Prop) (ρ : Value → Value → Prop) (q : AftQ Q)
    (qρ : ∀ (w w' : World) (lo hi lo' hi' : Nat) (k k' : Lf) (c c' : Value), Q w lo hi k c → Q w' lo' hi' k' c' → hi ≤ lo' → ρ c c')
    (qto : ∀ (k : Lf) (c : Value) (u : World), RdI u c k.af → k.af.length ≤ 1000000 → Calls Try.prog 12 #[.agg #[.string k.nm, .int .i64 k.wt, .int .i64 k.fx, .int .i64 k.fy, .int .i64 k.tx, .int .i64 k.ty, .int .i64 k.h, .int .i64 k.dl, c], .bool bare] u fun e w' => ∃ c', e = .returned (.agg #[.string k.nm, .int .i64 k.wt, .int .i64 k.fx, .int .i64 k.fy, .int .i64 k.tx, .int .i64 k.ty, .int .i64 k.h, .int .i64 k.dl, c']) ∧ Q w' u.heap.size w'.heap.size k c' ∧ Below u.heap.size u w')
    (v : Value) (ks : List (Lf × Value)) (w : World) (h : RdLf w v ks) (hn : ks.length ≤ 1000000) (hbare : bare = false ∨ ks ≠ []) (hch : ∀ p ∈ ks, p.1.af.length ≤ 1000000) :
    Calls Try.prog 11 #[v, .bool bare] w fun e w' => ∃ v', e = .returned v' ∧ LfsQ Q ρ w' w.heap.size w'.heap.size v' (ks.map (·.1)) ∧ Below w.heap.size w w' := by
  obtain ⟨A, c, rfl, hl, r1⟩ := RdLf_at h
  clear h
  have R := Lib.hid r1; clear r1
  have hr := roomL_le ks.length
  obtain ⟨N, hN⟩ : ∃ N, N = ks.length + roomL ks.length := ⟨_, rfl⟩
  have hmk : ∀ w : World, (Instr.makeSlice 30 (.int .i64 ((ks.length : Int) + (roomL ks.length : Int))) (.int .i64 ((ks.length : Int) + (roomL ks.length : Int)))).run Try.prog w = .ok (.slice (some ⟨w.heap.size, 0, none⟩) N N) (w.alloc (.cells (madeCells #[.string ⟨#[]⟩, .int .i64 0, .int .i64 0, .int .i64 0, .int .i64 0, .int .i64 0, .int .i64 0, .int .i64 0, .slice none 0 0] (N * 9)) 36)) := by
    intro w
    have := make_lifts N (by omega) w
    rwa [show ((N : Nat) : Int) = (ks.length : Int) + (roomL ks.length : Int) by omega] at this
  have hcap : N ≤ maxLen := by unfold maxLen; omega
  have hrow0 : ∀ wa : World, w.heap.size ≤ wa.heap.size → (wa.alloc (.cells (madeCells #[.string ⟨#[]⟩, .int .i64 0, .int .i64 0, .int .i64 0, .int .i64 0, .int .i64 0, .int .i64 0, .int .i64 0, .slice none 0 0] (N * 9)) 36)).ownsRow w.heap.size 36 9 (.slice (some ⟨wa.heap.size, 0, none⟩) N N) N (flatLf ([] ++ List.replicate N zeroLf)) := by
    intro wa hwa
    have := World.ownsRow_lit wa (e := 36) (size := 9) (madeCells #[.string ⟨#[]⟩, .int .i64 0, .int .i64 0, .int .i64 0, .int .i64 0, .int .i64 0, .int .i64 0, .int .i64 0, .slice none 0 0] (N * 9)) N hwa hcap (size_madeCells _ _)
    rw [madeLf_flat] at this
    simpa using this
  have Hrow := Lib.hid hrow0; clear hrow0
  have hb0 : bare = true → ((ks.length : Int) == 0) = false := by
    intro hb
    have : ks.length ≠ 0 := fun h => by
      rcases hbare with h1 | h1
      · rw [hb] at h1; cases h1
      · exact h1 (List.eq_nil_of_length_eq_zero h)
    simpa using this
  clear hbare
  have HN := Lib.hid hN
  have hNb : N ≤ 2000002 ∧ ks.length ≤ N ∧ 0 < N := by
    refine ⟨by omega, by omega, ?_⟩
    rcases Nat.eq_zero_or_pos ks.length with h0 | h0
    · rw [h0] at hN; simp [roomL] at hN; omega
    · omega
  clear hN
  have HQ := Lib.hid q; clear q
  have HQT := Lib.hid qto; clear qto
  have HQR := Lib.hid qρ; clear qρ
  have HCH := Lib.hid hch; clear hch
  cases bare
  all_goals
    have hbn := hb0
    simp only [forall_const, reduceCtorEq, false_implies, Bool.false_eq_true] at hbn
    clear hb0
    go_enter Try.func11, Try.ntmps11
    go_wp2_with (go_at_call 36; refine (room_any _ (by omega) _).mono ?_; rintro e w1 ⟨rfl, rfl⟩)
    go_loopw [6] (fun i wr => ∃ (j : Nat) (T : List (Lf × Value)), j ≤ ks.length ∧ i = .int .i64 j ∧ T.length = j ∧ T.map (·.1) = (ks.take j).map (·.1) ∧ wr.ownsRow w.heap.size 36 9 (.slice (some ⟨w.heap.size, 0, none⟩) N N) N (flatLf (T ++ List.replicate (N - j) zeroLf)) ∧ (∀ p ∈ T, Q wr (w.heap.size + 1) wr.heap.size p.1 p.2) ∧ T.Pairwise (fun p q => ρ p.2 q.2) ∧ w.heap.size < wr.heap.size ∧ Below w.heap.size w wr) (fun i _ => ks.length - (intOf i).toNat)
    case atStart => exact ⟨0, [], by omega, rfl, rfl, by simp, Hrow.out w (Nat.le_refl _), (fun p hp => by cases hp), List.Pairwise.nil, by simp, by go_grown⟩
    case round =>
      obtain ⟨j, T, hj, rfl, hTl, hTm, hown, hT, hTp, hlw, hb⟩ := hrel
      have hsz := hb.size
      by_cases hlt : j < ks.length
      · obtain ⟨b, off, rfl, hk⟩ := R.out j hlt
        have hkch := HCH.out ks[j] (List.getElem_mem hlt)
        have hk := LfAt_kept hk hb
        have htk : (ks.take (j + 1)).map (·.1) = (ks.take j).map (·.1) ++ [ks[j].1] := by rw [← List.take_append_getElem hlt, List.map_append]; rfl
        generalize ks[j].1 = k at *
        generalize ks[j].2 = cv at *
        obtain ⟨hlb, ⟨c0, c1, c2, c3, c4, c5, c6, c7, c8⟩, hrc⟩ := hk
        obtain ⟨A2, cp2, rfl, _, _⟩ := RdI_slice hrc
        have HRC := Lib.hid hrc; clear hrc
        have HT := Lib.hid hT; clear hT
        have HTP := Lib.hid hTp; clear hTp
        have HTM := Lib.hid hTm; clear hTm
        have HTK := Lib.hid htk; clear htk
        have HOWN := Lib.hid hown; clear hown
        go_wp2_with fail
        refine (HQT.out k _ wr HRC.out hkch).mono ?_
        rintro e w1 ⟨c', rfl, hq, hb1⟩
        obtain ⟨A3, n3, cp3, rfl⟩ := HQ.out.form hq
        have hown1 := own_kept HOWN.out hb1
        obtain ⟨x0, x1, x2, x3, x4, x5, x6, x7, x8, g0, g1, g2, g3, g4, g5, g6, g7, g8⟩ := row_cellsLf hown1 j (by omega)
        have z0 := hown1.frozenAt (j * 9)
        have z1 := hown1.frozenAt (j * 9 + 1)
        have z2 := hown1.frozenAt (j * 9 + 2)
        have z3 := hown1.frozenAt (j * 9 + 3)
        have z4 := hown1.frozenAt (j * 9 + 4)
        have z5 := hown1.frozenAt (j * 9 + 5)
        have z6 := hown1.frozenAt (j * 9 + 6)
        have z7 := hown1.frozenAt (j * 9 + 7)
        have z8 := hown1.frozenAt (j * 9 + 8)
        have hst := row_setLf9 hown1 j (k, Value.slice A3 n3 cp3)
        rw [show N - j = (N - (j + 1)) + 1 by omega, ← hTl, set_mid, hTl] at hst
        have hcq := fun lo hi k' c' (h : Q w1 lo hi k' c') (hb : w.heap.size < lo) => AftQ_setLf9 HQ.out (o := j * 9) (p := (k, Value.slice A3 n3 cp3)) h hb
        unfold setLf9 at hst hcq
        dsimp only at hst hcq
        have HST := Lib.hid hst; clear hst hown1
        have HCQ := Lib.hid hcq; clear hcq
        have HQN := Lib.hid hq; clear hq
        have hsz1 := hb1.size
        have HB := Lib.hid (kept_trans hb hb1)
        have HB1 := Lib.hid hb1
        go_wp2
        go_roundw
        case rel =>
          refine ⟨j + 1, T ++ [(k, Value.slice A3 n3 cp3)], by omega, by go_num, by simp [hTl], by rw [HTK.out, List.map_append, HTM.out]; rfl, HST.out.1, ?_, ?_, by simp; omega, grown_below HB.out HST.out.2 (fun g hg => by simp at hg; omega)⟩
          · intro p hp
            refine HQ.out.wide (HCQ.out (w.heap.size + 1) w1.heap.size _ _ ?_ (Nat.lt_succ_self _)) (Nat.le_refl _) (by simp)
            rcases List.mem_append.1 hp with hp | hp
            · exact HQ.out.wide (HQ.out.kept (HT.out p hp) HB1.out) (Nat.le_refl _) hsz1
            · rw [List.mem_singleton.1 hp]
              exact HQ.out.wide HQN.out (by omega) (Nat.le_refl _)
          · refine List.pairwise_append.2 ⟨HTP.out, List.pairwise_singleton _ _, fun p hp p' hp' => ?_⟩
            rw [List.mem_singleton.1 hp']
            exact HQR.out _ _ _ _ _ _ _ _ _ _ (HT.out p hp) HQN.out (Nat.le_refl _)
        case measure => simp [intOf]; omega
      · have : j = ks.length := by omega
        subst this
        have hTm2 : T.map (·.1) = ks.map (·.1) := by rw [hTm, List.take_length]
        have hrep : N - ks.length = roomL ks.length := by have := HN.out; omega
        have HTM := Lib.hid hTm2; clear hTm hTm2
        have HT0 := Lib.hid hT; clear hT
        have HTP := Lib.hid hTp; clear hTp
        have HREP := Lib.hid hrep
        go_wp2_with fail
        go_loopw [7] (fun i wr => ∃ (M : Nat) (S : List (Lf × Value)), M ≤ N ∧ i = .int .i64 (M : Int) ∧ ks.length + S.length = M ∧ S.map (·.1) = List.replicate S.length fillLf ∧ wr.ownsRow w.heap.size 36 9 (.slice (some ⟨w.heap.size, 0, none⟩) N N) N (flatLf ((T ++ S) ++ List.replicate (N - M) zeroLf)) ∧ (∀ p ∈ T, Q wr (w.heap.size + 1) wr.heap.size p.1 p.2) ∧ (∀ p ∈ S, fillAQ wr (w.heap.size + 1) wr.heap.size p.1 p.2) ∧ w.heap.size < wr.heap.size ∧ Below w.heap.size w wr) (fun i _ => N - (intOf i).toNat)
        case atStart => exact ⟨ks.length, [], by omega, rfl, by simp, rfl, by simpa using hown, HT0.out, (fun p hp => by cases hp), hlw, hb⟩
        case round =>
          obtain ⟨M, S, hm, rfl, hSl, hSm, hown, hT, hS, hlw, hb⟩ := hrel
          have hsz := hb.size
          by_cases hlt : M < N
          · have HT := Lib.hid hT; clear hT
            have HSS := Lib.hid hS; clear hS
            have HSM := Lib.hid hSm; clear hSm
            have HOWN := Lib.hid hown; clear hown
            go_wp2_with fail
            refine (fillLf_any wr).mono ?_
            rintro e w1 ⟨c', rfl, hq, hb1⟩
            obtain ⟨A3, n3, cp3, rfl⟩ := fillAQ_ok.form (k := fillLf) hq
            have hown1 := own_kept HOWN.out hb1
            obtain ⟨x0, x1, x2, x3, x4, x5, x6, x7, x8, g0, g1, g2, g3, g4, g5, g6, g7, g8⟩ := row_cellsLf hown1 M (by omega)
            have z0 := hown1.frozenAt (M * 9)
            have z1 := hown1.frozenAt (M * 9 + 1)
            have z2 := hown1.frozenAt (M * 9 + 2)
            have z3 := hown1.frozenAt (M * 9 + 3)
            have z4 := hown1.frozenAt (M * 9 + 4)
            have z5 := hown1.frozenAt (M * 9 + 5)
            have z6 := hown1.frozenAt (M * 9 + 6)
            have z7 := hown1.frozenAt (M * 9 + 7)
            have z8 := hown1.frozenAt (M * 9 + 8)
            have hst := row_setLf9 hown1 M (fillLf, .slice A3 n3 cp3)
            have hTS : M = (T ++ S).length := by simp [hTl]; omega
            have hset := set_mid (T ++ S) zeroLf (fillLf, Value.slice A3 n3 cp3) (N - (M + 1))
            rw [← hTS] at hset
            rw [show N - M = (N - (M + 1)) + 1 by omega, hset] at hst
            have hcq := fun lo hi k' c' (h : Q w1 lo hi k' c') (hb : w.heap.size < lo) => AftQ_setLf9 HQ.out (o := M * 9) (p := (fillLf, Value.slice A3 n3 cp3)) h hb
            have hcf := fun lo hi k' c' (h : fillAQ w1 lo hi k' c') (hb : w.heap.size < lo) => AftQ_setLf9 fillAQ_ok (o := M * 9) (p := (fillLf, Value.slice A3 n3 cp3)) h hb
            clear hset
            unfold setLf9 at hst hcq hcf
            dsimp only at hst hcq hcf
            have hwf : (Value.agg #[.string ⟨#[126, 115, 112, 97, 114, 101, 126]⟩, .int .i64 (-7000000000000000101), .int .i64 (-7000000000000000101), .int .i64 (-7000000000000000101), .int .i64 (-7000000000000000101), .int .i64 (-7000000000000000101), .int .i64 (-7000000000000000101), .int .i64 (-7000000000000000101), .slice A3 n3 cp3]) = .agg #[.string fillLf.nm, .int .i64 fillLf.wt, .int .i64 fillLf.fx, .int .i64 fillLf.fy, .int .i64 fillLf.tx, .int .i64 fillLf.ty, .int .i64 fillLf.h, .int .i64 fillLf.dl, .slice A3 n3 cp3] := rfl
            rw [hwf]
            clear hwf
            have hfm : fillLf = (⟨fillLf.nm, fillLf.wt, fillLf.fx, fillLf.fy, fillLf.tx, fillLf.ty, fillLf.h, fillLf.dl, fillLf.af⟩ : Lf) := rfl
            have HFM := Lib.hid hfm; clear hfm
            have HST := Lib.hid hst; clear hst hown1
            have HCQ := Lib.hid hcq; clear hcq
            have HCF := Lib.hid hcf; clear hcf
            have HQN := Lib.hid hq; clear hq
            have hsz1 := hb1.size
            have HB := Lib.hid (kept_trans hb hb1)
            have HB1 := Lib.hid hb1
            have HSL := Lib.hid hSl
            have HOW2 := Lib.hid hTl
            clear hTS hSl hTl
            go_wp2
            go_roundw
            case rel =>
              have hSl := HSL.out
              refine ⟨M + 1, S ++ [(fillLf, Value.slice A3 n3 cp3)], by omega, by go_num, by simp; omega, ?_, ?_, ?_, ?_, by simp; omega, grown_below HB.out HST.out.2 (fun g hg => by simp at hg; omega)⟩
              · rw [List.map_append, HSM.out, List.length_append, List.length_singleton, List.replicate_succ']; rfl
              · rw [← List.append_assoc]; exact HST.out.1
              · intro p hp
                exact HQ.out.wide (HCQ.out (w.heap.size + 1) w1.heap.size _ _ (HQ.out.wide (HQ.out.kept (HT.out p hp) HB1.out) (Nat.le_refl _) hsz1) (Nat.lt_succ_self _)) (Nat.le_refl _) (by simp)
              · intro p hp
                refine fillAQ_ok.wide (k := p.1) (HCF.out (w.heap.size + 1) w1.heap.size p.1 _ ?_ (Nat.lt_succ_self _)) (Nat.le_refl _) (by simp)
                rcases List.mem_append.1 hp with hp | hp
                · exact fillAQ_ok.wide (k := p.1) (fillAQ_ok.kept (k := p.1) (HSS.out p hp) HB1.out) (Nat.le_refl _) hsz1
                · rw [List.mem_singleton.1 hp]
                  exact fillAQ_ok.wide (k := fillLf) HQN.out (by omega) (Nat.le_refl _)
            case measure => simp [intOf]; omega
          · have : M = N := by omega
            subst this
            have hSl2 : S.length = roomL ks.length := by have := HN.out; omega
            have hTS : (T ++ S).length = M := by simp [hTl, hSl2]; exact HN.out.symm
            have HT := Lib.hid hT; clear hT
            have HSS := Lib.hid hS; clear hS
            have HSM := Lib.hid hSm; clear hSm
            have HOWN := Lib.hid hown; clear hown
            have HTS := Lib.hid hTS; clear hTS
            have HSL := Lib.hid hSl2; clear hSl2 hSl hrep
            have HTL := Lib.hid hTl; clear hTl
            go_wp2
            go_ret
            have hTS := HTS.out
            have hSl2 := HSL.out
            refine ⟨_, rfl, ⟨by simpa using hn, w.heap.size, T, S, ?_, Nat.le_refl _, HTM.out, ?_, ?_, HT.out, fun p hp => HSS.out p hp, HTP.out⟩, hb⟩
            · rw [hTS, List.length_map]; rfl
            · rw [List.length_map, HSM.out, hSl2]
            · have h := HOWN.out
              rw [Nat.sub_self, List.replicate_zero, List.append_nil] at h
              rw [hTS]
              exact ⟨h, fun g hg => by simp [Value.ownBlock] at hg; subst hg; exact ⟨Nat.le_refl _, hlw⟩⟩

def copyAQ (w : World) (lo hi : Nat) (k : Lf) (c : Value) : Prop := CopyI w lo hi c k.af

theorem copyAQ_ok : AftQ copyAQ where
  set := fun b o u h hb => CopyI_set h hb
  kept := fun h hb => CopyI_kept h hb
  wide := fun h hl hh => CopyI_lo h hl hh
  form := fun h => by obtain ⟨_, g, e, _⟩ := h; exact ⟨_, _, _, e⟩

def rowAQ (w : World) (lo hi : Nat) (k : Lf) (c : Value) : Prop := RowI w lo hi c k.af

theorem rowAQ_ok : AftQ rowAQ where
  set := fun b o u h hb => RowI_set h hb
  kept := fun h hb => RowI_kept h hb
  wide := fun h hl hh => RowI_lo h hl hh
  form := fun h => by obtain ⟨A, c, e, _⟩ := RdI_slice (RowI_rd h); exact ⟨_, _, _, e⟩

theorem copyAQ_blk {w : World} {lo hi : Nat} {k : Lf} {c : Value} (h : copyAQ w lo hi k c) : lo ≤ blkOf c ∧ blkOf c < hi := by
  obtain ⟨_, g, rfl, hr⟩ := h
  exact hr.2 g rfl

theorem LfsQ_kept {Q : World → Nat → Nat → Lf → Value → Prop} {ρ : Value → Value → Prop} (q : AftQ Q) {W w1 : World} {lo hi : Nat} {v : Value} {ks : List Lf} (h : LfsQ Q ρ W lo hi v ks) (hb : Below W.heap.size W w1) : LfsQ Q ρ w1 lo hi v ks := by
  obtain ⟨hn, g, T, S, hv, hg, hT, hS, hr, hq, hf, hp⟩ := h
  exact ⟨hn, g, T, S, hv, hg, hT, hS, RowF_kept hr hb, fun p hp => q.kept (hq p hp) hb, fun p hp => RowI_kept (hf p hp) hb, hp⟩

theorem flatLf_take (T S : List (Lf × Value)) : (flatLf (T ++ S)).take (T.length * 9) = flatLf T := by
  rw [show flatLf (T ++ S) = flatLf T ++ flatLf S by simp [flatLf], ← flatLf_len, List.take_left]

theorem LfsQ_rd {Q : World → Nat → Nat → Lf → Value → Prop} {ρ : Value → Value → Prop} (qrd : ∀ (w : World) (lo hi : Nat) (k : Lf) (c : Value), Q w lo hi k c → RdI w c k.af) {w : World} {lo hi : Nat} {v : Value} {ks : List Lf} (h : LfsQ Q ρ w lo hi v ks) : ∃ T : List (Lf × Value), RdLf w v T ∧ T.map (·.1) = ks := by
  obtain ⟨hn, g, T, S, rfl, hg, hT, hS, hr, hq, hf, hp⟩ := h
  have hTl : T.length = ks.length := by rw [← hT]; simp
  refine ⟨T, ⟨?_, fun p hp => qrd _ _ _ _ _ (hq p hp)⟩, hT⟩
  have := RowF_short hr (n := T.length) (by simp)
  rw [flatLf_take, hTl] at this
  rw [hTl]
  exact RowF_rd this

/-- A site's cranes, copied by the law with room behind them. -/
def LfsC (w : World) (lo hi : Nat) (v : Value) (ks : List Lf) : Prop := LfsQ copyAQ blkLt w lo hi v ks

theorem LfsC_rd {w : World} {lo hi : Nat} {v : Value} {ks : List Lf} (h : LfsC w lo hi v ks) : ∃ T : List (Lf × Value), RdLf w v T ∧ T.map (·.1) = ks := LfsQ_rd (fun _ _ _ _ _ h => CopyI_rd h) h

theorem LfsC_kept {W w1 : World} {lo hi : Nat} {v : Value} {ks : List Lf} (h : LfsC W lo hi v ks) (hb : Below W.heap.size W w1) : LfsC w1 lo hi v ks := LfsQ_kept copyAQ_ok h hb

theorem toI_bareR (v : Value) (zs : List Int) (w : World) (h : RdI w v zs) (hn : zs.length ≤ 1000000) :
    Calls Try.prog 39 #[v, .bool true] w fun e w' => ∃ v', e = .returned v' ∧ RowI w' w.heap.size w'.heap.size v' zs ∧ Below w.heap.size w w' := by
  by_cases hz : zs = []
  · subst hz
    obtain ⟨A, c, rfl, hl, _⟩ := RdI_slice h
    clear h
    go_enter Try.func39, Try.ntmps39
    go_wp2
    go_ret
    exact ⟨_, rfl, RowI_nil _ _ _, Below.refl _ _⟩
  · exact (toI_row v zs true w h hn (Or.inr hz)).mono fun e w' ⟨v', he, hc, hb⟩ => ⟨v', he, CopyI_row hc, hb⟩

theorem toLf_false (k : Lf) (c : Value) (w : World) (hr : RdI w c k.af) (hn : k.af.length ≤ 1000000) :
    Calls Try.prog 12 #[.agg #[.string k.nm, .int .i64 k.wt, .int .i64 k.fx, .int .i64 k.fy, .int .i64 k.tx, .int .i64 k.ty, .int .i64 k.h, .int .i64 k.dl, c], .bool false] w fun e w' => ∃ c', e = .returned (.agg #[.string k.nm, .int .i64 k.wt, .int .i64 k.fx, .int .i64 k.fy, .int .i64 k.tx, .int .i64 k.ty, .int .i64 k.h, .int .i64 k.dl, c']) ∧ CopyI w' w.heap.size w'.heap.size c' k.af ∧ Below w.heap.size w w' := by
  obtain ⟨A0, cp0, rfl, _, _⟩ := RdI_slice hr
  have H := Lib.hid hr; clear hr
  obtain ⟨s, i1, i2, i3, i4, i5, i6, i7, zs⟩ := k
  dsimp only at *
  go_enter Try.func12, Try.ntmps12
  go_wp2_with fail
  refine (toPoint_any _ _ _).mono ?_
  rintro e w1 ⟨rfl, b1⟩
  refine kept_at b1 (w.heap.size) (by go_size) fun c1_0 z1_0 s1_0 => ?_
  refine kept_at b1 (w.heap.size + 1) (by go_size) fun c1_1 z1_1 s1_1 => ?_
  refine kept_at b1 (w.heap.size + 2) (by go_size) fun c1_2 z1_2 s1_2 => ?_
  replace b1 := kept_trans (a := w) (by go_grown) b1
  have l1 := kept_cell b1
  have zz1 := b1.size
  go_wp2_with fail
  refine (toPoint_any _ _ _).mono ?_
  rintro e w2 ⟨rfl, b2⟩
  refine kept_at b2 (w.heap.size) (by go_size) fun c2_0 z2_0 s2_0 => ?_
  refine kept_at b2 (w.heap.size + 1) (by go_size) fun c2_1 z2_1 s2_1 => ?_
  refine kept_at b2 (w.heap.size + 2) (by go_size) fun c2_2 z2_2 s2_2 => ?_
  replace b2 := kept_trans (a := w) (by go_grown) b2
  have l2 := kept_cell b2
  have zz2 := b2.size
  go_wp2_with fail
  refine (toI_false _ zs _ (RdI_kept H.out (by go_grown)) hn).mono ?_
  rintro e w3 ⟨c', rfl, hc, hb3⟩
  obtain ⟨A1, cp1, rfl, _, _⟩ := RdI_slice (CopyI_rd hc)
  have HC := Lib.hid hc; clear hc
  refine kept_at hb3 (w.heap.size + 1) (by go_size) fun c3_1 z3_1 s3_1 => ?_
  refine kept_at hb3 (w.heap.size + 2) (by go_size) fun c3_2 z3_2 s3_2 => ?_
  have b3 := kept_trans (a := w) (by go_grown) hb3
  go_wp2
  (try simp only [Exit.inBlock, Exit.then])
  refine bodyPost_ret (v := .agg #[.string s, .int .i64 i1, .int .i64 i2, .int .i64 i3, .int .i64 i4, .int .i64 i5, .int .i64 i6, .int .i64 i7, .slice A1 zs.length cp1]) ?_ rfl ⟨_, rfl, ?_, ?_⟩
  · rw [results_cell1 rfl]
    go_simp
  · refine CopyI_lo (lo := w2.heap.size) ?_ (by omega) (show w3.heap.size ≤ _ by simp)
    have := HC.out
    simp only [World.size_setCell] at this
    exact CopyI_set (CopyI_set (CopyI_set (CopyI_set (CopyI_set (CopyI_set (CopyI_set (CopyI_set (CopyI_set (CopyI_set this (by omega)) (by omega)) (by omega)) (by omega)) (by omega)) (by omega)) (by omega)) (by omega)) (by omega)) (by omega)
  · go_grown

theorem toLf_true (k : Lf) (c : Value) (w : World) (hr : RdI w c k.af) (hn : k.af.length ≤ 1000000) :
    Calls Try.prog 12 #[.agg #[.string k.nm, .int .i64 k.wt, .int .i64 k.fx, .int .i64 k.fy, .int .i64 k.tx, .int .i64 k.ty, .int .i64 k.h, .int .i64 k.dl, c], .bool true] w fun e w' => ∃ c', e = .returned (.agg #[.string k.nm, .int .i64 k.wt, .int .i64 k.fx, .int .i64 k.fy, .int .i64 k.tx, .int .i64 k.ty, .int .i64 k.h, .int .i64 k.dl, c']) ∧ RowI w' w.heap.size w'.heap.size c' k.af ∧ Below w.heap.size w w' := by
  obtain ⟨A0, cp0, rfl, _, _⟩ := RdI_slice hr
  have H := Lib.hid hr; clear hr
  obtain ⟨s, i1, i2, i3, i4, i5, i6, i7, zs⟩ := k
  dsimp only at *
  go_enter Try.func12, Try.ntmps12
  go_wp2_with fail
  refine (toPoint_any _ _ _).mono ?_
  rintro e w1 ⟨rfl, b1⟩
  refine kept_at b1 (w.heap.size) (by go_size) fun c1_0 z1_0 s1_0 => ?_
  refine kept_at b1 (w.heap.size + 1) (by go_size) fun c1_1 z1_1 s1_1 => ?_
  refine kept_at b1 (w.heap.size + 2) (by go_size) fun c1_2 z1_2 s1_2 => ?_
  replace b1 := kept_trans (a := w) (by go_grown) b1
  have l1 := kept_cell b1
  have zz1 := b1.size
  go_wp2_with fail
  refine (toPoint_any _ _ _).mono ?_
  rintro e w2 ⟨rfl, b2⟩
  refine kept_at b2 (w.heap.size) (by go_size) fun c2_0 z2_0 s2_0 => ?_
  refine kept_at b2 (w.heap.size + 1) (by go_size) fun c2_1 z2_1 s2_1 => ?_
  refine kept_at b2 (w.heap.size + 2) (by go_size) fun c2_2 z2_2 s2_2 => ?_
  replace b2 := kept_trans (a := w) (by go_grown) b2
  have l2 := kept_cell b2
  have zz2 := b2.size
  go_wp2_with fail
  refine (toI_bareR _ zs _ (RdI_kept H.out (by go_grown)) hn).mono ?_
  rintro e w3 ⟨c', rfl, hc, hb3⟩
  obtain ⟨A1, cp1, rfl, _, _⟩ := RdI_slice (RowI_rd hc)
  have HC := Lib.hid hc; clear hc
  refine kept_at hb3 (w.heap.size + 1) (by go_size) fun c3_1 z3_1 s3_1 => ?_
  refine kept_at hb3 (w.heap.size + 2) (by go_size) fun c3_2 z3_2 s3_2 => ?_
  have b3 := kept_trans (a := w) (by go_grown) hb3
  go_wp2
  (try simp only [Exit.inBlock, Exit.then])
  refine bodyPost_ret (v := .agg #[.string s, .int .i64 i1, .int .i64 i2, .int .i64 i3, .int .i64 i4, .int .i64 i5, .int .i64 i6, .int .i64 i7, .slice A1 zs.length cp1]) ?_ rfl ⟨_, rfl, ?_, ?_⟩
  · rw [results_cell1 rfl]
    go_simp
  · refine RowI_lo (lo := w2.heap.size) ?_ (by omega) (show w3.heap.size ≤ _ by simp)
    have := HC.out
    simp only [World.size_setCell] at this
    exact RowI_set (RowI_set (RowI_set (RowI_set (RowI_set (RowI_set (RowI_set (RowI_set (RowI_set (RowI_set this (by omega)) (by omega)) (by omega)) (by omega)) (by omega)) (by omega)) (by omega)) (by omega)) (by omega)) (by omega)
  · go_grown

theorem toLfs_false (v : Value) (ks : List (Lf × Value)) (w : World) (h : RdLf w v ks) (hn : ks.length ≤ 1000000) (hch : ∀ p ∈ ks, p.1.af.length ≤ 1000000) :
    Calls Try.prog 11 #[v, .bool false] w fun e w' => ∃ v', e = .returned v' ∧ LfsC w' w.heap.size w'.heap.size v' (ks.map (·.1)) ∧ Below w.heap.size w w' :=
  toLfs_gen false copyAQ blkLt copyAQ_ok (fun w w' lo hi lo' hi' k k' c c' h h' hl => by have := copyAQ_blk h; have := copyAQ_blk h'; unfold blkLt; omega)
    (fun k c u q l => toLf_false k c u q l) v ks w h hn (Or.inl rfl) hch

theorem toLfs_true (v : Value) (ks : List (Lf × Value)) (w : World) (h : RdLf w v ks) (hn : ks.length ≤ 1000000) (hch : ∀ p ∈ ks, p.1.af.length ≤ 1000000) :
    Calls Try.prog 11 #[v, .bool true] w fun e w' => ∃ v', e = .returned v' ∧ (v' = .slice none 0 0 ∧ ks = [] ∨ LfsQ rowAQ (fun _ _ => True) w' w.heap.size w'.heap.size v' (ks.map (·.1))) ∧ Below w.heap.size w w' := by
  by_cases hz : ks = []
  · subst hz
    obtain ⟨A, c, rfl, _, _⟩ := RdLf_at h
    clear h
    go_enter Try.func11, Try.ntmps11
    go_wp2
    go_ret
    exact ⟨_, rfl, Or.inl (by simp), Below.refl _ _⟩
  · exact (toLfs_gen true rowAQ (fun _ _ => True) rowAQ_ok (fun _ _ _ _ _ _ _ _ _ _ _ _ _ => trivial) (fun k c u q l => toLf_true k c u q l) v ks w h hn (Or.inr hz) hch).mono fun e w' ⟨v', he, hs, hb⟩ => ⟨v', he, Or.inr hs, hb⟩

theorem eqLf_same (k : Lf) (c1 c2 : Value) (w : World) (h1 : RdI w c1 k.af) (h2 : RdI w c2 k.af) :
    Calls Try.prog 45 #[.agg #[.string k.nm, .int .i64 k.wt, .int .i64 k.fx, .int .i64 k.fy, .int .i64 k.tx, .int .i64 k.ty, .int .i64 k.h, .int .i64 k.dl, c1], .agg #[.string k.nm, .int .i64 k.wt, .int .i64 k.fx, .int .i64 k.fy, .int .i64 k.tx, .int .i64 k.ty, .int .i64 k.h, .int .i64 k.dl, c2]] w fun e w' => e = .returned (.bool true) ∧ Below w.heap.size w w' := by
  obtain ⟨A1, cp1, rfl, _, _⟩ := RdI_slice h1
  obtain ⟨A2, cp2, rfl, _, _⟩ := RdI_slice h2
  have H1 := Lib.hid h1; clear h1
  have H2 := Lib.hid h2; clear h2
  obtain ⟨s, i1, i2, i3, i4, i5, i6, i7, zs⟩ := k
  dsimp only at *
  go_enter Try.func45, Try.ntmps45
  go_wp2_with fail
  refine (eqPoint_same _ _ _).mono ?_
  rintro e w1 ⟨rfl, b1⟩
  refine kept_at b1 (w.heap.size) (by go_size) fun c1_0 z1_0 s1_0 => ?_
  refine kept_at b1 (w.heap.size + 1) (by go_size) fun c1_1 z1_1 s1_1 => ?_
  replace b1 := kept_trans (a := w) (by go_grown) b1
  have l1 := kept_cell b1
  have zz1 := b1.size
  go_wp2_with fail
  refine (eqPoint_same _ _ _).mono ?_
  rintro e w2 ⟨rfl, b2⟩
  refine kept_at b2 (w.heap.size) (by go_size) fun c2_0 z2_0 s2_0 => ?_
  refine kept_at b2 (w.heap.size + 1) (by go_size) fun c2_1 z2_1 s2_1 => ?_
  replace b2 := kept_trans (a := w) (by go_grown) b2
  have l2 := kept_cell b2
  have zz2 := b2.size
  go_wp2_with fail
  refine (eqInts_same _ _ zs _ (RdI_kept H1.out (by go_grown)) (RdI_kept H2.out (by go_grown))).mono ?_
  rintro e w3 ⟨rfl, hb3⟩
  have b3 := kept_trans (a := w) (by go_grown) hb3
  go_wp2
  go_ret
  exact ⟨rfl, b3⟩

theorem intactLf_same (k : Lf) (c1 c2 : Value) (lo1 hi1 lo2 hi2 : Nat) (w : World) (h1 : CopyI w lo1 hi1 c1 k.af) (h2 : CopyI w lo2 hi2 c2 k.af) :
    Calls Try.prog 16 #[.agg #[.string k.nm, .int .i64 k.wt, .int .i64 k.fx, .int .i64 k.fy, .int .i64 k.tx, .int .i64 k.ty, .int .i64 k.h, .int .i64 k.dl, c1], .agg #[.string k.nm, .int .i64 k.wt, .int .i64 k.fx, .int .i64 k.fy, .int .i64 k.tx, .int .i64 k.ty, .int .i64 k.h, .int .i64 k.dl, c2]] w fun e w' => e = .returned (.bool true) ∧ Below w.heap.size w w' := by
  obtain ⟨A1, cp1, rfl, _, _⟩ := RdI_slice (CopyI_rd h1)
  obtain ⟨A2, cp2, rfl, _, _⟩ := RdI_slice (CopyI_rd h2)
  have H1 := Lib.hid h1; clear h1
  have H2 := Lib.hid h2; clear h2
  obtain ⟨s, i1, i2, i3, i4, i5, i6, i7, zs⟩ := k
  dsimp only at *
  go_enter Try.func16, Try.ntmps16
  go_wp2_with fail
  refine (eqPoint_same _ _ _).mono ?_
  rintro e w1 ⟨rfl, b1⟩
  refine kept_at b1 (w.heap.size) (by go_size) fun c1_0 z1_0 s1_0 => ?_
  refine kept_at b1 (w.heap.size + 1) (by go_size) fun c1_1 z1_1 s1_1 => ?_
  replace b1 := kept_trans (a := w) (by go_grown) b1
  have l1 := kept_cell b1
  have zz1 := b1.size
  go_wp2_with fail
  refine (eqPoint_same _ _ _).mono ?_
  rintro e w2 ⟨rfl, b2⟩
  refine kept_at b2 (w.heap.size) (by go_size) fun c2_0 z2_0 s2_0 => ?_
  refine kept_at b2 (w.heap.size + 1) (by go_size) fun c2_1 z2_1 s2_1 => ?_
  replace b2 := kept_trans (a := w) (by go_grown) b2
  have l2 := kept_cell b2
  have zz2 := b2.size
  go_wp2_with fail
  refine (intactI_same _ _ zs _ _ _ _ _ (CopyI_kept H1.out (by go_grown)) (CopyI_kept H2.out (by go_grown))).mono ?_
  rintro e w3 ⟨rfl, hb3⟩
  have b3 := kept_trans (a := w) (by go_grown) hb3
  go_wp2
  go_ret
  exact ⟨rfl, b3⟩

set_option maxHeartbeats 1000000 in
theorem eqLfs_same (v1 v2 : Value) (k1 k2 : List (Lf × Value)) (w : World) (h1 : RdLf w v1 k1) (h2 : RdLf w v2 k2) (hm : k1.map (·.1) = k2.map (·.1)) :
    Calls Try.prog 14 #[v1, v2] w fun e w' => e = .returned (.bool true) ∧ Below w.heap.size w w' := by
  obtain ⟨A1, cp1, rfl, hl1, r1⟩ := RdLf_at h1
  obtain ⟨A2, cp2, rfl, hl2, r2⟩ := RdLf_at h2
  clear h1 h2
  have hlen : k1.length = k2.length := by have := congrArg List.length hm; simpa using this
  have hel : ∀ i (h1 : i < k1.length) (h2 : i < k2.length), k1[i].1 = k2[i].1 := by
    intro i h1 h2
    have := congrArg (·[i]?) hm
    simpa [h1, h2] using this
  have R1 := Lib.hid r1; clear r1
  have R2 := Lib.hid r2; clear r2
  have HEL := Lib.hid hel; clear hel hm
  rw [← hlen]
  have HLEN := Lib.hid hlen
  clear hlen hl2
  go_enter Try.func14, Try.ntmps14
  go_wp2_with fail
  go_loopw [5] (fun i wr => ∃ j : Nat, j ≤ k1.length ∧ i = .int .i64 j ∧ Below w.heap.size w wr) (fun i _ => k1.length - (intOf i).toNat)
  case atStart => exact ⟨0, by omega, rfl, Below.refl _ _⟩
  case round =>
    obtain ⟨j, hj, rfl, hb⟩ := hrel
    by_cases hlt : j < k1.length
    · obtain ⟨b, off, rfl, hk⟩ := R1.out j hlt
      obtain ⟨b2, off2, rfl, hk2⟩ := R2.out j (by have := HLEN.out; omega)
      rw [← HEL.out j hlt (by have := HLEN.out; omega)] at hk2
      have hk := LfAt_kept hk hb
      have hk2 := LfAt_kept hk2 hb
      generalize k1[j].1 = k at *
      generalize k1[j].2 = cv at *
      generalize k2[j].2 = cv2 at *
      obtain ⟨hlb, ⟨c0, c1, c2, c3, c4, c5, c6, c7, c8⟩, hrc⟩ := hk
      obtain ⟨hlb2, ⟨d0, d1, d2, d3, d4, d5, d6, d7, d8⟩, hrd⟩ := hk2
      obtain ⟨A3, cp3, rfl, _, _⟩ := RdI_slice hrc
      obtain ⟨A4, cp4, rfl, _, _⟩ := RdI_slice hrd
      have HE := Lib.hid (fun (m : Nat) => eqLf_same k _ _ (wr.drewN m) (RdI_kept hrc (kept_drewN (Below.refl _ _) m)) (RdI_kept hrd (kept_drewN (Below.refl _ _) m)))
      clear hrc hrd
      go_wp2_with fail
      go_cut [26] (fun s26 w' => s26 = .bool false ∧ Below w.heap.size w w')
      case first =>
        go_region_with ((go_at_call 45; refine (HE.out 1).mono ?_; rintro e w1 ⟨rfl, hb1⟩; have b1 := kept_trans (a := w) (kept_drewN hb 1) hb1))
        all_goals
          go_wp2_with fail
          go_meet
          case rel => exact ⟨rfl, b1⟩
      case rest =>
      obtain ⟨rfl, hbc⟩ := hcut
      go_wp2
      go_roundw
      case rel => exact ⟨j + 1, by omega, by go_num, hbc⟩
      case measure => simp [intOf]; omega
    · have : j = k1.length := by omega
      subst this
      go_wp2
      go_ret
      exact ⟨rfl, hb⟩

theorem RdLf_tail {w : World} {lo hi g c N : Nat} {T S : List (Lf × Value)} (h : RowF 36 9 w lo hi (.slice (some ⟨g, 0, none⟩) N N) N (flatLf (T ++ S))) (hc : ∀ p ∈ S, RdI w p.2 p.1.af) (hl : S.length ≤ 9223372036854775807) :
    RdLf w (.slice (some ⟨g, T.length * 9, none⟩) S.length c) S := by
  have hN : (flatLf (T ++ S)).length = N * 9 := h.1.1
  rw [flatLf_len, List.length_append] at hN
  refine ⟨⟨hl, flatLf_len S, some ⟨g, T.length * 9, none⟩, c, rfl, fun i hi => ⟨g, T.length * 9, rfl, (h.1.lt g rfl).2, ?_⟩⟩, hc⟩
  rw [h.1.cellAt (T.length * 9 + i) (by omega), show flatLf (T ++ S) = flatLf T ++ flatLf S by simp [flatLf], List.getElem?_append_right (by rw [flatLf_len]; omega), flatLf_len]
  congr 1
  omega

theorem LfsC_open {w : World} {lo hi : Nat} {v : Value} {ks : List Lf} (h : LfsC w lo hi v ks) : ∃ (g : Nat) (T S : List (Lf × Value)), v = .slice (some ⟨g, 0, none⟩) ks.length (ks.length + roomL ks.length) ∧ ks.length ≤ 1000000 ∧ T.length = ks.length ∧ S.length = roomL ks.length ∧ g < w.heap.size ∧
    (∀ i (h1 : i < T.length) (h2 : i < ks.length), T[i].1 = ks[i] ∧ CopyI w (g + 1) hi T[i].2 ks[i].af ∧ LfAt w g (i * 9) ks[i] T[i].2) ∧ S.map (·.1) = List.replicate (roomL ks.length) fillLf ∧ (∀ c, RdLf w (.slice (some ⟨g, ks.length * 9, none⟩) S.length c) S) := by
  obtain ⟨T', hR, hT'⟩ := LfsC_rd h
  obtain ⟨hn, g, T, S, rfl, hg, hT, hS, hr, hq, hf, hp⟩ := h
  have hTl : T.length = ks.length := by rw [← hT]; simp
  have hSl : S.length = roomL ks.length := by have := congrArg List.length hS; simpa using this
  have hlt : g < w.heap.size := (hr.1.lt g rfl).2
  have hsl : (T ++ S).length = ks.length + roomL ks.length := by simp [hTl, hSl]
  have hrm := roomL_le ks.length
  refine ⟨g, T, S, by rw [hsl], hn, hTl, hSl, hlt, fun i h1 h2 => ?_, hS, fun c => ?_⟩
  · have e : T[i].1 = ks[i] := by
      have := congrArg (·[i]?) hT
      simpa [h1, h2] using this
    have hc := hq T[i] (List.getElem_mem h1)
    have hc' : CopyI w (g + 1) hi T[i].2 ks[i].af := by rw [← e]; exact hc
    refine ⟨e, hc', hlt, ?_, CopyI_rd hc'⟩
    have at_ : ∀ j, j < 9 → w.cell? ⟨g, i * 9 + j, none⟩ = (encLf T[i])[j]? := by
      intro j hj
      rw [hr.1.cellAt (i * 9 + j) (by rw [hsl]; omega), flatLf_at (T ++ S) i j (by rw [List.length_append]; omega) hj, List.getElem_append_left h1]
    rw [← e]
    exact ⟨at_ 0 (by omega), at_ 1 (by omega), at_ 2 (by omega), at_ 3 (by omega), at_ 4 (by omega), at_ 5 (by omega), at_ 6 (by omega), at_ 7 (by omega), at_ 8 (by omega)⟩
  · rw [← hTl]
    refine RdLf_tail hr (fun p hp => ?_) (by omega)
    have e : p.1 = fillLf := by
      have : p.1 ∈ S.map (·.1) := List.mem_map.2 ⟨p, hp, rfl⟩
      rw [hS] at this
      exact (List.mem_replicate.1 this).2
    rw [e]
    exact RowI_rd (hf p hp)

set_option maxHeartbeats 2000000 in
theorem intactLfs_same (v1 v2 : Value) (ks : List Lf) (lo1 hi1 lo2 hi2 : Nat) (w : World) (h1 : LfsC w lo1 hi1 v1 ks) (h2 : LfsC w lo2 hi2 v2 ks) :
    Calls Try.prog 15 #[v1, v2] w fun e w' => e = .returned (.bool true) ∧ Below w.heap.size w w' := by
  have H1 := Lib.hid h1
  have H2 := Lib.hid h2
  obtain ⟨g1, T1, S1, rfl, hn, _, _, _, _, _, _⟩ := LfsC_open h1
  obtain ⟨g2, T2, S2, rfl, _, _, _, _, _, _, _⟩ := LfsC_open h2
  clear h1 h2
  have hr := roomL_le ks.length
  have HE := Lib.hid (fun (u : World) (q1 : LfsC u lo1 hi1 (.slice (some ⟨g1, 0, none⟩) ks.length (ks.length + roomL ks.length)) ks) (q2 : LfsC u lo2 hi2 (.slice (some ⟨g2, 0, none⟩) ks.length (ks.length + roomL ks.length)) ks) => (by
    obtain ⟨g1', T1, S1, e1, _, _, hS1, _, _, hm1, hR1⟩ := LfsC_open q1
    obtain ⟨g2', T2, S2, e2, _, _, hS2, _, _, hm2, hR2⟩ := LfsC_open q2
    cases e1
    cases e2
    have hA : ∀ (g : Nat) (S : List (Lf × Value)), S.length = roomL ks.length → RdLf u (.slice (some ⟨g, ks.length * 9, none⟩) S.length (roomL ks.length)) S → RdLf u (.slice (if roomL ks.length = 0 then some ⟨g, 0, none⟩ else some ⟨g, ks.length * 9, none⟩) (roomL ks.length) (roomL ks.length)) S := by
      intro g S hS h
      by_cases h0 : roomL ks.length = 0
      · have hS0 := List.eq_nil_of_length_eq_zero (hS.trans h0)
        subst hS0
        rw [if_pos h0, h0]
        exact ⟨⟨by simp, rfl, _, _, rfl, fun i hi => by simp at hi⟩, fun p hp => by cases hp⟩
      · rw [if_neg h0]
        rw [hS] at h
        exact h
    exact eqLfs_same _ _ S1 S2 u (hA g1 S1 hS1 (hR1 (roomL ks.length))) (hA g2 S2 hS2 (hR2 (roomL ks.length))) (hm1.trans hm2.symm) : Calls Try.prog 14 #[.slice (if roomL ks.length = 0 then some ⟨g1, 0, none⟩ else some ⟨g1, ks.length * 9, none⟩) (roomL ks.length) (roomL ks.length), .slice (if roomL ks.length = 0 then some ⟨g2, 0, none⟩ else some ⟨g2, ks.length * 9, none⟩) (roomL ks.length) (roomL ks.length)] u fun e w' => e = .returned (.bool true) ∧ Below u.heap.size u w'))
  have HX := Lib.hid (fun (u : World) (q1 : LfsC u lo1 hi1 (.slice (some ⟨g1, 0, none⟩) ks.length (ks.length + roomL ks.length)) ks) (q2 : LfsC u lo2 hi2 (.slice (some ⟨g2, 0, none⟩) ks.length (ks.length + roomL ks.length)) ks) (i : Nat) (hi : i < ks.length) => (by
    obtain ⟨g1', T1, S1, e1, _, hl1, _, _, ha1, _, _⟩ := LfsC_open q1
    obtain ⟨g2', T2, S2, e2, _, hl2, _, _, ha2, _, _⟩ := LfsC_open q2
    cases e1
    cases e2
    obtain ⟨_, hc1, hk1⟩ := ha1 i (by omega) hi
    obtain ⟨_, hc2, hk2⟩ := ha2 i (by omega) hi
    exact ⟨_, _, hc1, hk1, hc2, hk2⟩ : ∃ c1 c2, CopyI u (g1 + 1) hi1 c1 ks[i].af ∧ LfAt u g1 (i * 9) ks[i] c1 ∧ CopyI u (g2 + 1) hi2 c2 ks[i].af ∧ LfAt u g2 (i * 9) ks[i] c2))
  go_enter Try.func15, Try.ntmps15
  go_wp2_with (go_at_call 36; refine (room_any _ (by omega) _).mono ?_; rintro e w1 ⟨rfl, rfl⟩)
  go_loopw [6] (fun i wr => ∃ j : Nat, j ≤ ks.length ∧ i = .int .i64 j ∧ Below w.heap.size w wr) (fun i _ => ks.length - (intOf i).toNat)
  case atStart => exact ⟨0, by omega, rfl, Below.refl _ _⟩
  case round =>
    obtain ⟨j, hj, rfl, hb⟩ := hrel
    by_cases hlt : j < ks.length
    · obtain ⟨cv, cv2, hcv, ⟨hlb, ⟨c0, c1, c2, c3, c4, c5, c6, c7, c8⟩, hrc⟩, hcv2, ⟨hlb2, ⟨d0, d1, d2, d3, d4, d5, d6, d7, d8⟩, hrd⟩⟩ := HX.out wr (LfsC_kept H1.out hb) (LfsC_kept H2.out hb) j hlt
      generalize ks[j] = k at *
      obtain ⟨A3, cp3, rfl, _, _⟩ := RdI_slice hrc
      obtain ⟨A4, cp4, rfl, _, _⟩ := RdI_slice hrd
      have HI := Lib.hid (fun (m : Nat) => intactLf_same k _ _ _ _ _ _ (wr.drewN m) (CopyI_kept hcv (kept_drewN (Below.refl _ _) m)) (CopyI_kept hcv2 (kept_drewN (Below.refl _ _) m)))
      clear hrc hrd hcv hcv2
      go_wp2_with fail
      go_cut [33] (fun s33 w' => s33 = .bool false ∧ Below w.heap.size w w')
      case first =>
        go_region_with ((go_at_call 16; refine (HI.out 1).mono ?_; rintro e w1 ⟨rfl, hb1⟩; have b1 := kept_trans (a := w) (kept_drewN hb 1) hb1))
        all_goals
          go_wp2_with fail
          go_meet
          case rel => exact ⟨rfl, b1⟩
      case rest =>
      obtain ⟨rfl, hbc⟩ := hcut
      go_wp2
      go_roundw
      case rel => exact ⟨j + 1, by omega, by go_num, hbc⟩
      case measure => simp [intOf]; omega
    · have : j = ks.length := by omega
      subst this
      have hee := fun (m : Nat) => HE.out (wr.drewN m) (LfsC_kept H1.out (kept_drewN hb m)) (LfsC_kept H2.out (kept_drewN hb m))
      have hx1 : ¬ (ks.length + roomL ks.length < ks.length) := by omega
      have hx3 : (ks.length : Int) ≤ (ks.length : Int) + (roomL ks.length : Int) := by omega
      have hx4 : (0 : Int) ≤ (ks.length : Int) + (roomL ks.length : Int) := by omega
      have hx5 : ((ks.length : Int) + (roomL ks.length : Int)).toNat = ks.length + roomL ks.length := by omega
      have hx6 : ks.length ≤ ks.length + roomL ks.length := by omega
      have hx7 : ks.length + roomL ks.length - ks.length = roomL ks.length := by omega
      by_cases h0 : roomL ks.length = 0
      case pos =>
        simp only [h0, if_true] at hee
        have HEE := Lib.hid hee; clear hee
        go_wp2_with fail
        go_region_with ((go_at_call 14; refine (HEE.out 1).mono ?_; rintro e w1 ⟨rfl, hb1⟩; have b1 := kept_trans (a := w) (kept_drewN hb 1) hb1))
        all_goals
          go_wp2
          go_ret
          exact ⟨rfl, b1⟩
      case neg =>
        simp only [if_neg h0] at hee
        have HEE := Lib.hid hee; clear hee
        go_wp2_with fail
        go_region_with ((go_at_call 14; refine (HEE.out 1).mono ?_; rintro e w1 ⟨rfl, hb1⟩; have b1 := kept_trans (a := w) (kept_drewN hb 1) hb1))
        all_goals
          go_wp2
          go_ret
          exact ⟨rfl, b1⟩

/-- How many steps the charts of cranes have. -/
def afS : List Lf → Nat
  | [] => 0
  | k :: ks => k.af.length + afS ks

theorem afS_tot (ks : List (Lf × Value)) : afS (ks.map (·.1)) ≤ totLf ks := by
  induction ks with
  | nil => simp [afS, totLf]
  | cons p ks ih =>
    simp only [List.map_cons, afS, totLf]
    omega

/-- Cells that read as a slice of numbers. -/
theorem open_i64C {H : Type} {enc : TypeId × Value → H} {P : Program} {W : World} {t e : TypeId} {base fuel : Nat} {sp : Nat → Bool} {held : Bool} {cs : List Value} {z : DataW H × List MemPlace}
    (ht : P.underlying t = some (.slice e)) (he : P.underlying e = some (.int .i64)) (hc : P.cellsOf e = 1) (h : DataW.trod enc P W base sp held fuel t cs = some z) :
    ∃ (v : Value) (zs : List Int), cs = [v] ∧ RdI W v zs := by
  rcases Deep.open_slice1 ht hc h with ⟨hcs, hx⟩ | ⟨a, len, cap, m, n', V, D, Pl, hcs, _, hl, hm, hmm, hx, hi⟩
  · exact ⟨_, [], hcs, rdI0' W⟩
  · have hlm : len ≤ m := by rw [hmm]; split <;> omega
    have each : ∀ i, i < len → ∃ q : Int, V i = .int .i64 q := by
      intro i hlt
      obtain ⟨_, g0⟩ := hi i (by omega)
      obtain ⟨x, e0, _, _⟩ := DataW.trod_int he g0
      simp at e0
      exact ⟨x, e0⟩
    obtain ⟨q, hq⟩ := Deep.choose_lt each
    obtain ⟨b, off, spot⟩ := a
    refine ⟨_, (List.range len).map q, hcs, by simp; unfold maxLen at hm; omega, some ⟨b, off, spot⟩, cap, by simp, fun j hj => ?_⟩
    simp only [List.length_map, List.length_range] at hj
    obtain ⟨h0, _⟩ := hi j (by omega)
    have hspot : spot = none := by simpa [Addr.add] using World.cell?_spot (hi 0 (by omega)).1
    subst hspot
    rw [add_plain, hq j hj] at h0
    exact ⟨b, off, rfl, World.block_lt_of_cell? _ _ h0, by rw [h0]; simp⟩

set_option maxRecDepth 100000 in
/-- Cells that read as a lift. -/
theorem open_liftC {H : Type} {enc : TypeId × Value → H} {W : World} {base fuel : Nat} {sp : Nat → Bool} {held : Bool} {cs : List Value} {z : DataW H × List MemPlace}
    (h : DataW.trod enc Try.prog W base sp held fuel 27 cs = some z) : ∃ (k : Lf) (c : Value), cs = encLf (k, c) ∧ RdI W c k.af ∧ wfLf k := by
  obtain ⟨xs, n, _, _, hl, hlen, hf⟩ := DataW.trod_struct Try.underlying27 h
  have hl9 : cs.length = 9 := hl.trans (by kernel_rfl)
  have h0 : DataW.trod enc Try.prog W base sp held n 9 ((cs.drop 0).take (Try.prog.cellsOf 9)) = xs[0]? := hf 0 _ rfl
  have h1 : DataW.trod enc Try.prog W base sp held n 2 ((cs.drop 1).take (Try.prog.cellsOf 2)) = xs[1]? := hf 1 _ rfl
  have h2 : DataW.trod enc Try.prog W base sp held n 24 ((cs.drop 2).take (Try.prog.cellsOf 24)) = xs[2]? := hf 2 _ rfl
  have h3 : DataW.trod enc Try.prog W base sp held n 24 ((cs.drop 4).take (Try.prog.cellsOf 24)) = xs[3]? := hf 3 _ rfl
  have h4 : DataW.trod enc Try.prog W base sp held n 2 ((cs.drop 6).take (Try.prog.cellsOf 2)) = xs[4]? := hf 4 _ rfl
  have h5 : DataW.trod enc Try.prog W base sp held n 2 ((cs.drop 7).take (Try.prog.cellsOf 2)) = xs[5]? := hf 5 _ rfl
  have h6 : DataW.trod enc Try.prog W base sp held n 25 ((cs.drop 8).take (Try.prog.cellsOf 25)) = xs[6]? := hf 6 _ rfl
  have z0 : Try.prog.cellsOf 9 = 1 := by kernel_rfl
  have z1 : Try.prog.cellsOf 24 = 2 := by kernel_rfl
  have z2 : Try.prog.cellsOf 2 = 1 := by kernel_rfl
  have z3 : Try.prog.cellsOf 25 = 1 := by kernel_rfl
  match cs, hl9 with
  | [c0, c1, c2, c3, c4, c5, c6, c7, c8], _ =>
    have i0 : xs[0]? = some (xs[0]'(by rw [hlen]; decide)) := List.getElem?_eq_getElem _
    have i1 : xs[1]? = some (xs[1]'(by rw [hlen]; decide)) := List.getElem?_eq_getElem _
    have i2 : xs[2]? = some (xs[2]'(by rw [hlen]; decide)) := List.getElem?_eq_getElem _
    have i3 : xs[3]? = some (xs[3]'(by rw [hlen]; decide)) := List.getElem?_eq_getElem _
    have i4 : xs[4]? = some (xs[4]'(by rw [hlen]; decide)) := List.getElem?_eq_getElem _
    have i5 : xs[5]? = some (xs[5]'(by rw [hlen]; decide)) := List.getElem?_eq_getElem _
    have i6 : xs[6]? = some (xs[6]'(by rw [hlen]; decide)) := List.getElem?_eq_getElem _
    simp only [i0, i1, i2, i3, i4, i5, i6, z0, z1, z2, z3, List.drop_succ_cons, List.drop_zero, List.take_succ_cons, List.take_zero] at h0 h1 h2 h3 h4 h5 h6
    obtain ⟨s, e0, _, ws⟩ := DataW.trod_string Try.underlying9 h0
    obtain ⟨a1, e1, _, w1⟩ := DataW.trod_int Try.underlying2 h1
    obtain ⟨Y0p, Y1p, mp, _, _, p0', p1'⟩ := trod_struct2 Try.underlying24 h2
    have p0 : DataW.trod enc Try.prog W base sp held mp 2 (([c2, c3].drop 0).take (Try.prog.cellsOf 2)) = some Y0p := p0'
    have p1 : DataW.trod enc Try.prog W base sp held mp 2 (([c2, c3].drop 1).take (Try.prog.cellsOf 2)) = some Y1p := p1'
    simp only [z2, List.drop_succ_cons, List.drop_zero, List.take_succ_cons, List.take_zero] at p0 p1
    obtain ⟨Y0q, Y1q, mq, _, _, q0', q1'⟩ := trod_struct2 Try.underlying24 h3
    have q0 : DataW.trod enc Try.prog W base sp held mq 2 (([c4, c5].drop 0).take (Try.prog.cellsOf 2)) = some Y0q := q0'
    have q1 : DataW.trod enc Try.prog W base sp held mq 2 (([c4, c5].drop 1).take (Try.prog.cellsOf 2)) = some Y1q := q1'
    simp only [z2, List.drop_succ_cons, List.drop_zero, List.take_succ_cons, List.take_zero] at q0 q1
    obtain ⟨a2, e2, _, w2⟩ := DataW.trod_int Try.underlying2 p0
    obtain ⟨a3, e3, _, w3⟩ := DataW.trod_int Try.underlying2 p1
    obtain ⟨a4, e4, _, w4⟩ := DataW.trod_int Try.underlying2 q0
    obtain ⟨a5, e5, _, w5⟩ := DataW.trod_int Try.underlying2 q1
    obtain ⟨a6, e6, _, w6⟩ := DataW.trod_int Try.underlying2 h4
    obtain ⟨a7, e7, _, w7⟩ := DataW.trod_int Try.underlying2 h5
    obtain ⟨c, zs, e8, hr⟩ := open_i64C Try.underlying25 Try.underlying2 (by kernel_rfl) h6
    simp only [List.cons.injEq, and_true] at e0 e1 e2 e3 e4 e5 e6 e7 e8
    subst e0 e1 e2 e3 e4 e5 e6 e7 e8
    exact ⟨⟨s, a1, a2, a3, a4, a5, a6, a7, zs⟩, _, rfl, hr, ws, w1, w2, w3, w4, w5, w6, w7⟩

/-- What is known of an argument's cranes. -/
def wfLfs (ks : List (Lf × Value)) : Prop := (∀ p ∈ ks, wfLf p.1) ∧ ks.length ≤ maxLen

set_option maxRecDepth 100000 in
/-- Cells that read as a slice of cranes. -/
theorem open_liftsC {H : Type} {enc : TypeId × Value → H} {W : World} {base fuel : Nat} {sp : Nat → Bool} {held : Bool} {cs : List Value} {z : DataW H × List MemPlace}
    (h : DataW.trod enc Try.prog W base sp held fuel 22 cs = some z) : ∃ (v : Value) (ks : List (Lf × Value)), cs = [v] ∧ RdLf W v ks ∧ wfLfs ks ∧ DataLen z.1 ks.length := by
  rcases Deep.open_slice Try.underlying22 h with ⟨hcs, hx⟩ | ⟨a, len, cap, m, n, D, Pl, hcs, _, hl, hm, hmm, hx, hi⟩
  · exact ⟨_, [], hcs, ⟨⟨by simp, rfl, none, 0, rfl, fun i hi => by simp at hi⟩, fun p h => by cases h⟩, ⟨(fun p h => by cases h), by simp⟩, Or.inl ⟨by rw [hx], rfl⟩⟩
  · have hlm : len ≤ m := by rw [hmm]; split <;> omega
    have ce : Try.prog.cellsOf 27 = 9 := by kernel_rfl
    have each : ∀ i, i < len → ∃ q : Option (Lf × Value), ∃ p, q = some p ∧ W.cells? base (a.add (i * 9)) 9 = some (encLf p) ∧ RdI W p.2 p.1.af ∧ wfLf p.1 := by
      intro i hlt
      obtain ⟨cs', g0, g1⟩ := hi i (by omega)
      obtain ⟨k, c, e, hr, wk⟩ := open_liftC g1
      rw [ce, e] at g0
      exact ⟨some (k, c), (k, c), rfl, g0, hr, wk⟩
    obtain ⟨q, hq⟩ := Deep.choose_lt each
    have each2 : ∀ i, i < len → (q i).isSome = true := fun i hi => by obtain ⟨p, e, _⟩ := hq i hi; rw [e]; rfl
    obtain ⟨b, off, spot⟩ := a
    let ks : List (Lf × Value) := (List.range len).attach.map fun i => (q i.1).get (each2 i.1 (List.mem_range.1 i.2))
    have hkl : ks.length = len := by simp [ks]
    have hks : ∀ i (hi : i < ks.length), ∃ p, ks[i] = p ∧ q i = some p := by
      intro i hi
      refine ⟨ks[i], rfl, ?_⟩
      simp [ks]
    refine ⟨_, ks, hcs, ⟨⟨by rw [hkl]; unfold maxLen at hm; omega, by rw [flatLf_len], some ⟨b, off, spot⟩, cap, by rw [hkl], fun j hj => ?_⟩, ?_⟩, ⟨?_, by rw [hkl]; omega⟩, Or.inr ⟨_, _, by rw [hx], by rw [hkl]; simp⟩⟩
    · rw [hkl] at hj
      obtain ⟨p, e, hc, _⟩ := hq (j / 9) (by omega)
      obtain ⟨p', e', e2⟩ := hks (j / 9) (by omega)
      rw [e] at e2
      cases e2
      obtain ⟨_, _, hcell⟩ := World.cells?_some hc
      have hspot : spot = none := by
        obtain ⟨p0, _, hc0, _⟩ := hq 0 (by omega)
        obtain ⟨_, _, hcell0⟩ := World.cells?_some hc0
        have := hcell0 0 (by omega)
        rw [show (encLf p0)[0]? = some (.string p0.1.nm) from rfl] at this
        simpa [Addr.add] using World.cell?_spot this
      subst hspot
      have h9 := hcell (j % 9) (by omega)
      rw [add_plain, add_plain, ← e'] at h9
      rw [← flatLf_at ks (j / 9) (j % 9) (by omega) (by omega), show j / 9 * 9 + j % 9 = j by omega, Nat.add_assoc, show j / 9 * 9 + j % 9 = j by omega] at h9
      refine ⟨b, off, rfl, ?_, h9⟩
      have hx : (flatLf ks)[j]? = some ((flatLf ks)[j]'(by rw [flatLf_len]; omega)) := List.getElem?_eq_getElem _
      rw [hx] at h9
      exact World.block_lt_of_cell? _ _ h9
    · intro p hp
      obtain ⟨i, hi, rfl⟩ := List.mem_iff_getElem.1 hp
      obtain ⟨p, e, e2⟩ := hks i hi
      obtain ⟨p', e', _, hr, _⟩ := hq i (by omega)
      rw [e'] at e2
      cases e2
      rw [e]
      exact hr
    · intro p hp
      obtain ⟨i, hi, rfl⟩ := List.mem_iff_getElem.1 hp
      obtain ⟨p, e, e2⟩ := hks i hi
      obtain ⟨p', e', _, hr, hw⟩ := hq i (by omega)
      rw [e'] at e2
      cases e2
      rw [e]
      exact hw

set_option maxRecDepth 100000 in
/-- An argument that is a slice of lifts. -/
theorem open_lifts {H : Type} {enc : TypeId × Value → H} {W : World} {base : Nat} {v : Value} {d : DataW H} {p : List MemPlace}
    (hv : Value.okWide Try.prog W .any base 22 v) (h : DataW.Trod enc Try.prog W 0 (fun _ => true) true 22 v d p) :
    ∃ ks : List (Lf × Value), RdLf W v ks ∧ wfLfs ks ∧ DataLen d ks.length := by
  obtain ⟨A, n, c, rfl⟩ := okWide_slice Try.underlying22 hv
  obtain ⟨fuel, hf⟩ := h
  obtain ⟨v', ks, e, hr, hw, hd⟩ := open_liftsC (show DataW.trod enc Try.prog W 0 (fun _ => true) true fuel 22 [.slice A n c] = some (d, p) from by simpa [Value.cells] using hf)
  simp only [List.cons.injEq, and_true] at e
  subst e
  exact ⟨ks, hr, hw, hd⟩

theorem totLf_mem {ks : List (Lf × Value)} {p : Lf × Value} (h : p ∈ ks) : p.1.nm.size + p.1.af.length ≤ totLf ks := by
  induction ks with
  | nil => cases h
  | cons q ks ih =>
    simp only [totLf]
    rcases List.mem_cons.1 h with rfl | h
    · omega
    · have := ih h
      omega

/-- The first m numbers rise strictly, from 0 to less than n. -/
def RisesP (zs : List Int) (n : Int) (m : Nat) : Prop := ∀ i (h : i < zs.length), i < m → (0 ≤ zs[i] ∧ zs[i] ≤ n - 1) ∧ ∀ _ : 0 < i, zs[i - 1] < zs[i]

open Classical in
noncomputable def risesB (zs : List Int) (n : Int) : Bool := decide (RisesP zs n zs.length)

theorem risesB_true {zs : List Int} {n : Int} (h : RisesP zs n zs.length) : risesB zs n = true := by simp [risesB, h]

theorem risesB_false {zs : List Int} {n : Int} (h : ¬ RisesP zs n zs.length) : risesB zs n = false := by simp [risesB, h]

theorem risesB_iff {zs : List Int} {n : Int} : risesB zs n = true ↔ RisesP zs n zs.length := by simp [risesB]

theorem RisesP_step {zs : List Int} {n : Int} {m : Nat} (h : RisesP zs n m) (hm : m < zs.length) (h1 : 0 ≤ zs[m] ∧ zs[m] ≤ n - 1) (h2 : ∀ _ : 0 < m, zs[m - 1] < zs[m]) : RisesP zs n (m + 1) := by
  intro i hi hlt
  rcases Nat.lt_or_ge i m with h3 | h3
  · exact h i hi h3
  · obtain rfl : i = m := by omega
    exact ⟨h1, h2⟩

/-- The fields of a lift, but After, are valid. -/
noncomputable def fldB (k : Lf) : Bool := nameB k.nm && (inB k.wt 1 50000 && (okP k.fx k.fy && (okP k.tx k.ty && (inB k.h 0 2000 && inB k.dl 1 1000000))))

/-- The lift with an index is valid, but for its name's being taken. -/
noncomputable def oneB (k : Lf) (i : Int) : Bool := fldB k && risesB k.af i

/-- The first n lifts are valid and have different names. -/
def LiftsOk (ms : List Lf) (n : Nat) : Prop := ∀ i (hi : i < ms.length), i < n → oneB ms[i] i = true ∧ ∀ j (hj : j < ms.length), j < i → ¬ ms[j].nm = ms[i].nm

def LiftsP (ms : List Lf) : Prop := LiftsOk ms ms.length ∧ ms.length ≤ 10

open Classical in
/-- The list of lifts is valid. -/
noncomputable def liftsB (ms : List Lf) : Bool := decide (LiftsP ms)

theorem liftsB_true {ms : List Lf} (h : LiftsP ms) : liftsB ms = true := by simp [liftsB, h]

theorem liftsB_false {ms : List Lf} (h : ¬ LiftsP ms) : liftsB ms = false := by simp [liftsB, h]

theorem liftsB_iff {ms : List Lf} : liftsB ms = true ↔ LiftsP ms := by simp [liftsB]

theorem LiftsOk_step {ms : List Lf} {n : Nat} (h : LiftsOk ms n) (hn : n < ms.length) (h1 : oneB ms[n] n = true) (h2 : ∀ j (hj : j < ms.length), j < n → ¬ ms[j].nm = ms[n].nm) : LiftsOk ms (n + 1) := by
  intro i hi hlt
  rcases Nat.lt_or_ge i n with h3 | h3
  · exact h i hi h3
  · obtain rfl : i = n := by omega
    exact ⟨h1, h2⟩

/-- The slice value reads as a list of lifts, and has room for them. -/
def RdM (w : World) (v : Value) (ms : List Lf) : Prop := ∃ T : List (Lf × Value), RdLf w v T ∧ T.map (·.1) = ms ∧ ∃ A c, v = .slice A ms.length c ∧ ms.length ≤ c

theorem RdM_kept {W w1 : World} {v : Value} {ms : List Lf} (h : RdM W v ms) (hb : Below W.heap.size W w1) : RdM w1 v ms := by
  obtain ⟨T, hr, hm, hc⟩ := h
  exact ⟨T, RdLf_kept hr hb, hm, hc⟩

theorem RdM_at {w : World} {v : Value} {ms : List Lf} (h : RdM w v ms) : ∃ A c, v = .slice A ms.length c ∧ ms.length ≤ c ∧ ms.length ≤ 9223372036854775807 ∧
    ∀ i, (hi : i < ms.length) → ∃ b off cv, A = some ⟨b, off, none⟩ ∧ LfAt w b (off + i * 9) ms[i] cv := by
  obtain ⟨T, hr, rfl, A, c, rfl, hc⟩ := h
  obtain ⟨A', c', e, hl, r⟩ := RdLf_at hr
  injection e with e1 e2 e3
  subst e1 e3
  refine ⟨A, c, rfl, hc, by simpa using hl, fun i hi => ?_⟩
  have hi' : i < T.length := by simpa using hi
  obtain ⟨b, off, e, h⟩ := r i hi'
  exact ⟨b, off, T[i].2, e, by simpa using h⟩

theorem RdM_copy {w : World} {lo hi : Nat} {v : Value} {ms : List Lf} (h : LfsC w lo hi v ms) : RdM w v ms := by
  obtain ⟨T, hR, hT⟩ := LfsC_rd h
  obtain ⟨g, _, _, e, _⟩ := LfsC_open h
  exact ⟨T, hR, hT, _, _, e, by omega⟩

theorem RdM_bare {w : World} {lo hi : Nat} {v : Value} {ms : List Lf} (h : LfsQ rowAQ (fun _ _ => True) w lo hi v ms) : RdM w v ms := by
  obtain ⟨T, hR, hT⟩ := LfsQ_rd (fun _ _ _ _ _ h => RowI_rd h) h
  obtain ⟨_, g, T0, S0, hv, _, hT0, _⟩ := h
  exact ⟨T, hR, hT, _, _, hv, by rw [← hT0]; simp⟩

theorem RdM_nil (w : World) : RdM w (.slice none 0 0) [] := ⟨[], ⟨⟨by simp, rfl, none, 0, rfl, fun i hi => by simp at hi⟩, fun p hp => by cases hp⟩, rfl, none, 0, rfl, Nat.le_refl _⟩

theorem toM_true (v : Value) (ks : List (Lf × Value)) (w : World) (h : RdLf w v ks) (hn : ks.length ≤ 1000000) (hch : ∀ p ∈ ks, p.1.af.length ≤ 1000000) :
    Calls Try.prog 11 #[v, .bool true] w fun e w' => ∃ v', e = .returned v' ∧ RdM w' v' (ks.map (·.1)) ∧ Below w.heap.size w w' :=
  (toLfs_true v ks w h hn hch).mono fun e w' ⟨v', he, hc, hb⟩ => ⟨v', he, by
    rcases hc with ⟨rfl, rfl⟩ | hc
    · exact RdM_nil _
    · exact RdM_bare hc, hb⟩

theorem RdM_take {w : World} {A : Option Addr} {c : Nat} {ms : List Lf} (h : RdM w (.slice A ms.length c) ms) (i : Nat) (hi : i ≤ ms.length) : RdM w (.slice A i c) (ms.take i) := by
  obtain ⟨T, hr, hm, A', c', e, hc⟩ := h
  injection e with e1 e2 e3
  subst e1 e3
  have hT : T.length = ms.length := by rw [← hm]; simp
  obtain ⟨⟨h1, h2, A2, c2, e2, h3⟩, h4⟩ := hr
  injection e2 with e1 e4 e3
  subst e1 e3
  have hl : (T.take i).length = i := by simp; omega
  have hml : (ms.take i).length = i := by simp; omega
  refine ⟨T.take i, ⟨⟨by omega, flatLf_len _, A, c, by rw [hl], fun j hj => ?_⟩, fun p hp => h4 p (List.mem_of_mem_take hp)⟩, by rw [List.map_take, hm], A, c, by rw [hml], by omega⟩
  rw [hl] at hj
  obtain ⟨b, off, e, hlt, hcell⟩ := h3 j (by omega)
  refine ⟨b, off, e, hlt, ?_⟩
  rw [hcell]
  have : flatLf (T.take i) = (flatLf T).take (i * 9) := by
    have := flatLf_take (T.take i) (T.drop i)
    rw [List.take_append_drop, hl] at this
    exact this.symm
  rw [this, List.getElem?_take, if_pos hj]

/-- The place of the first lift with a name; behind the last one if there is none. -/
def idxM (ms : List Lf) (s : ByteArray) : Nat := ms.findIdx fun k => decide (k.nm = s)

theorem idxM_is {ms : List Lf} {s : ByteArray} {k : Nat} (h : k < ms.length) (hk : ms[k].nm = s) (hb : ∀ j (hj : j < ms.length), j < k → ¬ ms[j].nm = s) : idxM ms s = k := by
  unfold idxM
  rw [List.findIdx_eq h]
  exact ⟨by simp [hk], fun j hj => by simpa using hb j (by omega) hj⟩

theorem idxM_none {ms : List Lf} {s : ByteArray} (hb : ∀ j (hj : j < ms.length), ¬ ms[j].nm = s) : idxM ms s = ms.length := by
  unfold idxM
  rw [List.findIdx_eq_length]
  intro p hp
  obtain ⟨i, hi, rfl⟩ := List.mem_iff_getElem.1 hp
  simpa using hb i hi

theorem idxM_lt {ms : List Lf} {s : ByteArray} : idxM ms s < ms.length ↔ ∃ j, ∃ (hj : j < ms.length), ms[j].nm = s := by
  unfold idxM
  rw [List.findIdx_lt_length]
  constructor
  · rintro ⟨p, hp, he⟩
    obtain ⟨j, hj, rfl⟩ := List.mem_iff_getElem.1 hp
    exact ⟨j, hj, by simpa using he⟩
  · rintro ⟨j, hj, he⟩
    exact ⟨ms[j], List.getElem_mem hj, by simpa using he⟩

theorem plainElem_bool_inv {H : Type} {P : Program} {e : TypeId} (he : P.underlying e = some .bool) {v : Value} {z : DataW H × List MemPlace} (h : plainElem P e v = some z) : ∃ x, v = .bool x ∧ z = (.lit (.bool x), []) := by
  unfold plainElem at h
  rw [he] at h
  cases v <;> simp at h
  subst h
  exact ⟨_, rfl, rfl⟩

theorem zero_bool (w : World) : (zeroValue 4).run Try.prog w = .ok (.bool false) w := by kernel_rfl

/-- A map has as many entries as it reads. -/
theorem map_tight {H : Type} {P : Program} {k : TypeId} {R : Value → Option (DataW H × List MemPlace)} {w : World} {b n : Nat} {D : DataW H} (h : w.ownsMap P k R b n D) : w.ownsMap P k R b (Maps.size D) D := by
  obtain ⟨es, clock, hb, F, hs, rfl⟩ := h
  exact ⟨es, clock, hb, F, by simp [Maps.size, length_sorted], rfl⟩

theorem map_kept {H : Type} {P : Program} {k : TypeId} {R : Value → Option (DataW H × List MemPlace)} {W w1 : World} {b n : Nat} {D : DataW H} (h : W.ownsMap P k R b n D) (hb : Below W.heap.size W w1) : w1.ownsMap P k R b n D := by
  have hlt := h.lt
  obtain ⟨es, clock, h1, r⟩ := h
  exact ⟨es, clock, (hb.block b hlt).trans h1, r⟩

/-- A set of strings, as a map from strings to bools; f: what a look-up gives. -/
def SetS (w : World) (b n : Nat) (f : ByteArray → Bool) : Prop :=
  ∃ D : DataW Unit, w.ownsMap Try.prog 9 (plainElem Try.prog 4) b n D ∧ ∀ s : ByteArray, s.size ≤ maxLen → D.atKey (.string s.data.toList) (.lit (.bool false)) = .lit (.bool (f s))

theorem SetS_made (w : World) : SetS (w.alloc (.map #[] 0)) w.heap.size 0 (fun _ => false) := ⟨.map [], World.ownsMap_made _ _ _ _, fun s hs => rfl⟩

theorem SetS_kept {W w1 : World} {b n : Nat} {f : ByteArray → Bool} (h : SetS W b n f) (hb : Below W.heap.size W w1) : SetS w1 b n f := by
  obtain ⟨D, h1, h2⟩ := h
  exact ⟨D, map_kept h1 hb, h2⟩

theorem SetS_look {W : World} {b n : Nat} {f : ByteArray → Bool} (h : SetS W b n f) (s : ByteArray) (hs : s.size ≤ maxLen) :
    (Instr.lookup 98 (.map (some b)) (.string s) false).run Try.prog W = .ok (.bool (f s)) W := by
  obtain ⟨D, h1, h2⟩ := h
  obtain ⟨v, ps, hrun, hv⟩ := h1.lookup (Maps.string_keyed Try.underlying9) Try.underlying98 (zero_bool W) (plainElem_bool Try.underlying4 false) (WideMaps.keyOf_string_mk Try.underlying9 hs)
  obtain ⟨x, rfl, hz⟩ := plainElem_bool_inv Try.underlying4 hv
  rw [h2 s hs] at hz
  simp only [Prod.mk.injEq, DataW.lit.injEq, Lit.bool.injEq, and_true] at hz
  rw [hrun, hz.1]

theorem str_key {s t : ByteArray} (h : s ≠ t) : Lit.string s.data.toList ≠ Lit.string t.data.toList := by
  intro e
  simp only [Lit.string.injEq] at e
  exact h (ByteArray.ext (Array.toList_inj.1 e))

theorem SetS_put {w1 : World} {b n : Nat} {f : ByteArray → Bool} {D : DataW Unit} (hD : Maps.IsMap D) (hf : ∀ s : ByteArray, s.size ≤ maxLen → D.atKey (.string s.data.toList) (.lit (.bool false)) = .lit (.bool (f s))) (s : ByteArray)
    (h : w1.ownsMap Try.prog 9 (plainElem Try.prog 4) b n (D.put (.string s.data.toList) (.lit (.bool true)))) : SetS w1 b n (fun t => decide (t = s) || f t) := by
  refine ⟨_, h, fun t ht => ?_⟩
  by_cases e : t = s
  · subst e
    rw [Maps.atKey_put_same hD (by trivial)]
    simp
  · rw [Maps.atKey_put_other (str_key e), hf t ht]
    simp [e]

theorem wp_storeS {ops : Array Oper} {rest : List Oper} {o : Oper} {a : Act} {Q : Exit → Act → World → Prop} (w : World) (hg : o.guard = none) (m x v : Operand) (hop : o.op = Op.mapUpdate 98 m x v) (b n : Nat) (f : ByteArray → Bool) (s : ByteArray)
    (hm : a.eval m = .map (some b)) (hx : a.eval x = .string s) (hv : a.eval v = .bool true) (h : SetS w b n f) (hs : s.size ≤ maxLen) (hn : n < maxLen)
    (hK : ∀ w', SetS w' b (n + 1) (fun t => decide (t = s) || f t) → w.grownBy w' (some b) → wpList Try.prog ops Q rest (a.put o.dst undef) w') : wpList Try.prog ops Q (o :: rest) a w := by
  obtain ⟨D, h1, h2⟩ := h
  exact wpList_mapUpdate_own w hg m x v _ hop _ _ (Maps.string_keyed Try.underlying9) Try.underlying98 _ b n D hm h1 hn _ _ _ hx hv (WideMaps.keyOf_string_mk Try.underlying9 hs) _ [] (plainElem_bool Try.underlying4 true)
    (fun w' ho hgr => hK w' (SetS_put h1.isMap h2 s ho) hgr)

theorem same_below {P : Program} {f : FuncId} {args : Array Value} {w : World} {v : Ending} (h : Calls P f args w fun e w' => e = v ∧ w = w') : Calls P f args w fun e w' => e = v ∧ Below w.heap.size w w' :=
  h.mono fun _ _ ⟨h1, h2⟩ => ⟨h1, by rw [← h2]; exact Below.refl _ _⟩

theorem specRises_any (v : Value) (zs : List Int) (n : Int) (hn : 0 ≤ n ∧ n ≤ 1000000) (w : World) (h : RdI w v zs) :
    Calls Try.prog 100 #[v, .int .i64 n] w fun e w' => e = .returned (.bool (risesB zs n)) ∧ Below w.heap.size w w' := by
  obtain ⟨A, c, rfl, hl, r1⟩ := RdI_slice h
  clear h
  have R := Lib.hid r1; clear r1
  have HBAD := Lib.hid (fun i (hi : i < zs.length) (hno : ¬ ((0 ≤ zs[i] ∧ zs[i] ≤ n - 1) ∧ ∀ _ : 0 < i, zs[i - 1] < zs[i])) => risesB_false (n := n) (fun hp => hno (hp i hi hi)))
  have HEND := Lib.hid (fun h => risesB_true (zs := zs) (n := n) h)
  generalize risesB zs n = G at *
  go_enter Try.func100, Try.ntmps100
  go_wp2_with fail
  go_loopw [5] (fun i wr => ∃ m : Nat, m ≤ zs.length ∧ i = .int .i64 (m : Int) ∧ RisesP zs n m ∧ Below w.heap.size w wr) (fun i _ => zs.length - (intOf i).toNat)
  case atStart => exact ⟨0, by omega, rfl, fun i _ h => by omega, Below.refl _ _⟩
  case round =>
    obtain ⟨m, hm, rfl, hrp, hb⟩ := hrel
    by_cases hlt : m < zs.length
    · obtain ⟨b, off, rfl, hbl, hc⟩ := R.out m hlt
      rw [← kept_cell hb b _ hbl] at hc
      have hbad := HBAD.out m hlt
      have hnx := RisesP_step hrp hlt
      have hwb := fun u => same_below (in_any zs[m] 0 (n - 1) u)
      have hblw : b < wr.heap.size := Nat.lt_of_lt_of_le hbl hb.size
      have fc := fun x : BelowBy wr => (kept_cell x.h b (off + m) hblw).trans hc
      by_cases h1 : 0 ≤ zs[m] ∧ zs[m] ≤ n - 1
      · have hin : inB zs[m] 0 (n - 1) = true := by simp [inB, h1]
        rw [hin] at hwb
        have HW := Lib.hid hwb; clear hwb hin
        by_cases h0 : 0 < m
        · obtain ⟨b', off', e', hbl', hc'⟩ := R.out (m - 1) (by omega)
          cases e'
          rw [← kept_cell hb b _ hbl'] at hc'
          rw [show off + (m - 1) = off + m - 1 by omega] at hc'
          have fd := fun x : BelowBy wr => (kept_cell x.h b (off + m - 1) hblw).trans hc'
          have hm1 : ((m : Int) - 1).toNat = m - 1 := by omega
          have hm2 : off + (m - 1) = off + m - 1 := by omega
          by_cases h2 : zs[m - 1] < zs[m]
          · have HNX := Lib.hid (hnx h1 (fun _ => h2)); clear hnx hbad hrp
            have h3 : ¬ zs[m] ≤ zs[m - 1] := by omega
            clear h1 h2
            generalize zs[m - 1] = y at *
            generalize zs[m] = x at *
            go_wp2_with fail
            refine wp_region_below (by kernel_rfl) (by kernel_rfl) ?_
            repeat (go_big_quiet_step ((go_at_call 81; exact below_call (fun _ => HW.out _))))
            refine wpQuiet_nil ?_
            intro wq hw'
            obtain ⟨⟨_, hbq⟩, hwq⟩ := hw'
            subst hwq
            (try dsimp only)
            go_wp2
            go_roundw
            case rel => exact ⟨m + 1, by omega, by go_num, HNX.out, kept_trans hb hbq⟩
            case measure => simp [intOf]; omega
          · have hG := hbad (fun hx => h2 (hx.2 h0))
            clear hbad hnx hrp
            have h3 : zs[m] ≤ zs[m - 1] := by omega
            subst hG
            clear h1 h2
            generalize zs[m - 1] = y at *
            generalize zs[m] = x at *
            go_wp2_with fail
            refine wp_region_below (by kernel_rfl) (by kernel_rfl) ?_
            repeat (go_big_quiet_step ((go_at_call 81; exact below_call (fun _ => HW.out _))))
            refine wpQuiet_nil ?_
            intro wq hw'
            obtain ⟨⟨_, hbq⟩, hwq⟩ := hw'
            subst hwq
            (try dsimp only)
            go_wp2
            go_ret
            exact ⟨rfl, kept_trans hb hbq⟩
        · have HNX := Lib.hid (hnx h1 (fun h => absurd h h0)); clear hnx hbad hrp
          have hm0 : m = 0 := by omega
          subst hm0
          clear h1
          generalize zs[0] = x at *
          have fd := fun u : BelowBy wr => (show u.w.cell? ⟨b, off, none⟩ = some (.int .i64 x) from fc u)
          clear fc
          go_wp2_with fail
          refine wp_region_below (by kernel_rfl) (by kernel_rfl) ?_
          repeat (go_big_quiet_step ((go_at_call 81; exact below_call (fun _ => HW.out _))))
          refine wpQuiet_nil ?_
          intro wq hw'
          obtain ⟨⟨_, hbq⟩, hwq⟩ := hw'
          subst hwq
          (try dsimp only)
          go_wp2
          go_roundw
          case rel => exact ⟨1, by omega, by go_num, HNX.out, kept_trans hb hbq⟩
          case measure => simp [intOf]; omega
      · have hG := hbad (fun hx => h1 hx.1)
        clear hbad hnx hrp
        subst hG
        have hin : inB zs[m] 0 (n - 1) = false := by simp [inB]; omega
        rw [hin] at hwb
        have HW := Lib.hid hwb; clear hwb hin h1
        generalize zs[m] = x at *
        go_wp2_with fail
        refine wp_region_below (by kernel_rfl) (by kernel_rfl) ?_
        repeat (go_big_quiet_step ((go_at_call 81; exact below_call (fun _ => HW.out _))))
        refine wpQuiet_nil ?_
        intro wq hw'
        obtain ⟨⟨_, hbq⟩, hwq⟩ := hw'
        subst hwq
        (try dsimp only)
        go_wp2
        go_ret
        exact ⟨rfl, kept_trans hb hbq⟩
    · have : m = zs.length := by omega
      subst this
      have hE := HEND.out hrp
      clear hrp
      subst hE
      go_wp2
      go_ret
      exact ⟨rfl, hb⟩

set_option maxHeartbeats 4000000 in
theorem specOne_any (b o : Nat) (k : Lf) (c : Value) (i : Int) (hi : 0 ≤ i ∧ i ≤ 1000000) (w : World) (h : LfAt w b o k c) (hs : k.nm.size ≤ 1000000) :
    Calls Try.prog 70 #[.pointer (some ⟨b, o, none⟩), .int .i64 i] w fun e w' => e = .returned (.bool (oneB k i)) ∧ Below w.heap.size w w' := by
  obtain ⟨hb, ⟨c0, c1, c2, c3, c4, c5, c6, c7, c8⟩, hr⟩ := h
  obtain ⟨A, cp, rfl, hl, _⟩ := RdI_slice hr
  have H := Lib.hid hr; clear hr
  have HN := Lib.hid (fun u => specIsName_any k.nm u hs)
  have HR := Lib.hid (fun u (q : RdI u (.slice A k.af.length cp) k.af) => specRises_any _ _ i hi u q)
  unfold oneB fldB
  obtain ⟨s, i1, i2, i3, i4, i5, i6, i7, zs⟩ := k
  dsimp only at *
  have HC := Lib.hid (show ∀ u, Below w.heap.size w u → u.cell? ⟨b, o + 4, none⟩ = some (.int .i64 i4) ∧ u.cell? ⟨b, o + 5, none⟩ = some (.int .i64 i5) ∧ u.cell? ⟨b, o + 6, none⟩ = some (.int .i64 i6) ∧ u.cell? ⟨b, o + 7, none⟩ = some (.int .i64 i7) ∧ u.cell? ⟨b, o + 8, none⟩ = some (.slice A zs.length cp) from
    fun u q => ⟨by rw [kept_cell q b _ hb]; exact c4, by rw [kept_cell q b _ hb]; exact c5, by rw [kept_cell q b _ hb]; exact c6, by rw [kept_cell q b _ hb]; exact c7, by rw [kept_cell q b _ hb]; exact c8⟩)
  have HP := fun u => specOk_any i2 i3 u
  have HQ := fun u => specOk_any i4 i5 u
  have HI := fun u => in_any i1 1 50000 u
  have HJ := fun u => in_any i6 0 2000 u
  have HK := fun u => in_any i7 1 1000000 u
  generalize inB i1 1 50000 = p2 at *
  generalize okP i2 i3 = p3 at *
  generalize okP i4 i5 = p4 at *
  generalize inB i6 0 2000 = p5 at *
  generalize inB i7 1 1000000 = p6 at *
  generalize nameB s = p1 at *
  generalize risesB zs i = p7 at *
  have HP := Lib.hid HP
  have HQ := Lib.hid HQ
  have HI := Lib.hid HI
  have HJ := Lib.hid HJ
  have HK := Lib.hid HK
  clear c4 c5 c6 c7 c8
  by_cases hF : (p1 && p2 && p3) = true
  case neg =>
    rw [show (p1 && (p2 && (p3 && (p4 && (p5 && p6)))) && p7) = false by cases p1 <;> cases p2 <;> cases p3 <;> simp_all]
    cases p1
    all_goals (try (cases p2))
    all_goals (try (cases p3))
    all_goals (try (exact absurd rfl hF))
    all_goals
      clear hF HC HJ HK HR
      go_enter Try.func70, Try.ntmps70
      go_wp2_with (first | (go_at_call 98; refine (HN.out _).mono ?_; rintro e w1 ⟨rfl, rfl⟩) | (go_at_call 81; refine (HI.out _).mono ?_; rintro e w1 ⟨rfl, rfl⟩) | (go_at_call 99; refine (HP.out _).mono ?_; rintro e w1 ⟨rfl, hb1⟩))
      go_ret
      first | exact ⟨rfl, by assumption⟩ | exact ⟨rfl, Below.refl _ _⟩
  case pos =>
    simp only [Bool.and_eq_true] at hF
    obtain ⟨⟨rfl, rfl⟩, rfl⟩ := hF
    simp only [Bool.true_and]
    cases p4
    case false =>
      go_enter Try.func70, Try.ntmps70
      go_wp2_with (first | (go_at_call 98; refine (HN.out _).mono ?_; rintro e w1 ⟨rfl, rfl⟩) | (go_at_call 81; refine (HI.out _).mono ?_; rintro e w1 ⟨rfl, rfl⟩))
      refine (HP.out _).mono ?_
      rintro e w1 ⟨rfl, b1⟩
      obtain ⟨c4, c5, c6, c7, c8⟩ := HC.out _ b1
      go_wp2_with fail
      refine (HQ.out _).mono ?_
      rintro e w2 ⟨rfl, b2⟩
      go_wp2
      go_ret
      exact ⟨rfl, kept_trans b1 b2⟩
    case true =>
    cases p5
    · simp only [Bool.false_and]
      go_enter Try.func70, Try.ntmps70
      go_wp2_with (first | (go_at_call 98; refine (HN.out _).mono ?_; rintro e w1 ⟨rfl, rfl⟩) | (go_at_call 81; refine (HI.out _).mono ?_; rintro e w1 ⟨rfl, rfl⟩))
      refine (HP.out _).mono ?_
      rintro e w1 ⟨rfl, b1⟩
      obtain ⟨c4, c5, c6, c7, c8⟩ := HC.out _ b1
      go_wp2_with fail
      refine (HQ.out _).mono ?_
      rintro e w2 ⟨rfl, b2⟩
      replace b2 := kept_trans b1 b2
      obtain ⟨_, _, d6, d7, d8⟩ := HC.out _ b2
      clear c4 c5 c6 c7 c8
      go_wp2_with fail
      refine (HJ.out _).mono ?_
      rintro e w0 ⟨rfl, rfl⟩
      go_wp2
      go_ret
      exact ⟨rfl, b2⟩
    cases p6
    · simp only [Bool.false_and, Bool.true_and]
      go_enter Try.func70, Try.ntmps70
      go_wp2_with (first | (go_at_call 98; refine (HN.out _).mono ?_; rintro e w1 ⟨rfl, rfl⟩) | (go_at_call 81; refine (HI.out _).mono ?_; rintro e w1 ⟨rfl, rfl⟩))
      refine (HP.out _).mono ?_
      rintro e w1 ⟨rfl, b1⟩
      obtain ⟨c4, c5, c6, c7, c8⟩ := HC.out _ b1
      go_wp2_with fail
      refine (HQ.out _).mono ?_
      rintro e w2 ⟨rfl, b2⟩
      replace b2 := kept_trans b1 b2
      obtain ⟨_, _, d6, d7, d8⟩ := HC.out _ b2
      clear c4 c5 c6 c7 c8
      go_wp2_with fail
      refine (HJ.out _).mono ?_
      rintro e w0 ⟨rfl, rfl⟩
      go_wp2_with fail
      refine (HK.out _).mono ?_
      rintro e w0 ⟨rfl, rfl⟩
      go_wp2
      go_ret
      exact ⟨rfl, b2⟩
    · simp only [Bool.true_and]
      go_enter Try.func70, Try.ntmps70
      go_wp2_with (first | (go_at_call 98; refine (HN.out _).mono ?_; rintro e w1 ⟨rfl, rfl⟩) | (go_at_call 81; refine (HI.out _).mono ?_; rintro e w1 ⟨rfl, rfl⟩))
      refine (HP.out _).mono ?_
      rintro e w1 ⟨rfl, b1⟩
      obtain ⟨c4, c5, c6, c7, c8⟩ := HC.out _ b1
      go_wp2_with fail
      refine (HQ.out _).mono ?_
      rintro e w2 ⟨rfl, b2⟩
      replace b2 := kept_trans b1 b2
      obtain ⟨_, _, d6, d7, d8⟩ := HC.out _ b2
      clear c4 c5 c6 c7 c8
      go_wp2_with fail
      refine (HJ.out _).mono ?_
      rintro e w0 ⟨rfl, rfl⟩
      go_wp2_with fail
      refine (HK.out _).mono ?_
      rintro e w0 ⟨rfl, rfl⟩
      go_wp2_with fail
      refine (HR.out _ (RdI_kept H.out b2)).mono ?_
      rintro e w3 ⟨rfl, b3⟩
      go_wp2
      go_ret
      exact ⟨rfl, kept_trans b2 b3⟩

theorem specLfNamed_any (v : Value) (ms : List Lf) (s : ByteArray) (w : World) (h : RdM w v ms) :
    Calls Try.prog 33 #[v, .string s] w fun e w' => e = .returned (.int .i64 (if idxM ms s < ms.length then (idxM ms s : Int) else -1)) ∧ Below w.heap.size w w' := by
  obtain ⟨A, c, rfl, _, hl, r⟩ := RdM_at h
  clear h
  have R := Lib.hid r; clear r
  have HIS := Lib.hid (fun k (h : k < ms.length) => @idxM_is ms s k h)
  have HNO := Lib.hid (@idxM_none ms s)
  generalize hG : (if idxM ms s < ms.length then (idxM ms s : Int) else -1) = G
  have HG := Lib.hid hG; clear hG
  refine same_below ?_
  go_enter Try.func33, Try.ntmps33
  go_wp2_with fail
  go_loop [5] (fun i => ∃ k : Nat, k ≤ ms.length ∧ i = .int .i64 (k : Int) ∧ ∀ j (hj : j < ms.length), j < k → ¬ ms[j].nm = s) (fun i => ms.length - (intOf i).toNat)
  case atStart => exact ⟨0, by omega, rfl, fun j _ h => by omega⟩
  case round =>
    obtain ⟨k, hk, rfl, hall⟩ := hrel
    by_cases hlt : k < ms.length
    · obtain ⟨b, off, cv, rfl, hkk⟩ := R.out k hlt
      obtain ⟨_, ⟨c0, _, _, _, _, _, _, _, _⟩, _⟩ := hkk
      by_cases he : ms[k].nm = s
      · have hi := HIS.out k hlt he hall
        have hE : G = (k : Int) := by rw [← HG.out, hi, if_pos hlt]
        rw [he] at c0
        have HE := Lib.hid hE; clear hE hi hall he
        go_wp2
        go_ret
        exact ⟨by rw [HE.out]; rfl, rfl⟩
      · have hne := str_ne he
        have hall2 : ∀ j (hj : j < ms.length), j < k + 1 → ¬ ms[j].nm = s := fun j hj hlt2 => by
          rcases Nat.lt_or_ge j k with h1 | h1
          · exact hall j hj h1
          · have : j = k := by omega
            subst this
            exact he
        have HA := Lib.hid hall2; clear hall2 hall
        generalize ms[k].nm = t at *
        clear he
        go_wp2
        go_round
        case rel => exact ⟨k + 1, by omega, by go_num, HA.out⟩
        case measure => simp [intOf]; omega
    · have : k = ms.length := by omega
      subst this
      have hi := HNO.out (fun j hj => hall j hj hj)
      have hE : G = -1 := by rw [← HG.out, hi, if_neg (by omega)]
      have HE := Lib.hid hE; clear hE hi hall
      go_wp2
      go_ret
      exact ⟨by rw [HE.out]; rfl, rfl⟩

theorem named_take {ms : List Lf} {n : Nat} (hn : n < ms.length) (s : ByteArray) :
    (∃ j, ∃ (hj : j < ms.length), j < n ∧ ms[j].nm = s) ↔ idxM (ms.take n) s < (ms.take n).length := by
  rw [idxM_lt]
  constructor
  · rintro ⟨j, hj, hjn, he⟩
    exact ⟨j, by simp; omega, by simpa using he⟩
  · rintro ⟨j, hj, he⟩
    simp at hj
    exact ⟨j, by omega, by omega, by simpa using he⟩

set_option maxHeartbeats 2000000 in
theorem specLOk_any (v : Value) (ms : List Lf) (w : World) (h : RdM w v ms) (hn : ∀ k ∈ ms, k.nm.size ≤ 1000000) (hlen : ms.length ≤ 1000000) :
    Calls Try.prog 32 #[v] w fun e w' => e = .returned (.bool (liftsB ms)) ∧ Below w.heap.size w w' := by
  have HM := Lib.hid h
  obtain ⟨A, c, rfl, hcap, hl, r⟩ := RdM_at h
  clear h
  have R := Lib.hid r; clear r
  have HN := Lib.hid hn; clear hn
  have HBAD := Lib.hid (fun i (hi : i < ms.length) (hno : ¬ (oneB ms[i] i = true ∧ ∀ j (hj : j < ms.length), j < i → ¬ ms[j].nm = ms[i].nm)) => liftsB_false (ms := ms) fun hp => hno (hp.1 i hi hi))
  have HEND := Lib.hid (show LiftsOk ms ms.length → liftsB ms = decide ((ms.length : Int) ≤ 10) from fun hok => by
    by_cases h : ms.length ≤ 10
    · rw [liftsB_true ⟨hok, h⟩]; symm; simp; omega
    · rw [liftsB_false (fun hp => h hp.2)]; symm; simp; omega)
  generalize liftsB ms = G at *
  go_enter Try.func32, Try.ntmps32
  go_wp2_with fail
  go_loopw [3] (fun i wr => ∃ m : Nat, m ≤ ms.length ∧ i = .int .i64 (m : Int) ∧ LiftsOk ms m ∧ Below w.heap.size w wr) (fun i _ => ms.length - (intOf i).toNat)
  case atStart => exact ⟨0, by omega, rfl, fun i _ h => by omega, Below.refl _ _⟩
  case round =>
    obtain ⟨m, hm, rfl, hok, hb⟩ := hrel
    by_cases hlt : m < ms.length
    · obtain ⟨b, off, cv, rfl, hk⟩ := R.out m hlt
      have hnm := HN.out ms[m] (List.getElem_mem hlt)
      have hk := LfAt_kept hk hb
      have hO := fun (u : World) (q : Below wr.heap.size wr u) => specOne_any b (off + m * 9) ms[m] cv (m : Int) (by omega) u (LfAt_kept hk q) hnm
      have hTK := RdM_take (RdM_kept HM.out hb) m (by omega)
      have hD := fun (u : World) (q : Below wr.heap.size wr u) => specLfNamed_any (.slice (some ⟨b, off, none⟩) m c) (ms.take m) ms[m].nm u (RdM_kept hTK q)
      have hiff := named_take hlt ms[m].nm
      have hbad := HBAD.out m hlt
      have hstep := LiftsOk_step hok hlt
      have c0 := hk.2.1.1
      have hbl := hk.1
      have fc := fun x : BelowBy wr => (kept_cell x.h b (off + m * 9) hbl).trans c0
      clear hk hTK hok c0
      cases h1 : oneB ms[m] m
      · rw [h1] at hO
        have hG := hbad (fun hx => by rw [h1] at hx; cases hx.1)
        subst hG
        have HO := Lib.hid hO; clear hO hD hiff hbad hstep h1
        generalize ms[m].nm = s at *
        go_wp2_with fail
        refine wp_region_below (by kernel_rfl) (by kernel_rfl) ?_
        repeat (go_big_quiet_step ((first | (go_at_call 70; exact below_call (fun hbx => HO.out _ hbx)))))
        refine wpQuiet_nil ?_
        intro wq hw'
        obtain ⟨⟨_, hbq⟩, hwq⟩ := hw'
        subst hwq
        (try dsimp only)
        go_wp2
        go_ret
        exact ⟨rfl, kept_trans hb hbq⟩
      · rw [h1] at hO
        by_cases h2 : ∃ j, ∃ (hj : j < ms.length), j < m ∧ ms[j].nm = ms[m].nm
        · have hG := hbad (fun hx => by obtain ⟨j, hj, hjm, he⟩ := h2; exact hx.2 j hj hjm he)
          subst hG
          rw [if_pos (hiff.1 h2)] at hD
          generalize idxM (ms.take m) ms[m].nm = q at *
          have hge : (0 : Int) ≤ (q : Int) := by omega
          have HO := Lib.hid hO; have HD := Lib.hid hD; clear hO hD hiff hbad hstep h1 h2
          generalize ms[m].nm = s at *
          go_wp2_with fail
          refine wp_region_below (by kernel_rfl) (by kernel_rfl) ?_
          repeat (go_big_quiet_step ((first | (go_at_call 70; exact below_call (fun hbx => HO.out _ hbx)) | (go_at_call 33; exact below_call (fun hbx => HD.out _ hbx)))))
          refine wpQuiet_nil ?_
          intro wq hw'
          obtain ⟨⟨_, hbq⟩, hwq⟩ := hw'
          subst hwq
          (try dsimp only)
          go_wp2
          go_ret
          exact ⟨rfl, kept_trans hb hbq⟩
        · rw [if_neg (fun h => h2 (hiff.2 h))] at hD
          have HNX := Lib.hid (hstep h1 (fun j hj hjm he => h2 ⟨j, hj, hjm, he⟩))
          have HO := Lib.hid hO; have HD := Lib.hid hD; clear hO hD hiff hbad hstep h1 h2
          generalize ms[m].nm = s at *
          go_wp2_with fail
          refine wp_region_below (by kernel_rfl) (by kernel_rfl) ?_
          repeat (go_big_quiet_step ((first | (go_at_call 70; exact below_call (fun hbx => HO.out _ hbx)) | (go_at_call 33; exact below_call (fun hbx => HD.out _ hbx)))))
          refine wpQuiet_nil ?_
          intro wq hw'
          obtain ⟨⟨_, hbq⟩, hwq⟩ := hw'
          subst hwq
          (try dsimp only)
          go_wp2
          go_roundw
          case rel => exact ⟨m + 1, by omega, by go_num, HNX.out, kept_trans hb hbq⟩
          case measure => simp [intOf]; omega
    · have : m = ms.length := by omega
      subst this
      have hE := HEND.out hok
      clear hok
      subst hE
      go_wp2
      go_ret
      exact ⟨rfl, hb⟩

theorem within1_any (lo hi n : Int) (g c : Nat) (w : World) (hg : g < w.heap.size) (h0 : w.cell? ⟨g, 0, none⟩ = some (.int .i64 n)) :
    Calls Try.prog 74 #[.int .i64 lo, .int .i64 hi, .slice (some ⟨g, 0, none⟩) 1 c] w fun e w' => e = .returned (.bool (inB n lo hi)) ∧ Below w.heap.size w w' := by
  have H := within_any lo hi _ [n] w (rdI1 (c := c) hg h0)
  rwa [show ([n].all fun n => inB n lo hi) = inB n lo hi by simp] at H

/-- One more than the number before a place; 0 at the start. -/
def lastU (zs : List Int) (m : Nat) : Int := if m = 0 then 0 else (zs[m - 1]?).getD 0 + 1

theorem lastU_in {zs : List Int} {k : Int} {m : Nat} (hr : RisesP zs k m) (hm : m < zs.length) : inB zs[m] (lastU zs m) (k - 1) = true ↔ (0 ≤ zs[m] ∧ zs[m] ≤ k - 1) ∧ ∀ _ : 0 < m, zs[m - 1] < zs[m] := by
  unfold lastU
  by_cases h0 : m = 0
  · subst h0
    simp [inB]
  · have h1 := (hr (m - 1) (by omega) (by omega)).1
    have hm0 : 0 < m := by omega
    rw [if_neg h0, List.getElem?_eq_getElem (by omega)]
    simp only [Option.getD_some, inB, Bool.and_eq_true, decide_eq_true_eq]
    constructor
    · intro h
      exact ⟨⟨by omega, by omega⟩, fun _ => by omega⟩
    · rintro ⟨⟨_, h2⟩, h3⟩
      have := h3 hm0
      exact ⟨by omega, h2⟩

theorem lastU_step {zs : List Int} {m : Nat} (hm : m < zs.length) : lastU zs (m + 1) = zs[m] + 1 := by
  simp [lastU, hm]

theorem implAfter_any (v : Value) (zs : List Int) (k : Int) (hk : 0 ≤ k ∧ k ≤ 1000000) (w : World) (h : RdI w v zs) :
    Calls Try.prog 77 #[v, .int .i64 k] w fun e w' => e = .returned (.bool (risesB zs k)) ∧ Below w.heap.size w w' := by
  obtain ⟨A, c, rfl, hl, r1⟩ := RdI_slice h
  clear h
  have R := Lib.hid r1; clear r1
  have HBAD := Lib.hid (fun i (hi : i < zs.length) (hno : ¬ ((0 ≤ zs[i] ∧ zs[i] ≤ k - 1) ∧ ∀ _ : 0 < i, zs[i - 1] < zs[i])) => risesB_false (n := k) (fun hp => hno (hp i hi hi)))
  have HEND := Lib.hid (fun h => risesB_true (zs := zs) (n := k) h)
  generalize risesB zs k = G at *
  go_enter Try.func77, Try.ntmps77
  go_wp2_with fail
  go_loopw [5, 10] (fun l i wr => ∃ m : Nat, m ≤ zs.length ∧ i = .int .i64 (m : Int) ∧ l = .int .i64 (lastU zs m) ∧ RisesP zs k m ∧ Below w.heap.size w wr) (fun _ i _ => zs.length - (intOf i).toNat)
  case atStart => exact ⟨0, by omega, rfl, rfl, fun i _ h => by omega, Below.refl _ _⟩
  case round =>
    obtain ⟨m, hm, rfl, rfl, hrp, hb⟩ := hrel
    by_cases hlt : m < zs.length
    · obtain ⟨b, off, rfl, hbl, hc⟩ := R.out m hlt
      rw [← kept_cell hb b _ hbl] at hc
      have hbad := HBAD.out m hlt
      have hnx := RisesP_step hrp hlt
      have hin := lastU_in hrp hlt
      have hst := lastU_step hlt
      have hW := fun (g : Nat) (u : World) (q1 : g < u.heap.size) (q2 : u.cell? ⟨g, 0, none⟩ = some (.int .i64 zs[m])) => within1_any (lastU zs m) (k - 1) zs[m] g 1 u q1 q2
      clear hrp
      have HST := Lib.hid hst; clear hst
      generalize lastU zs m = l at *
      cases hI : inB zs[m] l (k - 1)
      · rw [hI] at hin hW
        have hG := hbad (fun hx => by cases hin.2 hx)
        subst hG
        have HW := Lib.hid hW; clear hW hin hbad hnx hI
        generalize zs[m] = x at *
        go_wp2_with fail
        refine (HW.out _ _ (by go_size) (by go_simp)).mono ?_
        rintro e w1 ⟨rfl, hb1⟩
        have b1 := kept_trans (a := wr) (by go_grown) hb1
        go_wp2
        go_ret
        exact ⟨rfl, kept_trans hb b1⟩
      · rw [hI] at hin hW
        have hp := hin.1 rfl
        have HNX := Lib.hid (hnx hp.1 hp.2)
        have hxb := hp.1
        have HW := Lib.hid hW; clear hW hin hbad hnx hI hp
        generalize zs[m] = x at *
        go_wp2_with fail
        refine (HW.out _ _ (by go_size) (by go_simp)).mono ?_
        rintro e w1 ⟨rfl, hb1⟩
        have b1 := kept_trans (a := wr) (by go_grown) hb1
        go_wp2
        go_roundw
        case rel => exact ⟨m + 1, by omega, by go_num, by rw [HST.out], HNX.out, kept_trans hb b1⟩
        case measure => simp [intOf]; omega
    · have : m = zs.length := by omega
      subst this
      have hE := HEND.out hrp
      clear hrp
      subst hE
      go_wp2
      go_ret
      exact ⟨rfl, hb⟩

set_option maxHeartbeats 4000000 in
theorem implOne_any (k : Lf) (c : Value) (i : Int) (hi : 0 ≤ i ∧ i ≤ 1000000) (w : World) (hr : RdI w c k.af) (hs : k.nm.size ≤ 1000000) :
    Calls Try.prog 43 #[.agg #[.string k.nm, .int .i64 k.wt, .int .i64 k.fx, .int .i64 k.fy, .int .i64 k.tx, .int .i64 k.ty, .int .i64 k.h, .int .i64 k.dl, c], .int .i64 i] w fun e w' => e = .returned (.bool (oneB k i)) ∧ Below w.heap.size w w' := by
  obtain ⟨A, cp, rfl, hl, _⟩ := RdI_slice hr
  have H := Lib.hid hr; clear hr
  have HN := Lib.hid (fun u => implIsName_any k.nm u hs)
  have HR := Lib.hid (fun u (q : RdI u (.slice A k.af.length cp) k.af) => implAfter_any _ _ i hi u q)
  unfold oneB fldB
  obtain ⟨s, i1, i2, i3, i4, i5, i6, i7, zs⟩ := k
  dsimp only at *
  have HP := fun u => validPlace_any i2 i3 u
  have HQ := fun u => validPlace_any i4 i5 u
  have HI := fun g u q1 q2 => within1_any 1 50000 i1 g 1 u q1 q2
  have HJ := fun u => validHeight_any i6 u
  have HK := fun g u q1 q2 => within1_any 1 1000000 i7 g 1 u q1 q2
  generalize inB i1 1 50000 = p2 at *
  generalize okP i2 i3 = p3 at *
  generalize okP i4 i5 = p4 at *
  generalize inB i6 0 2000 = p5 at *
  generalize inB i7 1 1000000 = p6 at *
  generalize nameB s = p1 at *
  generalize risesB zs i = p7 at *
  have HP := Lib.hid HP
  have HQ := Lib.hid HQ
  have HI := Lib.hid HI
  have HJ := Lib.hid HJ
  have HK := Lib.hid HK
  cases p1
  · go_enter Try.func43, Try.ntmps43
    go_wp2_with fail
    refine (HN.out _).mono ?_
    rintro e w1 ⟨rfl, b1⟩
    refine kept_at b1 (w.heap.size) (by go_size) fun c1_0 z1_0 s1_0 => ?_
    replace b1 := kept_trans (a := w) (by go_grown) b1
    have l1 := kept_cell b1
    have zz1 := b1.size
    go_wp2
    go_ret
    exact ⟨rfl, b1⟩
  cases p2
  · go_enter Try.func43, Try.ntmps43
    go_wp2_with fail
    refine (HN.out _).mono ?_
    rintro e w1 ⟨rfl, b1⟩
    refine kept_at b1 (w.heap.size) (by go_size) fun c1_0 z1_0 s1_0 => ?_
    replace b1 := kept_trans (a := w) (by go_grown) b1
    have l1 := kept_cell b1
    have zz1 := b1.size
    go_wp2_with fail
    refine (HI.out _ _ (by go_size) (by go_simp)).mono ?_
    rintro e w2 ⟨rfl, b2⟩
    refine kept_at b2 (w.heap.size) (by go_size) fun c2_0 z2_0 s2_0 => ?_
    replace b2 := kept_trans (a := w) (by go_grown) b2
    have l2 := kept_cell b2
    have zz2 := b2.size
    go_wp2
    go_ret
    exact ⟨rfl, b2⟩
  cases p3
  · go_enter Try.func43, Try.ntmps43
    go_wp2_with fail
    refine (HN.out _).mono ?_
    rintro e w1 ⟨rfl, b1⟩
    refine kept_at b1 (w.heap.size) (by go_size) fun c1_0 z1_0 s1_0 => ?_
    replace b1 := kept_trans (a := w) (by go_grown) b1
    have l1 := kept_cell b1
    have zz1 := b1.size
    go_wp2_with fail
    refine (HI.out _ _ (by go_size) (by go_simp)).mono ?_
    rintro e w2 ⟨rfl, b2⟩
    refine kept_at b2 (w.heap.size) (by go_size) fun c2_0 z2_0 s2_0 => ?_
    replace b2 := kept_trans (a := w) (by go_grown) b2
    have l2 := kept_cell b2
    have zz2 := b2.size
    go_wp2_with fail
    refine (HP.out _).mono ?_
    rintro e w3 ⟨rfl, b3⟩
    refine kept_at b3 (w.heap.size) (by go_size) fun c3_0 z3_0 s3_0 => ?_
    replace b3 := kept_trans (a := w) (by go_grown) b3
    have l3 := kept_cell b3
    have zz3 := b3.size
    go_wp2
    go_ret
    exact ⟨rfl, b3⟩
  cases p4
  · go_enter Try.func43, Try.ntmps43
    go_wp2_with fail
    refine (HN.out _).mono ?_
    rintro e w1 ⟨rfl, b1⟩
    refine kept_at b1 (w.heap.size) (by go_size) fun c1_0 z1_0 s1_0 => ?_
    replace b1 := kept_trans (a := w) (by go_grown) b1
    have l1 := kept_cell b1
    have zz1 := b1.size
    go_wp2_with fail
    refine (HI.out _ _ (by go_size) (by go_simp)).mono ?_
    rintro e w2 ⟨rfl, b2⟩
    refine kept_at b2 (w.heap.size) (by go_size) fun c2_0 z2_0 s2_0 => ?_
    replace b2 := kept_trans (a := w) (by go_grown) b2
    have l2 := kept_cell b2
    have zz2 := b2.size
    go_wp2_with fail
    refine (HP.out _).mono ?_
    rintro e w3 ⟨rfl, b3⟩
    refine kept_at b3 (w.heap.size) (by go_size) fun c3_0 z3_0 s3_0 => ?_
    replace b3 := kept_trans (a := w) (by go_grown) b3
    have l3 := kept_cell b3
    have zz3 := b3.size
    go_wp2_with fail
    refine (HQ.out _).mono ?_
    rintro e w4 ⟨rfl, b4⟩
    refine kept_at b4 (w.heap.size) (by go_size) fun c4_0 z4_0 s4_0 => ?_
    replace b4 := kept_trans (a := w) (by go_grown) b4
    have l4 := kept_cell b4
    have zz4 := b4.size
    go_wp2
    go_ret
    exact ⟨rfl, b4⟩
  cases p5
  · go_enter Try.func43, Try.ntmps43
    go_wp2_with fail
    refine (HN.out _).mono ?_
    rintro e w1 ⟨rfl, b1⟩
    refine kept_at b1 (w.heap.size) (by go_size) fun c1_0 z1_0 s1_0 => ?_
    replace b1 := kept_trans (a := w) (by go_grown) b1
    have l1 := kept_cell b1
    have zz1 := b1.size
    go_wp2_with fail
    refine (HI.out _ _ (by go_size) (by go_simp)).mono ?_
    rintro e w2 ⟨rfl, b2⟩
    refine kept_at b2 (w.heap.size) (by go_size) fun c2_0 z2_0 s2_0 => ?_
    replace b2 := kept_trans (a := w) (by go_grown) b2
    have l2 := kept_cell b2
    have zz2 := b2.size
    go_wp2_with fail
    refine (HP.out _).mono ?_
    rintro e w3 ⟨rfl, b3⟩
    refine kept_at b3 (w.heap.size) (by go_size) fun c3_0 z3_0 s3_0 => ?_
    replace b3 := kept_trans (a := w) (by go_grown) b3
    have l3 := kept_cell b3
    have zz3 := b3.size
    go_wp2_with fail
    refine (HQ.out _).mono ?_
    rintro e w4 ⟨rfl, b4⟩
    refine kept_at b4 (w.heap.size) (by go_size) fun c4_0 z4_0 s4_0 => ?_
    replace b4 := kept_trans (a := w) (by go_grown) b4
    have l4 := kept_cell b4
    have zz4 := b4.size
    go_wp2_with fail
    refine (HJ.out _).mono ?_
    rintro e w0 ⟨rfl, rfl⟩
    go_wp2
    go_ret
    exact ⟨rfl, b4⟩
  cases p6
  · go_enter Try.func43, Try.ntmps43
    go_wp2_with fail
    refine (HN.out _).mono ?_
    rintro e w1 ⟨rfl, b1⟩
    refine kept_at b1 (w.heap.size) (by go_size) fun c1_0 z1_0 s1_0 => ?_
    replace b1 := kept_trans (a := w) (by go_grown) b1
    have l1 := kept_cell b1
    have zz1 := b1.size
    go_wp2_with fail
    refine (HI.out _ _ (by go_size) (by go_simp)).mono ?_
    rintro e w2 ⟨rfl, b2⟩
    refine kept_at b2 (w.heap.size) (by go_size) fun c2_0 z2_0 s2_0 => ?_
    replace b2 := kept_trans (a := w) (by go_grown) b2
    have l2 := kept_cell b2
    have zz2 := b2.size
    go_wp2_with fail
    refine (HP.out _).mono ?_
    rintro e w3 ⟨rfl, b3⟩
    refine kept_at b3 (w.heap.size) (by go_size) fun c3_0 z3_0 s3_0 => ?_
    replace b3 := kept_trans (a := w) (by go_grown) b3
    have l3 := kept_cell b3
    have zz3 := b3.size
    go_wp2_with fail
    refine (HQ.out _).mono ?_
    rintro e w4 ⟨rfl, b4⟩
    refine kept_at b4 (w.heap.size) (by go_size) fun c4_0 z4_0 s4_0 => ?_
    replace b4 := kept_trans (a := w) (by go_grown) b4
    have l4 := kept_cell b4
    have zz4 := b4.size
    go_wp2_with fail
    refine (HJ.out _).mono ?_
    rintro e w0 ⟨rfl, rfl⟩
    go_wp2_with fail
    refine (HK.out _ _ (by go_size) (by go_simp)).mono ?_
    rintro e w6 ⟨rfl, b6⟩
    refine kept_at b6 (w.heap.size) (by go_size) fun c6_0 z6_0 s6_0 => ?_
    replace b6 := kept_trans (a := w) (by go_grown) b6
    have l6 := kept_cell b6
    have zz6 := b6.size
    go_wp2
    go_ret
    exact ⟨rfl, b6⟩
  · go_enter Try.func43, Try.ntmps43
    go_wp2_with fail
    refine (HN.out _).mono ?_
    rintro e w1 ⟨rfl, b1⟩
    refine kept_at b1 (w.heap.size) (by go_size) fun c1_0 z1_0 s1_0 => ?_
    replace b1 := kept_trans (a := w) (by go_grown) b1
    have l1 := kept_cell b1
    have zz1 := b1.size
    go_wp2_with fail
    refine (HI.out _ _ (by go_size) (by go_simp)).mono ?_
    rintro e w2 ⟨rfl, b2⟩
    refine kept_at b2 (w.heap.size) (by go_size) fun c2_0 z2_0 s2_0 => ?_
    replace b2 := kept_trans (a := w) (by go_grown) b2
    have l2 := kept_cell b2
    have zz2 := b2.size
    go_wp2_with fail
    refine (HP.out _).mono ?_
    rintro e w3 ⟨rfl, b3⟩
    refine kept_at b3 (w.heap.size) (by go_size) fun c3_0 z3_0 s3_0 => ?_
    replace b3 := kept_trans (a := w) (by go_grown) b3
    have l3 := kept_cell b3
    have zz3 := b3.size
    go_wp2_with fail
    refine (HQ.out _).mono ?_
    rintro e w4 ⟨rfl, b4⟩
    refine kept_at b4 (w.heap.size) (by go_size) fun c4_0 z4_0 s4_0 => ?_
    replace b4 := kept_trans (a := w) (by go_grown) b4
    have l4 := kept_cell b4
    have zz4 := b4.size
    go_wp2_with fail
    refine (HJ.out _).mono ?_
    rintro e w0 ⟨rfl, rfl⟩
    go_wp2_with fail
    refine (HK.out _ _ (by go_size) (by go_simp)).mono ?_
    rintro e w6 ⟨rfl, b6⟩
    refine kept_at b6 (w.heap.size) (by go_size) fun c6_0 z6_0 s6_0 => ?_
    replace b6 := kept_trans (a := w) (by go_grown) b6
    have l6 := kept_cell b6
    have zz6 := b6.size
    go_wp2_with fail
    refine (HR.out _ (RdI_kept H.out b6)).mono ?_
    rintro e w7 ⟨rfl, b7⟩
    replace b7 := kept_trans (a := w) (by go_grown) b7
    have l7 := kept_cell b7
    have zz7 := b7.size
    go_wp2
    go_ret
    exact ⟨rfl, b7⟩

/-- Whether one of the first n lifts has a name. -/
def takenF (ms : List Lf) (n : Nat) (s : ByteArray) : Bool := (ms.take n).any fun k => decide (s = k.nm)

theorem takenF_iff {ms : List Lf} {n : Nat} {s : ByteArray} : takenF ms n s = true ↔ ∃ j, ∃ (hj : j < ms.length), j < n ∧ ms[j].nm = s := by
  simp only [takenF, List.any_eq_true, decide_eq_true_eq]
  constructor
  · rintro ⟨k, hk, rfl⟩
    obtain ⟨j, hj, rfl⟩ := List.mem_iff_getElem.1 hk
    simp at hj
    exact ⟨j, by omega, by omega, by simp⟩
  · rintro ⟨j, hj, hjn, rfl⟩
    exact ⟨ms[j], List.mem_iff_getElem.2 ⟨j, by simp; omega, by simp⟩, rfl⟩

theorem takenF_step {ms : List Lf} {n : Nat} (hn : n < ms.length) : (fun t => decide (t = ms[n].nm) || takenF ms n t) = takenF ms (n + 1) := by
  funext t
  unfold takenF
  rw [← List.take_append_getElem hn, List.any_append, Bool.or_comm]
  simp

set_option maxHeartbeats 2000000 in
theorem implVL_any (v : Value) (ms : List Lf) (w : World) (h : RdM w v ms) (hn : ∀ k ∈ ms, k.nm.size ≤ 1000000) (hlen : ms.length ≤ 1000000) :
    Calls Try.prog 40 #[v] w fun e w' => e = .returned (.bool (liftsB ms)) ∧ Below w.heap.size w w' := by
  obtain ⟨A, c, rfl, hcap, hl, r⟩ := RdM_at h
  clear h
  by_cases h10 : ms.length ≤ 10
  case neg =>
    rw [liftsB_false (fun hp => h10 hp.2)]
    clear r
    go_enter Try.func40, Try.ntmps40
    go_wp2
    go_ret
    exact ⟨rfl, Below.refl _ _⟩
  have R := Lib.hid r; clear r
  have HN := Lib.hid hn; clear hn
  have HBAD := Lib.hid (fun i (hi : i < ms.length) (hno : ¬ (oneB ms[i] i = true ∧ ∀ j (hj : j < ms.length), j < i → ¬ ms[j].nm = ms[i].nm)) => liftsB_false (ms := ms) fun hp => hno (hp.1 i hi hi))
  have HEND := Lib.hid (show LiftsOk ms ms.length → liftsB ms = true from fun hok => liftsB_true ⟨hok, h10⟩)
  generalize liftsB ms = G at *
  have hmm := @run_makeMap Try.prog
  go_enter Try.func40, Try.ntmps40
  go_wp2_with fail
  go_loopw [12] (fun i wr => ∃ m : Nat, m ≤ ms.length ∧ i = .int .i64 (m : Int) ∧ LiftsOk ms m ∧ SetS wr w.heap.size m (takenF ms m) ∧ Below w.heap.size w wr) (fun i _ => ms.length - (intOf i).toNat)
  case atStart => exact ⟨0, by omega, rfl, fun i _ h => by omega, SetS_made w, by go_grown⟩
  case round =>
    obtain ⟨m, hm, rfl, hok, hset, hb⟩ := hrel
    by_cases hlt : m < ms.length
    · obtain ⟨b, off, cv, rfl, hk⟩ := R.out m hlt
      have hnm := HN.out ms[m] (List.getElem_mem hlt)
      have hnx : ms[m].nm.size ≤ maxLen := by unfold maxLen; omega
      have hk := LfAt_kept hk hb
      have hbad := HBAD.out m hlt
      have hstep := LiftsOk_step hok hlt
      have htk := takenF_iff (ms := ms) (n := m) (s := ms[m].nm)
      have hts := takenF_step hlt
      clear hok
      obtain ⟨hbl, ⟨c0, c1, c2, c3, c4, c5, c6, c7, c8⟩, hr⟩ := hk
      obtain ⟨A3, cp3, rfl, _, _⟩ := RdI_slice hr
      have hV := fun (u : World) (q : Below wr.heap.size wr u) => implOne_any ms[m] _ (m : Int) (by omega) u (RdI_kept hr q) hnm
      have HSET := Lib.hid hset; clear hset hr
      cases h1 : oneB ms[m] m
      · rw [h1] at hV
        have hG := hbad (fun hx => by rw [h1] at hx; cases hx.1)
        subst hG
        have HV := Lib.hid hV; clear hV hbad hstep htk hts h1 hnm hnx
        generalize ms[m] = k at *
        obtain ⟨s, i1, i2, i3, i4, i5, i6, i7, zs⟩ := k
        dsimp only at *
        go_wp2_with fail
        refine (HV.out _ (by go_grown)).mono ?_
        rintro e w1 ⟨rfl, hb1⟩
        have b1 := kept_trans (a := wr) (by go_grown) hb1
        go_wp2
        go_ret
        exact ⟨rfl, kept_trans hb b1⟩
      rw [h1] at hV
      cases h2 : takenF ms m ms[m].nm
      · have HNX := Lib.hid (hstep h1 (fun j hj hjm he => by rw [htk.2 ⟨j, hj, hjm, he⟩] at h2; cases h2))
        have HTS := Lib.hid hts
        have HV := Lib.hid hV; clear hV hbad hstep htk hts h1 hnm
        have HL := Lib.hid (fun u (q : SetS u w.heap.size m (takenF ms m)) => SetS_look q ms[m].nm hnx)
        rw [h2] at HL
        clear h2
        generalize ms[m] = k at *
        obtain ⟨s, i1, i2, i3, i4, i5, i6, i7, zs⟩ := k
        dsimp only at *
        go_wp2_with fail
        refine (HV.out _ (by go_grown)).mono ?_
        rintro e w1 ⟨rfl, hb1⟩
        refine kept_at hb1 wr.heap.size (by go_size) fun d1 z1 s1 => ?_
        have b1 := kept_trans (a := wr) (by go_grown) hb1
        have HS1 := Lib.hid (SetS_kept HSET.out b1)
        have hlk := HL.out _ HS1.out
        go_wp2_with (at_mapUpdate; refine wp_storeS _ rfl _ _ _ rfl w.heap.size m (takenF ms m) s rfl rfl rfl HS1.out hnx (by unfold maxLen; omega) ?_; intro w2 hset2 hg2)
        refine ⟨⟨m + 1, by omega, by go_num, HNX.out, ?_, ?_⟩, by simp [intOf]; omega⟩
        · rw [← HTS.out]
          exact hset2
        · exact grown_below (kept_trans hb b1) hg2 (fun g hg => by simp at hg; omega)
      · have hG := hbad (fun hx => by obtain ⟨j, hj, hjm, he⟩ := htk.1 h2; exact hx.2 j hj hjm he)
        subst hG
        have HV := Lib.hid hV; clear hV hbad hstep htk hts h1 hnm
        have HL := Lib.hid (fun u (q : SetS u w.heap.size m (takenF ms m)) => SetS_look q ms[m].nm hnx)
        rw [h2] at HL
        clear h2 hnx
        generalize ms[m] = k at *
        obtain ⟨s, i1, i2, i3, i4, i5, i6, i7, zs⟩ := k
        dsimp only at *
        go_wp2_with fail
        refine (HV.out _ (by go_grown)).mono ?_
        rintro e w1 ⟨rfl, hb1⟩
        refine kept_at hb1 wr.heap.size (by go_size) fun d1 z1 s1 => ?_
        have b1 := kept_trans (a := wr) (by go_grown) hb1
        have hlk := HL.out _ (SetS_kept HSET.out b1)
        go_wp2
        go_ret
        exact ⟨rfl, kept_trans hb b1⟩
    · have : m = ms.length := by omega
      subst this
      have hE := HEND.out hok
      clear hok
      subst hE
      go_wp2
      go_ret
      exact ⟨rfl, hb⟩

def afAt (ms : List Lf) (k : Nat) : List Int := ((ms[k]?).map Lf.af).getD []

theorem afAt_eq {ms : List Lf} {k : Nat} (h : k < ms.length) : afAt ms k = ms[k].af := by simp [afAt, h]

theorem lifts_after {ms : List Lf} (h : liftsB ms = true) (k : Nat) (hk : k < ms.length) (j : Nat) (hj : j < ms[k].af.length) : 0 ≤ ms[k].af[j] ∧ ms[k].af[j] ≤ (k : Int) - 1 := by
  have hp := (liftsB_iff.1 h).1 k hk hk
  have h1 : risesB ms[k].af k = true := by
    have := hp.1
    simp only [oneB, Bool.and_eq_true] at this
    exact this.2
  exact ((risesB_iff.1 h1) j hj hj).1

/-- A set of indices as a map from numbers to bools; f: what a look-up gives, c: how many there are. -/
def SetI (w : World) (b : Nat) (f : Int → Bool) (c : Nat) : Prop :=
  ∃ D : DataW Unit, w.ownsMap Try.prog 2 (plainElem Try.prog 4) b c D ∧ (∀ i : Int, (Lit.int .i64 i).wf = true → D.atKey (.int .i64 i) (.lit (.bool false)) = .lit (.bool (f i)) ∧ Maps.has D (.int .i64 i) = f i) ∧ Maps.size D = c

theorem SetI_made (w : World) : SetI (w.alloc (.map #[] 0)) w.heap.size (fun _ => false) 0 := ⟨.map [], World.ownsMap_made _ _ _ _, fun s hs => ⟨rfl, rfl⟩, rfl⟩

theorem SetI_kept {W w1 : World} {b c : Nat} {f : Int → Bool} (h : SetI W b f c) (hb : Below W.heap.size W w1) : SetI w1 b f c := by
  obtain ⟨D, h1, h2⟩ := h
  exact ⟨D, map_kept h1 hb, h2⟩

theorem SetI_lt {W : World} {b c : Nat} {f : Int → Bool} (h : SetI W b f c) : b < W.heap.size := by
  obtain ⟨D, h1, h2⟩ := h
  exact h1.lt

theorem SetI_look {W : World} {b c : Nat} {f : Int → Bool} (h : SetI W b f c) (i : Int) (hi : (Lit.int .i64 i).wf = true) :
    (Instr.lookup 84 (.map (some b)) (.int .i64 i) false).run Try.prog W = .ok (.bool (f i)) W := by
  obtain ⟨D, h1, h2, h3⟩ := h
  obtain ⟨v, ps, hrun, hv⟩ := h1.lookup (Maps.int_keyed Try.underlying2) Try.underlying84 (zero_bool W) (plainElem_bool Try.underlying4 false) (Maps.keyOf_int_mk Try.underlying2 hi)
  obtain ⟨x, rfl, hz⟩ := plainElem_bool_inv Try.underlying4 hv
  rw [(h2 i hi).1] at hz
  simp only [Prod.mk.injEq, DataW.lit.injEq, Lit.bool.injEq, and_true] at hz
  rw [hrun, hz.1]

theorem SetI_put {w1 : World} {b c n : Nat} {f : Int → Bool} {D : DataW Unit} (hD : Maps.Tidy D) (hf : ∀ i : Int, (Lit.int .i64 i).wf = true → D.atKey (.int .i64 i) (.lit (.bool false)) = .lit (.bool (f i)) ∧ Maps.has D (.int .i64 i) = f i) (hc : Maps.size D = c) (i : Int) (hi : (Lit.int .i64 i).wf = true)
    (h : w1.ownsMap Try.prog 2 (plainElem Try.prog 4) b n (D.put (.int .i64 i) (.lit (.bool true)))) : SetI w1 b (fun t => decide (t = i) || f t) (if f i then c else c + 1) := by
  have hs : Maps.size (D.put (.int .i64 i) (.lit (.bool true))) = if f i then c else c + 1 := by rw [Maps.size_put hD, (hf i hi).2, hc]
  refine ⟨_, hs ▸ map_tight h, fun t ht => ?_, hs⟩
  by_cases e : t = i
  · subst e
    rw [Maps.atKey_put_same hD.isMap (by trivial), Maps.has_put_same hD.isMap (by trivial)]
    simp
  · have hne : Lit.int .i64 t ≠ Lit.int .i64 i := by simpa using e
    rw [Maps.atKey_put_other hne, Maps.has_put_other hne, (hf t ht).1, (hf t ht).2]
    simp [e]

theorem wp_storeI {ops : Array Oper} {rest : List Oper} {o : Oper} {a : Act} {Q : Exit → Act → World → Prop} (w : World) (hg : o.guard = none) (m x v : Operand) (hop : o.op = Op.mapUpdate 84 m x v) (b c : Nat) (f : Int → Bool) (i : Int)
    (hm : a.eval m = .map (some b)) (hx : a.eval x = .int .i64 i) (hv : a.eval v = .bool true) (h : SetI w b f c) (hi : (Lit.int .i64 i).wf = true) (hn : c < maxLen)
    (hK : ∀ w', SetI w' b (fun t => decide (t = i) || f t) (if f i then c else c + 1) → w.grownBy w' (some b) → wpList Try.prog ops Q rest (a.put o.dst undef) w') : wpList Try.prog ops Q (o :: rest) a w := by
  obtain ⟨D, h1, h2, h3⟩ := h
  exact wpList_mapUpdate_own w hg m x v _ hop _ _ (Maps.int_keyed Try.underlying2) Try.underlying84 _ b c D hm h1 hn _ _ _ hx hv (Maps.keyOf_int_mk Try.underlying2 hi) _ [] (plainElem_bool Try.underlying4 true)
    (fun w' ho hgr => hK w' (SetI_put (h1.tidy (Maps.int_keyed Try.underlying2)) h2 h3 i hi ho) hgr)

/-- Whether a lift can be done after a set of others. -/
def canF (ms : List Lf) (f : Int → Bool) (k : Nat) : Bool := (afAt ms k).all f && !f k

def readyL (ms : List Lf) (f : Int → Bool) : List Int := idxsL (canF ms f) ms.length

set_option maxHeartbeats 2000000 in
theorem implReady_any (v : Value) (ms : List Lf) (bm c0 : Nat) (f : Int → Bool) (w : World) (h : RdM w v ms) (hset : SetI w bm f c0) (h10 : ms.length ≤ 10) (hA : ∀ k (hk : k < ms.length) j (hj : j < ms[k].af.length), 0 ≤ ms[k].af[j] ∧ ms[k].af[j] ≤ (k : Int) - 1) :
    Calls Try.prog 86 #[v, .map (some bm)] w fun e w' => ∃ v', e = .returned v' ∧ RowI w' w.heap.size w'.heap.size v' (readyL ms f) ∧ Below w.heap.size w w' := by
  obtain ⟨A, c, rfl, hcap, hl, r⟩ := RdM_at h
  have R := Lib.hid r; clear r h
  have HA := Lib.hid hA; clear hA
  have HSET := Lib.hid hset; clear hset
  have hwf : ∀ i : Int, 0 ≤ i → i ≤ 10 → (Lit.int .i64 i).wf = true := fun i h1 h2 => WalkArith.wf_i64 (by omega)
  have HLK := Lib.hid (fun (u : World) (q : Below w.heap.size w u) (i : Int) (h1 : 0 ≤ i) (h2 : i ≤ 10) => SetI_look (SetI_kept HSET.out q) i (hwf i h1 h2))
  clear hwf
  unfold readyL
  go_enter Try.func86, Try.ntmps86
  go_wp2
  go_step3
  go_wp2
  go_step3
  go_wp2_with fail
  go_loopg [5, 13] ms.length (fun g o i wr => ∃ k : Nat, k + g = ms.length ∧ i = .int .i64 (k : Int) ∧ RowI wr w.heap.size wr.heap.size o (idxsL (canF ms f) k) ∧ Below w.heap.size w wr)
  case atStart => exact ⟨0, by omega, rfl, RowI_new w, by go_grown⟩
  case round =>
    obtain ⟨k, hkg, rfl, hrow, hb⟩ := hrel
    have hsz := hb.size
    cases gk with
    | zero =>
      have : k = ms.length := by omega
      subst this
      go_wp2
      (try rw [Exit.noGoto_ret])
      go_ret
      exact ⟨_, rfl, hrow, hb⟩
    | succ g =>
      have hlt : k < ms.length := by omega
      obtain ⟨b, off, cv, rfl, q⟩ := R.out k hlt
      have hr := q.2.2
      obtain ⟨hbl, ⟨c0, c1, c2, c3, c4, c5, c6, c7, c8⟩, _⟩ := LfAt_kept q hb
      clear q
      have hA := HA.out k hlt
      have hst : idxsL (canF ms f) (k + 1) = if canF ms f k then idxsL (canF ms f) k ++ [(k : Int)] else idxsL (canF ms f) k := rfl
      have hln := idxsL_len (canF ms f) k
      unfold canF at hst
      rw [afAt_eq hlt] at hst
      have HST := Lib.hid (show idxsL (canF ms f) (k + 1) = if ms[k].af.all f && !f k then idxsL (canF ms f) k ++ [(k : Int)] else idxsL (canF ms f) k from hst); clear hst
      have HROW := Lib.hid hrow; clear hrow
      generalize ms[k] = kk at *
      obtain ⟨s, i1, i2, i3, i4, i5, i6, i7, zs⟩ := kk
      dsimp only at *
      obtain ⟨A3, cp3, rfl, hl3, r3⟩ := RdI_slice hr
      have R3 := Lib.hid r3; clear r3 hr
      have HA3 := Lib.hid hA; clear hA
      have HX := Lib.hid (show Below w.heap.size w (wr.alloc (.cells #[.string s, .int .i64 i1, .int .i64 i2, .int .i64 i3, .int .i64 i4, .int .i64 i5, .int .i64 i6, .int .i64 i7, .slice A3 zs.length cp3] 36)) by go_grown)
      have hlk := HLK.out _ HX.out k (by omega) (by omega)
      cases hfk : f k
      · rw [hfk] at hlk
        have HFK := Lib.hid hfk; clear hfk
        go_wp2_with fail
        go_loopg [24] zs.length (fun g2 i wy => ∃ j : Nat, j + g2 = zs.length ∧ i = .int .i64 (j : Int) ∧ (zs.take j).all f = true ∧ Below wr.heap.size wr wy)
        case atStart => exact ⟨0, by omega, rfl, rfl, by go_grown⟩
        case round =>
          obtain ⟨j, hjg, rfl, hall, hby⟩ := hrel
          have hbw := kept_trans hb hby
          cases gk with
          | zero =>
            have : j = zs.length := by omega
            subst this
            rw [List.take_length] at hall
            have hE := HST.out
            rw [hall, HFK.out] at hE
            simp only [Bool.not_false, Bool.and_self, if_true] at hE
            have HE := Lib.hid hE; clear hE hall
            have hrow2 := RowI_lo (RowI_kept HROW.out hby) (Nat.le_refl w.heap.size) hby.size
            go_wp2_with (at_builtin; refine wp_appendI rfl (.tmp 33) (.tmp 35) rfl w.heap.size _ _ _ rfl hrow2 rfl hbw (Nat.le_refl _) hbw.size (by omega) ?_; intro v' w' hrow' hb' _)
            go_roundg g
            case measure => omega
            case rel => exact ⟨k + 1, by omega, by go_num, by rw [HE.out]; exact hrow', hb'⟩
          | succ g2 =>
            have hlj : j < zs.length := by omega
            obtain ⟨b2, off2, rfl, hbl2, d0⟩ := R3.out j hlj
            rw [← kept_cell hbw b2 _ hbl2] at d0
            have ha := HA3.out j hlj
            have hl2 := HLK.out _ hbw zs[j] ha.1 (by omega)
            have hstep : (zs.take (j + 1)).all f = f zs[j] := by
              rw [← List.take_append_getElem hlj, List.all_append, hall]
              simp
            have hno : f zs[j] = false → zs.all f = false := fun h => by
              rw [List.all_eq_false]
              exact ⟨zs[j], List.getElem_mem hlj, by simp [h]⟩
            cases hfj : f zs[j]
            · have hE := HST.out
              rw [hno hfj] at hE
              simp only [Bool.false_and, Bool.false_eq_true, if_false] at hE
              have HE := Lib.hid hE; clear hE hall hno hstep
              rw [hfj] at hl2
              clear hfj
              generalize zs[j] = x at *
              go_wp2
              go_roundg g
              case measure => omega
              case rel => exact ⟨k + 1, by omega, by go_num, by rw [HE.out]; exact RowI_lo (RowI_kept HROW.out hby) (Nat.le_refl _) hby.size, hbw⟩
            · rw [hfj] at hl2 hstep
              have HSTEP := Lib.hid hstep
              clear hall hno hstep hfj
              generalize zs[j] = x at *
              go_wp2
              go_roundg g2
              case measure => omega
              case rel => exact ⟨j + 1, by omega, by go_num, HSTEP.out, hby⟩
      · rw [hfk] at hlk
        have hE := HST.out
        rw [hfk] at hE
        simp only [Bool.not_true, Bool.and_false, Bool.false_eq_true, if_false] at hE
        have HE := Lib.hid hE; clear hE hfk
        go_wp2
        go_roundg g
        case measure => omega
        case rel => exact ⟨k + 1, by omega, by go_num, by rw [HE.out]; exact RowI_lo (RowI_kept HROW.out (by go_grown)) (Nat.le_refl _) (by simp), HX.out⟩

/-- Whether a set has an index, as bits. -/
def bitB (d k : Int) : Bool := decide (0 ≤ k) && d.toNat.testBit k.toNat

theorem bitB_and : ∀ (k : Fin 10) (d : Fin 1024), (bits BinOp.and IntKind.i64 ((d.val : Int) / (2 ^ k.val)) 1 == 1) = (d.val).testBit k.val := by decide +kernel

theorem specBit_any (d k : Int) (hd : 0 ≤ d ∧ d < 1024) (hk : 0 ≤ k ∧ k < 10) (w : World) :
    Calls Try.prog 105 #[.int .i64 d, .int .i64 k] w fun e w' => e = .returned (.bool (bitB d k)) ∧ w = w' := by
  have hB := bitB_and ⟨k.toNat, by omega⟩ ⟨d.toNat, by omega⟩
  simp only [Int.toNat_of_nonneg hd.1] at hB
  unfold bitB
  rw [← hB, decide_eq_true hk.1, Bool.true_and]
  clear hB
  rcases (show k = 0 ∨ k = 1 ∨ k = 2 ∨ k = 3 ∨ k = 4 ∨ k = 5 ∨ k = 6 ∨ k = 7 ∨ k = 8 ∨ k = 9 by omega) with rfl | rfl | rfl | rfl | rfl | rfl | rfl | rfl | rfl | rfl
  all_goals
    go_enter Try.func105, Try.ntmps105
    go_wp2
    go_ret
    exact ⟨by first | rfl | simp, rfl⟩

theorem specCan_any (v : Value) (ms : List Lf) (d : Int) (hd : 0 ≤ d ∧ d < 1024) (k : Nat) (hk : k < ms.length) (h10 : ms.length ≤ 10) (hA : ∀ k (hk : k < ms.length) j (hj : j < ms[k].af.length), 0 ≤ ms[k].af[j] ∧ ms[k].af[j] ≤ (k : Int) - 1) (w : World) (h : RdM w v ms) :
    Calls Try.prog 84 #[v, .int .i64 (k : Int), .int .i64 d] w fun e w' => e = .returned (.bool (canF ms (bitB d) k)) ∧ w = w' := by
  obtain ⟨A, c, rfl, hcap, hl, r⟩ := RdM_at h
  obtain ⟨b, off, cv, rfl, q⟩ := r k hk
  obtain ⟨hbl, ⟨_, _, _, _, _, _, _, _, c8⟩, hr⟩ := q
  have hA := hA k hk
  unfold canF
  rw [afAt_eq hk]
  have HK := Lib.hid (fun u => specBit_any d (k : Int) hd (by omega) u)
  generalize ms[k].af = zs at *
  obtain ⟨A3, cp3, rfl, hl3, r3⟩ := RdI_slice hr
  have R3 := Lib.hid r3; clear r3 hr r h
  have HA3 := Lib.hid hA; clear hA
  have HG := Lib.hid (show ∀ x ∈ zs, bitB d x = false → zs.all (bitB d) = false from fun x hx h => by rw [List.all_eq_false]; exact ⟨x, hx, by simp [h]⟩)
  have hf := fun (j : Nat) (hj : j < zs.length) (hx : 0 ≤ zs[j] ∧ zs[j] ≤ (k : Int) - 1) (u : World) => specBit_any d zs[j] hd (by omega) u
  have HF := Lib.hid hf; clear hf
  generalize bitB d k = fk at *
  generalize hR : (zs.all (bitB d) && !fk) = R
  have HR := Lib.hid hR; clear hR
  go_enter Try.func84, Try.ntmps84
  go_wp2_with fail
  go_loop [7] (fun i => ∃ j : Nat, j ≤ zs.length ∧ i = .int .i64 (j : Int) ∧ (zs.take j).all (bitB d) = true) (fun i => zs.length - (intOf i).toNat)
  case atStart => exact ⟨0, by omega, rfl, rfl⟩
  case round =>
    obtain ⟨j, hj, rfl, hall⟩ := hrel
    by_cases hlj : j < zs.length
    · obtain ⟨b2, off2, rfl, hbl2, d0⟩ := R3.out j hlj
      have hbt := HF.out j hlj (HA3.out j hlj)
      have hstep : (zs.take (j + 1)).all (bitB d) = bitB d zs[j] := by
        rw [← List.take_append_getElem hlj, List.all_append, hall]
        simp
      have hno := HG.out zs[j] (List.getElem_mem hlj)
      cases hfj : bitB d zs[j]
      · rw [hfj] at hbt
        have hE : R = false := by rw [← HR.out, hno hfj]; rfl
        subst hE
        have HB := Lib.hid hbt; clear hbt hstep hno hfj hall
        generalize zs[j] = x at *
        go_wp2_with (go_at_call 105; refine (HB.out _).mono ?_; rintro e w1 ⟨rfl, rfl⟩)
        go_ret
        exact ⟨rfl, rfl⟩
      · rw [hfj] at hbt hstep
        have HB := Lib.hid hbt
        have HST := Lib.hid hstep
        clear hbt hstep hno hfj hall
        generalize zs[j] = x at *
        go_wp2_with (go_at_call 105; refine (HB.out _).mono ?_; rintro e w1 ⟨rfl, rfl⟩)
        go_round
        case rel => exact ⟨j + 1, by omega, by go_num, HST.out⟩
        case measure => simp [intOf]; omega
    · have : j = zs.length := by omega
      subst this
      rw [List.take_length] at hall
      have hE : R = !fk := by rw [← HR.out, hall]; simp
      subst hE
      go_wp2_with (go_at_call 105; refine (HK.out _).mono ?_; rintro e w1 ⟨rfl, rfl⟩)
      go_ret
      exact ⟨rfl, rfl⟩

set_option maxHeartbeats 2000000 in
theorem specReady_any (v : Value) (ms : List Lf) (d : Int) (hd : 0 ≤ d ∧ d < 1024) (h10 : ms.length ≤ 10) (hA : ∀ k (hk : k < ms.length) j (hj : j < ms[k].af.length), 0 ≤ ms[k].af[j] ∧ ms[k].af[j] ≤ (k : Int) - 1) (w : World) (h : RdM w v ms) :
    Calls Try.prog 57 #[v, .int .i64 d] w fun e w' => ∃ v', e = .returned v' ∧ RowI w' w.heap.size w'.heap.size v' (readyL ms (bitB d)) ∧ Below w.heap.size w w' := by
  have HC := Lib.hid (fun k hk u (q : RdM u v ms) => specCan_any v ms d hd k hk h10 hA u q)
  have HM := Lib.hid h
  obtain ⟨A, c, rfl, hcap, hl, r⟩ := RdM_at h
  clear r h hA
  unfold readyL
  go_enter Try.func57, Try.ntmps57
  go_wp2_with fail
  go_loopw [5, 6] (fun o i wr => ∃ k : Nat, k ≤ ms.length ∧ i = .int .i64 (k : Int) ∧ RowI wr w.heap.size wr.heap.size o (idxsL (canF ms (bitB d)) k) ∧ Below w.heap.size w wr) (fun _ i _ => ms.length - (intOf i).toNat)
  case atStart => exact ⟨0, by omega, rfl, RowI_new w, by go_grown⟩
  case round =>
    obtain ⟨k, hk, rfl, hrow, hb⟩ := hrel
    have hsz := hb.size
    by_cases hlt : k < ms.length
    · have hcan := HC.out k hlt _ (RdM_kept HM.out hb)
      have hst : idxsL (canF ms (bitB d)) (k + 1) = if canF ms (bitB d) k then idxsL (canF ms (bitB d)) k ++ [(k : Int)] else idxsL (canF ms (bitB d)) k := rfl
      have hln := idxsL_len (canF ms (bitB d)) k
      cases hE : canF ms (bitB d) k
      · rw [hE] at hcan hst
        simp only [Bool.false_eq_true, if_false] at hst
        have HCN := Lib.hid hcan; have HST := Lib.hid hst; clear hcan hst hE
        go_wp2_with (go_at_call 84; refine HCN.out.mono ?_; rintro e w1 ⟨rfl, rfl⟩)
        go_roundw
        case rel => exact ⟨k + 1, by omega, by go_num, by rw [HST.out]; exact hrow, hb⟩
        case measure => simp [intOf]; omega
      · rw [hE] at hcan hst
        simp only [if_true] at hst
        have HCN := Lib.hid hcan; have HST := Lib.hid hst; clear hcan hst hE
        go_wp2_with (first | (go_at_call 84; refine HCN.out.mono ?_; rintro e w1 ⟨rfl, rfl⟩) | (at_builtin; refine wp_appendI rfl (.tmp 18) (.tmp 20) rfl w.heap.size _ _ _ rfl hrow rfl hb (Nat.le_refl _) hb.size (by omega) ?_; intro v' w' hrow' hb' _))
        go_roundw
        case rel => exact ⟨k + 1, by omega, by go_num, by rw [HST.out]; exact hrow', hb'⟩
        case measure => simp [intOf]; omega
    · have : k = ms.length := by omega
      subst this
      go_wp2
      go_ret
      exact ⟨_, rfl, hrow, hb⟩

theorem pow_small {n : Nat} (h : n ≤ 10) : (2 : Int) ^ n ≤ 1024 ∧ 1 ≤ (2 : Int) ^ n := by
  rcases (show n = 0 ∨ n = 1 ∨ n = 2 ∨ n = 3 ∨ n = 4 ∨ n = 5 ∨ n = 6 ∨ n = 7 ∨ n = 8 ∨ n = 9 ∨ n = 10 by omega) with rfl | rfl | rfl | rfl | rfl | rfl | rfl | rfl | rfl | rfl | rfl <;> decide

theorem bits_or_pow (d : Int) (hd : 0 ≤ d ∧ d < 1024) (k : Nat) (hk : k < 10) : ∃ Y : Int, (∀ p : Int, p = 2 ^ k → bits .or .i64 d p = Y) ∧ (0 ≤ Y ∧ Y < 1024) ∧ bitB Y = fun t => decide (t = (k : Int)) || bitB d t := by
  have key : ∀ (k : Fin 10) (d : Fin 1024), bits .or .i64 (d.val : Int) (2 ^ k.val) = ((d.val ||| 2 ^ k.val : Nat) : Int) ∧ (d.val ||| 2 ^ k.val) < 1024 := by decide +kernel
  have h := key ⟨k, hk⟩ ⟨d.toNat, by omega⟩
  simp only [Int.toNat_of_nonneg hd.1] at h
  refine ⟨((d.toNat ||| 2 ^ k : Nat) : Int), fun p hp => by rw [hp]; exact h.1, ⟨by omega, by have := h.2; omega⟩, ?_⟩
  funext t
  unfold bitB
  rw [Int.toNat_natCast, Nat.testBit_or, Nat.testBit_two_pow]
  by_cases ht : 0 ≤ t
  · have e1 : decide (k = t.toNat) = decide (t = (k : Int)) := decide_eq_decide.2 (by omega)
    rw [e1, Bool.or_comm]
    simp [ht]
  · have e1 : decide (t = (k : Int)) = false := by simp; omega
    simp [ht, e1]

theorem idxsL_nil (p : Nat → Bool) (n : Nat) (h : idxsL p n = []) : ∀ k, k < n → p k = false := by
  induction n with
  | zero => intro k hk; omega
  | succ n ih =>
    intro k hk
    have e : idxsL p (n + 1) = if p n then idxsL p n ++ [(n : Int)] else idxsL p n := rfl
    rw [e] at h
    cases hp : p n
    · rw [hp] at h
      simp only [Bool.false_eq_true, if_false] at h
      rcases Nat.lt_or_ge k n with h1 | h1
      · exact ih h k h1
      · obtain rfl : k = n := by omega
        exact hp
    · rw [hp] at h
      simp at h

theorem SetI_far {W w1 : World} {b c : Nat} {f : Int → Bool} {row : Option Nat} (h : SetI W b f c) (hg : W.grownBy w1 row) (hr : row ≠ some b) : SetI w1 b f c := by
  have hlt := SetI_lt h
  obtain ⟨D, h1, h2⟩ := h
  obtain ⟨es, clock, e1, r⟩ := h1
  exact ⟨D, ⟨es, clock, (hg.block b hlt (fun e => hr e.symm)).trans e1, r⟩, h2⟩

theorem bitB_out (d t : Int) (hd : 0 ≤ d ∧ d < 1024) (ht : ¬ (0 ≤ t ∧ t < 10)) : bitB d t = false := by
  unfold bitB
  by_cases h0 : 0 ≤ t
  · have : d.toNat.testBit t.toNat = false := Nat.testBit_lt_two_pow (Nat.lt_of_lt_of_le (show d.toNat < 2 ^ 10 by omega) (Nat.pow_le_pow_right (by omega) (by omega)))
    simp [this]
  · simp [h0]

/-- The step of a range over a set of indices; what the map holds at the key is left open. -/
theorem wp_nextI {w : World} {ops : Array Oper} {rest : List Oper} {o : Oper} {a : Act} {Q : Exit → Act → World → Prop} (hg : o.guard = none) (it : Operand) (hop : o.op = Op.next it false) (b r n : Nat) (D : DataW Unit) (left : Lit → Bool) (cnt : Nat)
    (hit : a.eval it = .pointer (some ⟨r, 0, none⟩)) (h : w.ranges Try.prog 2 (plainElem Try.prog 4) b r n D left cnt)
    (hDone : cnt = 0 → (∀ kl, left kl = false) → wpList Try.prog ops Q rest (a.put o.dst (.tuple #[.bool false])) w)
    (hMore : ∀ (x : Int) (v : Value) (w' : World) (cnt' : Nat), (Lit.int .i64 x).wf = true → left (.int .i64 x) = true → w'.ranges Try.prog 2 (plainElem Try.prog 4) b r n D (fun z => left z && !z.sameKey (.int .i64 x)) cnt' → cnt' < cnt →
      w.grownBy w' (some r) → w'.heap.size = w.heap.size → (Instr.entry (.pointer (some ⟨r, 0, none⟩))).run Try.prog w' = .ok (.tuple #[.int .i64 x, v]) w' → wpList Try.prog ops Q rest (a.put o.dst (.tuple #[.bool true, .int .i64 x, v])) w') :
    wpList Try.prog ops Q (o :: rest) a w :=
  wpList_next_ranges w hg it hop 2 (Maps.int_keyed Try.underlying2) (plainElem Try.prog 4) (Value.int .i64) id (fun key kl hkey => by obtain ⟨x, rfl, _⟩ := Maps.keyOf_int_inv Try.underlying2 hkey; exact ⟨x, rfl⟩) (fun v y hv => ⟨v, rfl⟩)
    b r n D left cnt hit h hDone (fun x c kl y w' cnt' hkey hlk hv hat hrg hlt hgr hsz hen => by
      obtain ⟨x', ex, rfl, hwx⟩ := Maps.keyOf_int_inv Try.underlying2 hkey
      cases ex
      exact hMore x c w' cnt' hwx hlk hrg hlt hgr hsz hen)

set_option maxHeartbeats 2000000 in
theorem number_any (bm c : Nat) (f : Int → Bool) (w : World) (h : SetI w bm f c) (hf : ∀ i, f i = true → 0 ≤ i ∧ i < 10) :
    Calls Try.prog 85 #[.map (some bm)] w fun e w' => ∃ d, e = .returned (.int .i64 d) ∧ (0 ≤ d ∧ d < 1024) ∧ bitB d = f ∧ Below w.heap.size w w' := by
  obtain ⟨D, hown, hD, _⟩ := h
  have HD := Lib.hid hD; clear hD
  have HF := Lib.hid hf; clear hf
  have hbm := hown.lt
  have h0 : ∀ i, bitB 0 i = false := fun i => by simp [bitB]
  have H0 := Lib.hid h0; clear h0
  have hsk : ∀ i x : Int, (Lit.int .i64 i).sameKey (.int .i64 x) = decide (i = x) := fun i x => by
    by_cases e : i = x
    · subst e; simp [WideAt.sameKey_self (show WideAt.IsKeyLit (Lit.int .i64 i) from trivial)]
    · cases hh : (Lit.int .i64 i).sameKey (.int .i64 x)
      · simp [e]
      · exact absurd (by simpa using WideAt.sameKey_eq hh) e
  have HSK := Lib.hid hsk; clear hsk
  go_enter Try.func85, Try.ntmps85
  go_wp2_with (first | (at_range; refine wpList_range_own _ rfl _ 84 rfl 2 4 (Maps.int_keyed Try.underlying2) Try.underlying84 _ bm c D rfl hown ?_; intro w0 hrg0 hg0 hs0))
  go_frame
  go_loopw [3, 4] (fun n _ wr => ∃ (left : Lit → Bool) (cnt : Nat) (d : Int), wr.ranges Try.prog 2 (plainElem Try.prog 4) bm w.heap.size c D left cnt ∧ n = .int .i64 d ∧ (0 ≤ d ∧ d < 1024) ∧ (∀ i : Int, (Lit.int .i64 i).wf = true → left (.int .i64 i) = true → f i = true) ∧ (∀ i : Int, (Lit.int .i64 i).wf = true → bitB d i = (f i && !left (.int .i64 i))) ∧ Below w.heap.size w wr) (fun _ _ wr => wr.rangeLeft bm w.heap.size)
  case atStart => exact ⟨_, _, 0, hrg0, rfl, by omega, fun i hi hl => by rw [(HD.out i hi).2] at hl; exact hl, fun i hi => by rw [(HD.out i hi).2, H0.out]; cases f i <;> rfl, grown_below (Below.refl _ _) hg0 (fun g hg => by cases hg)⟩
  case round =>
    obtain ⟨left, cnt, d, hrg, rfl, hd, hlf, hbt, hb⟩ := hrel
    have HLF := Lib.hid hlf; clear hlf
    have HBT := Lib.hid hbt; clear hbt
    go_wp2_with (first | (at_next; refine wp_nextI rfl _ rfl bm w.heap.size c D left cnt rfl hrg ?_ ?_))
    · intro _ hl0
      have hE : bitB d = f := by
        funext i
        by_cases hi : 0 ≤ i ∧ i < 10
        · rw [HBT.out i (WalkArith.wf_i64 (by omega)), hl0]; simp
        · rw [bitB_out d i hd hi]
          cases hfi : f i
          · rfl
          · exact absurd (HF.out i hfi) hi
      have HE := Lib.hid hE; clear hE
      go_wp2
      go_ret
      exact ⟨d, rfl, hd, HE.out, hb⟩
    · intro x cv w1 cnt1 hwx hlx hrg1 hlt hg1 hs1 hen
      have hfx := HLF.out x hwx hlx
      have hx10 := HF.out x hfx
      obtain ⟨k, rfl⟩ : ∃ k : Nat, x = (k : Int) := ⟨x.toNat, by omega⟩
      obtain ⟨Y, hY, hY2, hY3⟩ := bits_or_pow d hd k (by omega)
      have hnew : ∀ i : Int, (Lit.int .i64 i).wf = true → bitB Y i = (f i && !(left (.int .i64 i) && !(Lit.int .i64 i).sameKey (.int .i64 (k : Int)))) := fun i hi => by
        rw [hY3, HSK.out]
        show (decide (i = (k : Int)) || bitB d i) = _
        rw [HBT.out i hi]
        by_cases e : i = (k : Int)
        · subst e; simp [hfx]
        · simp [e]
      have HNEW := Lib.hid hnew; clear hnew
      have HLF2 := Lib.hid (show ∀ i : Int, (Lit.int .i64 i).wf = true → (left (.int .i64 i) && !(Lit.int .i64 i).sameKey (.int .i64 (k : Int))) = true → f i = true from fun i hi hl => HLF.out i hi (by simp only [Bool.and_eq_true] at hl; exact hl.1))
      have HHY := Lib.hid hY; clear hY hY3
      have hrl1 := hrg1.left_eq
      have hrl := hrg.left_eq
      have b1 := grown_below hb hg1 (fun g hg => by simp at hg; omega)
      have HM := Lib.hid (show w1.rangeLeft bm w.heap.size < wr.rangeLeft bm w.heap.size by rw [hrl1, hrl]; exact hlt)
      have HRG1 := Lib.hid hrg1
      have HB1 := Lib.hid b1
      clear hrl1 hrl hrg hrg1 hlx hfx HLF HBT b1 hb hlt hg1 hs1 hg0 hs0 hrg0
      rcases (show k = 0 ∨ k = 1 ∨ k = 2 ∨ k = 3 ∨ k = 4 ∨ k = 5 ∨ k = 6 ∨ k = 7 ∨ k = 8 ∨ k = 9 by omega) with rfl | rfl | rfl | rfl | rfl | rfl | rfl | rfl | rfl | rfl
      all_goals
        have hb1 := HHY.out _ rfl
        clear HHY
        simp at hb1
        go_wp2
        go_roundw
        case rel => exact ⟨_, cnt1, Y, HRG1.out, by first | rfl | rw [hb1], hY2, HLF2.out, HNEW.out, HB1.out⟩
        case measure => exact HM.out

def AfOk (ms : List Lf) : Prop := ∀ k, ∀ a ∈ afAt ms k, 0 ≤ a ∧ a ≤ (k : Int) - 1

theorem AfOk_of {ms : List Lf} (hA : ∀ k (hk : k < ms.length) j (hj : j < ms[k].af.length), 0 ≤ ms[k].af[j] ∧ ms[k].af[j] ≤ (k : Int) - 1) : AfOk ms := by
  intro k a ha
  by_cases hk : k < ms.length
  · rw [afAt_eq hk] at ha
    obtain ⟨j, hj, rfl⟩ := List.getElem_of_mem ha
    exact hA k hk j hj
  · simp [afAt, List.getElem?_eq_none (show ms.length ≤ k by omega)] at ha

/-- A set with one more index. -/
def insB (f : Int → Bool) (k : Int) (t : Int) : Bool := decide (t = k) || f t

def sumL : List Int → Int
  | [] => 0
  | x :: l => x + sumL l

theorem sumL_app (a b : List Int) : sumL (a ++ b) = sumL a + sumL b := by
  induction a with
  | nil => simp [sumL]
  | cons x l ih => simp only [List.cons_append, sumL, ih]; omega

/-- In how many orders r further lifts can be done after a set of others. -/
def cntF (ms : List Lf) : Nat → (Int → Bool) → Int
  | 0, _ => 1
  | r + 1, f => sumL ((readyL ms f).map fun k => cntF ms r (insB f k))

theorem sumL_bd {α : Type} (l : List α) (g : α → Int) (B : Int) (hB : 0 ≤ B) (h : ∀ x ∈ l, 0 ≤ g x ∧ g x ≤ B) : 0 ≤ sumL (l.map g) ∧ sumL (l.map g) ≤ l.length * B := by
  induction l with
  | nil => simp [sumL]
  | cons x l ih =>
    have h1 := h x (by simp)
    have h2 := ih (fun y hy => h y (by simp [hy]))
    have e : (((x :: l).length : Nat) : Int) * B = l.length * B + B := by
      rw [List.length_cons, show (((l.length + 1 : Nat)) : Int) = (l.length : Int) + 1 by omega, Int.add_mul, Int.one_mul]
    simp only [List.map_cons, sumL]
    omega

theorem cntF_bd (ms : List Lf) (h10 : ms.length ≤ 10) : ∀ (r : Nat) (f : Int → Bool), 0 ≤ cntF ms r f ∧ cntF ms r f ≤ 10 ^ r := by
  intro r
  induction r with
  | zero => intro f; simp [cntF]
  | succ r ih =>
    intro f
    have hp : (0 : Int) ≤ 10 ^ r := Int.pow_nonneg (by omega)
    have h := sumL_bd (readyL ms f) (fun k => cntF ms r (insB f k)) (10 ^ r) hp (fun k _ => ih (insB f k))
    have hl : (readyL ms f).length ≤ 10 := Nat.le_trans (idxsL_len _ _) h10
    refine ⟨h.1, Int.le_trans h.2 ?_⟩
    rw [Int.pow_succ, Int.mul_comm]
    exact Int.mul_le_mul_of_nonneg_left (by omega) hp

/-- How many of the first n indices a set does not have. -/
def nfree (f : Int → Bool) : Nat → Nat
  | 0 => 0
  | n + 1 => nfree f n + if f n then 0 else 1

theorem nfree_ins (f : Int → Bool) (k : Nat) (hf : f k = false) : ∀ n : Nat, nfree (insB f k) n + (if k < n then 1 else 0) = nfree f n := by
  intro n
  induction n with
  | zero => simp [nfree]
  | succ n ih =>
    simp only [nfree]
    by_cases e : n = k
    · subst e
      have e1 : insB f (n : Int) (n : Int) = true := by simp [insB]
      rw [e1, hf]
      simp at ih ⊢
      omega
    · have e1 : insB f (k : Int) (n : Int) = f n := by
        have : decide ((n : Int) = (k : Int)) = false := by simp; omega
        simp [insB, this]
      rw [e1]
      by_cases h1 : k < n
      · rw [if_pos h1] at ih
        rw [if_pos (by omega : k < n + 1)]
        omega
      · rw [if_neg h1] at ih
        rw [if_neg (by omega : ¬ k < n + 1)]
        omega

theorem nfree_pos (f : Int → Bool) : ∀ n : Nat, (∀ k : Nat, k < n → f k = true) → nfree f n = 0 := by
  intro n
  induction n with
  | zero => intro _; rfl
  | succ n ih =>
    intro h
    simp only [nfree, h n (by omega), ih (fun k hk => h k (by omega))]
    rfl

theorem free_ready (ms : List Lf) (hA : AfOk ms) (f : Int → Bool) : ∀ n : Nat, n ≤ ms.length → (∀ k, k < n → canF ms f k = false) → ∀ k : Nat, k < n → f (k : Int) = true := by
  intro n
  induction n with
  | zero => intro _ _ k hk; omega
  | succ n ih =>
    intro hn hc k hk
    have hlo := ih (by omega) (fun k hk => hc k (by omega))
    rcases Nat.lt_or_ge k n with h1 | h1
    · exact hlo k h1
    · obtain rfl : k = n := by omega
      have h := hc k (by omega)
      unfold canF at h
      have hall : (afAt ms k).all f = true := by
        rw [List.all_eq_true]
        intro x hx
        have ha := hA k x hx
        have := hlo x.toNat (by omega)
        rwa [Int.toNat_of_nonneg ha.1] at this
      rw [hall, Bool.true_and] at h
      simpa using h

theorem cntF_pos (ms : List Lf) (h10 : ms.length ≤ 10) (hA : AfOk ms) : ∀ (r : Nat) (f : Int → Bool), r ≤ nfree f ms.length → 1 ≤ cntF ms r f := by
  intro r
  induction r with
  | zero => intro f _; simp [cntF]
  | succ r ih =>
    intro f hr
    have hne : readyL ms f ≠ [] := fun e => by
      have := nfree_pos f ms.length (free_ready ms hA f ms.length (Nat.le_refl _) (idxsL_nil _ _ e))
      omega
    have hall : ∀ k ∈ readyL ms f, 1 ≤ cntF ms r (insB f k) := fun k hk => by
      obtain ⟨k', rfl, hk', hc⟩ := idxsL_mem _ _ k hk
      have hfk : f (k' : Int) = false := by
        unfold canF at hc
        rw [Bool.and_eq_true] at hc
        simpa using hc.2
      have := nfree_ins f k' hfk ms.length
      rw [if_pos hk'] at this
      exact ih _ (by omega)
    show 1 ≤ sumL ((readyL ms f).map fun k => cntF ms r (insB f k))
    have hbd := fun k => (cntF_bd ms h10 r (insB f k)).1
    generalize readyL ms f = l at *
    cases l with
    | nil => exact absurd rfl hne
    | cons a l =>
      have h1 := hall a (by simp)
      have h2 : 0 ≤ sumL (l.map fun k => cntF ms r (insB f k)) := by
        clear hall hne h1
        induction l with
        | nil => simp [sumL]
        | cons b l ihl =>
          have := hbd b
          simp only [List.map_cons, sumL]
          omega
      simp only [List.map_cons, sumL]
      omega

/-- What the sets from s on are worth: the spec's table keeps it. -/
def phi (ways c : Nat → Int) (s : Nat) : Nat → Int
  | 0 => 0
  | n + 1 => phi ways c s n + if s ≤ n then ways n * c n else 0

theorem phi_drop (ways c : Nat → Int) (s : Nat) : ∀ n : Nat, phi ways c s n = (if s < n then ways s * c s else 0) + phi ways c (s + 1) n := by
  intro n
  induction n with
  | zero => simp [phi]
  | succ n ih =>
    simp only [phi, ih]
    rcases Nat.lt_trichotomy s n with h | h | h
    · rw [if_pos h, if_pos (by omega : s ≤ n), if_pos (by omega : s < n + 1), if_pos (by omega : s + 1 ≤ n)]; omega
    · subst h
      rw [if_neg (by omega : ¬ s < s), if_pos (Nat.le_refl _), if_pos (by omega : s < s + 1), if_neg (by omega : ¬ s + 1 ≤ s)]
      omega
    · rw [if_neg (by omega : ¬ s < n), if_neg (by omega : ¬ s ≤ n), if_neg (by omega : ¬ s < n + 1), if_neg (by omega : ¬ s + 1 ≤ n)]; omega

def updW (ways : Nat → Int) (T : Nat) (x : Int) (n : Nat) : Int := if n = T then ways n + x else ways n

theorem phi_add (ways c : Nat → Int) (s T : Nat) (x : Int) (hs : s ≤ T) : ∀ n : Nat, phi (updW ways T x) c s n = phi ways c s n + if T < n then x * c T else 0 := by
  intro n
  induction n with
  | zero => simp [phi]
  | succ n ih =>
    simp only [phi, ih]
    by_cases e : n = T
    · subst e
      have e1 : updW ways n x n = ways n + x := by simp [updW]
      rw [e1, if_neg (by omega : ¬ n < n), if_pos hs, if_pos (by omega : n < n + 1), Int.add_mul]
      omega
    · have e1 : updW ways T x n = ways n := by simp [updW, e]
      rw [e1]
      by_cases h : T < n
      · rw [if_pos h, if_pos (by omega : T < n + 1)]
        omega
      · rw [if_neg h, if_neg (by omega : ¬ T < n + 1)]
        omega

/-- How many lifts are not in a set, of n. -/
def leftB (n T : Nat) : Nat := nfree (bitB (T : Int)) n

/-- In how many orders the rest can be done, by the number of a set. -/
def cW (ms : List Lf) (T : Nat) : Int := cntF ms (leftB ms.length T) (bitB (T : Int))

theorem bitB_or (T k : Nat) : bitB ((T ||| 2 ^ k : Nat) : Int) = insB (bitB (T : Int)) (k : Int) := by
  funext t
  unfold bitB insB
  rw [Int.toNat_natCast, Int.toNat_natCast, Nat.testBit_or, Nat.testBit_two_pow]
  by_cases ht : 0 ≤ t
  · have e1 : decide (k = t.toNat) = decide (t = (k : Int)) := decide_eq_decide.2 (by omega)
    rw [e1, Bool.or_comm]
    simp [ht]
  · have e1 : decide (t = (k : Int)) = false := by simp; omega
    simp [ht, e1]

theorem cW_step (ms : List Lf) (T : Nat) (h : 0 < leftB ms.length T) : cW ms T = sumL ((readyL ms (bitB (T : Int))).map fun k => cW ms (T ||| 2 ^ k.toNat)) := by
  unfold cW
  obtain ⟨r, hr⟩ : ∃ r, leftB ms.length T = r + 1 := ⟨leftB ms.length T - 1, by omega⟩
  rw [hr]
  show sumL ((readyL ms (bitB (T : Int))).map fun k => cntF ms r (insB (bitB (T : Int)) k)) = _
  congr 1
  apply List.map_congr_left
  intro k hk
  obtain ⟨k', rfl, hk', hc⟩ := idxsL_mem _ _ k hk
  have hfk : bitB (T : Int) (k' : Int) = false := by
    unfold canF at hc
    rw [Bool.and_eq_true] at hc
    simpa using hc.2
  rw [Int.toNat_natCast, bitB_or]
  have := nfree_ins (bitB (T : Int)) k' hfk ms.length
  rw [if_pos hk'] at this
  have e : leftB ms.length (T ||| 2 ^ k') = r := by
    unfold leftB at hr ⊢
    rw [bitB_or]
    omega
  rw [e]

theorem nfree_zero (f : Int → Bool) : ∀ n : Nat, nfree f n = 0 → ∀ k : Nat, k < n → f k = true := by
  intro n
  induction n with
  | zero => intro _ k hk; omega
  | succ n ih =>
    intro h k hk
    simp only [nfree] at h
    cases hf : f (n : Int)
    · rw [hf] at h; simp at h
    · rcases Nat.lt_or_ge k n with h1 | h1
      · exact ih (by omega) k h1
      · obtain rfl : k = n := by omega
        exact hf

theorem bitB_nat (T k : Nat) : bitB (T : Int) (k : Int) = T.testBit k := by simp [bitB]

theorem leftB_all (n : Nat) : leftB n (2 ^ n - 1) = 0 := by
  unfold leftB
  exact nfree_pos _ n (fun k hk => by rw [bitB_nat, Nat.testBit_two_pow_sub_one]; simp [hk])

theorem leftB_pos (n T : Nat) (h : T + 1 < 2 ^ n) : 0 < leftB n T := by
  rcases Nat.eq_zero_or_pos (leftB n T) with h0 | h0
  · exfalso
    have hall := nfree_zero _ n h0
    have : T = 2 ^ n - 1 := Nat.eq_of_testBit_eq fun i => by
      rw [Nat.testBit_two_pow_sub_one]
      by_cases hi : i < n
      · rw [← bitB_nat, hall i hi]; simp [hi]
      · have : T.testBit i = false := Nat.testBit_lt_two_pow (Nat.lt_of_lt_of_le (by omega : T < 2 ^ n) (Nat.pow_le_pow_right (by omega) (by omega)))
        rw [this]; simp [hi]
    omega
  · exact h0

theorem cW_all (ms : List Lf) : cW ms (2 ^ ms.length - 1) = 1 := by
  unfold cW
  rw [leftB_all]
  rfl

theorem cW_pos (ms : List Lf) (h10 : ms.length ≤ 10) (hA : AfOk ms) (T : Nat) : 1 ≤ cW ms T := cntF_pos ms h10 hA _ _ (Nat.le_refl _)

theorem cW_bd (ms : List Lf) (h10 : ms.length ≤ 10) : cW ms 0 ≤ 10000000000 := by
  have h := (cntF_bd ms h10 (leftB ms.length 0) (bitB ((0 : Nat) : Int))).2
  have hl : leftB ms.length 0 ≤ 10 := by
    have : ∀ (f : Int → Bool) (n : Nat), nfree f n ≤ n := fun f n => by
      induction n with
      | zero => exact Nat.le_refl _
      | succ n ih => simp only [nfree]; split <;> omega
    exact Nat.le_trans (this _ _) h10
  have h2 : (10 : Int) ^ (leftB ms.length 0) ≤ 10 ^ 10 := by
    have := Nat.pow_le_pow_right (show 0 < 10 by omega) hl
    exact_mod_cast this
  unfold cW
  have : (10 : Int) ^ 10 = 10000000000 := by decide
  omega

theorem ready_all (ms : List Lf) : readyL ms (bitB ((2 ^ ms.length - 1 : Nat) : Int)) = [] := by
  cases h : readyL ms (bitB ((2 ^ ms.length - 1 : Nat) : Int)) with
  | nil => rfl
  | cons a l =>
    obtain ⟨k, rfl, hk, hc⟩ := idxsL_mem _ _ a (by rw [show idxsL (canF ms (bitB ((2 ^ ms.length - 1 : Nat) : Int))) ms.length = a :: l from h]; simp)
    unfold canF at hc
    rw [Bool.and_eq_true, bitB_nat, Nat.testBit_two_pow_sub_one] at hc
    simp [hk] at hc

theorem or_next (n T k : Nat) (hT : T < 2 ^ n) (hk : k < n) (hf : T.testBit k = false) : T < T ||| 2 ^ k ∧ T ||| 2 ^ k < 2 ^ n := by
  refine ⟨?_, Nat.or_lt_two_pow hT (Nat.pow_lt_pow_right (by omega) hk)⟩
  have hle : T ≤ T ||| 2 ^ k := Nat.left_le_or
  rcases Nat.lt_or_eq_of_le hle with h | h
  · exact h
  · exfalso
    have : (T ||| 2 ^ k).testBit k = true := by rw [Nat.testBit_or, Nat.testBit_two_pow]; simp
    rw [← h, hf] at this
    cases this

theorem ready_next (ms : List Lf) (T : Nat) (hT : T < 2 ^ ms.length) : ∀ k ∈ readyL ms (bitB (T : Int)), ∃ k' : Nat, k = (k' : Int) ∧ k' < ms.length ∧ T < T ||| 2 ^ k' ∧ T ||| 2 ^ k' < 2 ^ ms.length := by
  intro k hk
  obtain ⟨k', rfl, hk', hc⟩ := idxsL_mem _ _ k hk
  unfold canF at hc
  rw [Bool.and_eq_true, bitB_nat] at hc
  have := or_next ms.length T k' hT hk' (by simpa using hc.2)
  exact ⟨k', rfl, hk', this⟩

theorem phi_part (ways c : Nat → Int) (s T n : Nat) (hw : ∀ n, 0 ≤ ways n) (hc : ∀ n, 1 ≤ c n) (hs : s ≤ T) (hT : T < n) : ways T ≤ phi ways c s n := by
  have hnn : ∀ m, 0 ≤ phi ways c s m := fun m => by
    induction m with
    | zero => simp [phi]
    | succ m ih =>
      simp only [phi]
      have : 0 ≤ ways m * c m := Int.mul_nonneg (hw m) (by have := hc m; omega)
      split <;> omega
  induction n with
  | zero => omega
  | succ n ih =>
    simp only [phi]
    by_cases e : T = n
    · subst e
      rw [if_pos hs]
      have h1 := hnn T
      have h2 : ways T * 1 ≤ ways T * c T := Int.mul_le_mul_of_nonneg_left (hc T) (hw T)
      omega
    · have h1 := ih (by omega)
      have : 0 ≤ ways n * c n := Int.mul_nonneg (hw n) (by have := hc n; omega)
      split <;> omega

theorem phi_end (ways c : Nat → Int) (n : Nat) : phi ways c n n = 0 := by
  have : ∀ m, m ≤ n → phi ways c n m = 0 := fun m => by
    induction m with
    | zero => intro _; rfl
    | succ m ih =>
      intro h
      simp only [phi, ih (by omega)]
      rw [if_neg (by omega)]
      rfl
  exact this n (Nat.le_refl _)

def wv (zs : List Int) (n : Nat) : Int := (zs[n]?).getD 0

theorem wv_set (zs : List Int) (T : Nat) (x : Int) (h : T < zs.length) : wv (zs.set T (wv zs T + x)) = updW (wv zs) T x := by
  funext n
  unfold wv updW
  by_cases e : n = T
  · subst e; simp [h, wv]
  · rw [if_neg e, List.getElem?_set_ne (by omega)]

noncomputable def coRes (ms : List Lf) : Int × Int := if liftsB ms then (cW ms 0, 0) else (0, 1)

def sumD (ms : List Lf) (T : Nat) (ls : List Int) (i : Nat) : Int := sumL ((ls.drop i).map fun k => cW ms (T ||| 2 ^ k.toNat))

theorem sumD_step (ms : List Lf) (T : Nat) (ls : List Int) (i : Nat) (h : i < ls.length) : sumD ms T ls i = cW ms (T ||| 2 ^ ls[i].toNat) + sumD ms T ls (i + 1) := by
  unfold sumD
  rw [List.drop_eq_getElem_cons h]
  rfl

theorem sumD_end (ms : List Lf) (T : Nat) (ls : List Int) : sumD ms T ls ls.length = 0 := by simp [sumD, sumL]

theorem bits_or_pow2 (d : Nat) (hd : d < 1024) (k : Nat) (hk : k < 10) : ∀ p : Int, p = 2 ^ k → bits .or .i64 (d : Int) p = ((d ||| 2 ^ k : Nat) : Int) := by
  have key : ∀ (k : Fin 10) (d : Fin 1024), bits .or .i64 (d.val : Int) (2 ^ k.val) = ((d.val ||| 2 ^ k.val : Nat) : Int) := by decide +kernel
  intro p hp
  rw [hp]
  exact key ⟨k, hk⟩ ⟨d, hd⟩

/-- What the spec's table keeps: n entries, all at least 0; what the sets from s on are worth; behind the last one the number itself. -/
def CoR (c : Nat → Int) (N s : Nat) (zs : List Int) : Prop := zs.length = N ∧ (∀ n, 0 ≤ wv zs n) ∧ (s < N → phi (wv zs) c s N = c 0) ∧ (s = N → wv zs (N - 1) = c 0)

/-- The same in the round of the set s, the first i lifts that are ready done. -/
def CoI (c : Nat → Int) (N s : Nat) (x r : Int) (zs : List Int) : Prop := zs.length = N ∧ (∀ n, 0 ≤ wv zs n) ∧ wv zs s = x ∧ phi (wv zs) c (s + 1) N + x * r = c 0 - (if s + 1 = N then x else 0)

theorem CoI_start (ms : List Lf) (N s : Nat) (hN : N = 2 ^ ms.length) (hs : s < N) (zs : List Int) (h : CoR (cW ms) N s zs) : CoI (cW ms) N s (wv zs s) (sumD ms s (readyL ms (bitB (s : Int))) 0) zs := by
  obtain ⟨h1, h2, h3, _⟩ := h
  refine ⟨h1, h2, rfl, ?_⟩
  have hp := h3 hs
  rw [phi_drop, if_pos hs] at hp
  by_cases e : s + 1 = N
  · have es : s = 2 ^ ms.length - 1 := by omega
    have e1 : sumD ms s (readyL ms (bitB (s : Int))) 0 = 0 := by rw [es, ready_all]; rfl
    have e2 : cW ms s = 1 := by rw [es]; exact cW_all ms
    rw [e1, if_pos e, Int.mul_zero]
    rw [e2, Int.mul_one] at hp
    omega
  · have hst := cW_step ms s (leftB_pos _ _ (by omega))
    have e1 : sumD ms s (readyL ms (bitB (s : Int))) 0 = cW ms s := by rw [hst]; rfl
    rw [e1, if_neg e]
    omega

theorem CoI_step (ms : List Lf) (N s : Nat) (x : Int) (hx : 0 ≤ x) (ls : List Int) (i : Nat) (hi : i < ls.length) (zs : List Int) (T : Nat) (hT : T = s ||| 2 ^ ls[i].toNat) (hsT : s < T) (hTN : T < N) (h : CoI (cW ms) N s x (sumD ms s ls i) zs) : CoI (cW ms) N s x (sumD ms s ls (i + 1)) (zs.set T (wv zs T + x)) := by
  obtain ⟨h1, h2, h3, h4⟩ := h
  have hw := wv_set zs T x (by omega)
  refine ⟨by simpa using h1, fun n => ?_, ?_, ?_⟩
  · rw [hw]
    unfold updW
    have := h2 n
    split <;> omega
  · rw [hw]
    unfold updW
    rw [if_neg (by omega)]
    exact h3
  · rw [hw, phi_add _ _ _ _ _ (by omega), if_pos hTN]
    rw [sumD_step ms s ls i hi, ← hT, Int.mul_add] at h4
    omega

theorem CoI_bd (ms : List Lf) (h10 : ms.length ≤ 10) (hA : AfOk ms) (N s : Nat) (x r : Int) (hx : 0 ≤ x) (hr : 0 ≤ r) (zs : List Int) (T : Nat) (hsT : s < T) (hTN : T < N) (h : CoI (cW ms) N s x r zs) : wv zs T ≤ 10000000000 := by
  obtain ⟨h1, h2, h3, h4⟩ := h
  have hp := phi_part (wv zs) (cW ms) (s + 1) T N h2 (cW_pos ms h10 hA) (by omega) hTN
  have hb := cW_bd ms h10
  have := Int.mul_nonneg hx hr
  split at h4 <;> omega

theorem CoI_end (c : Nat → Int) (N s : Nat) (hs : s < N) (x r : Int) (zs : List Int) (h : CoI c N s x r zs) (h0 : x = 0 ∨ r = 0) : CoR c N (s + 1) zs := by
  obtain ⟨h1, h2, h3, h4⟩ := h
  have hz : x * r = 0 := by rcases h0 with h | h <;> rw [h] <;> simp
  rw [hz] at h4
  refine ⟨h1, h2, fun hn => ?_, fun hn => ?_⟩
  · rw [if_neg (by omega)] at h4; omega
  · rw [if_pos hn] at h4
    have e := phi_end (wv zs) c N
    rw [hn, e] at h4
    have : N - 1 = s := by omega
    rw [this, h3]
    omega

theorem CoR_bd (ms : List Lf) (h10 : ms.length ≤ 10) (hA : AfOk ms) (N s : Nat) (hs : s < N) (zs : List Int) (h : CoR (cW ms) N s zs) : wv zs s ≤ 10000000000 := by
  obtain ⟨h1, h2, h3, _⟩ := h
  have := phi_part (wv zs) (cW ms) s s N h2 (cW_pos ms h10 hA) (Nat.le_refl _) hs
  have := cW_bd ms h10
  have := h3 hs
  omega

theorem CoR_start (c : Nat → Int) (N : Nat) (hN : 1 ≤ N) : CoR c N 0 (1 :: List.replicate (N - 1) 0) := by
  have hw : ∀ n, wv (1 :: List.replicate (N - 1) 0) n = if n = 0 then 1 else 0 := fun n => by
    unfold wv
    cases n with
    | zero => rfl
    | succ n =>
      rw [if_neg (by omega), List.getElem?_cons_succ]
      by_cases h : n < N - 1
      · simp [h]
      · rw [List.getElem?_eq_none (by simp; omega)]; rfl
  refine ⟨by simp; omega, fun n => by rw [hw]; split <;> omega, fun _ => ?_, fun h => by omega⟩
  have : ∀ m, 1 ≤ m → phi (wv (1 :: List.replicate (N - 1) 0)) c 0 m = c 0 := fun m hm => by
    induction m with
    | zero => omega
    | succ m ih =>
      simp only [phi, hw]
      rw [if_pos (Nat.zero_le _)]
      by_cases e : m = 0
      · subst e; simp [phi]
      · rw [ih (by omega), if_neg e]; simp
  exact this N hN

theorem madeP (P : Nat) (hP : 1 ≤ P) (hP2 : P ≤ 1024) (w1 : World) : (w1.alloc (.cells ((madeCells #[.int .i64 0] P).setIfInBounds 0 (.int .i64 1)) 2)).ownsRow w1.heap.size 2 1 (.slice (some ⟨w1.heap.size, 0, none⟩) P P) P ((1 :: List.replicate (P - 1) (0 : Int)).map (Value.int .i64)) := by
  have h := World.ownsRow_lit w1 (base := w1.heap.size) (e := 2) (size := 1) ((madeCells #[.int .i64 0] P).setIfInBounds 0 (.int .i64 1)) P (Nat.le_refl _) (by unfold maxLen; omega) (by rw [Array.size_setIfInBounds, size_madeCells, Nat.mul_one])
  have h2 := madeI_flat P
  rw [Nat.mul_one] at h2
  rw [Array.toList_setIfInBounds, h2] at h
  have e : ((List.replicate P (0 : Int)).map (Value.int .i64)).set 0 (.int .i64 1) = (1 :: List.replicate (P - 1) (0 : Int)).map (Value.int .i64) := by
    obtain ⟨q, rfl⟩ : ∃ q, P = q + 1 := ⟨P - 1, by omega⟩
    simp [List.replicate_succ]
  rw [e] at h
  exact h

theorem wv_cell {w : World} {g P : Nat} {zs : List Int} (h : w.ownsRow g 2 1 (.slice (some ⟨g, 0, none⟩) P P) P (zs.map (Value.int .i64))) (hl : zs.length = P) (T : Nat) (hT : T < P) : w.cell? ⟨g, T, none⟩ = some (.int .i64 (wv zs T)) ∧ w.frozen? ⟨g, T, none⟩ = false := by
  refine ⟨?_, h.frozenAt T⟩
  have := h.cellAt T (by omega)
  rw [this, List.getElem?_map]
  unfold wv
  rw [List.getElem?_eq_getElem (by omega)]
  rfl

set_option maxHeartbeats 8000000 in
set_option maxRecDepth 20000 in
theorem specCO_any (v : Value) (ms : List Lf) (w : World) (h : RdM w v ms) (hn : ∀ k ∈ ms, k.nm.size ≤ 1000000) (hlen : ms.length ≤ 1000000) :
    Calls Try.prog 22 #[v] w fun e w' => e = .returned (.tuple #[.int .i64 (coRes ms).1, .int .i64 (coRes ms).2]) ∧ Below w.heap.size w w' := by
  have HS := Lib.hid (fun u (q : RdM u v ms) => specLOk_any v ms u q hn hlen)
  have HM := Lib.hid h
  have HRD := fun (hb : liftsB ms = true) d hd u (q : RdM u v ms) => specReady_any v ms d hd (liftsB_iff.1 hb).2 (fun k hk j hj => lifts_after hb k hk j hj) u q
  obtain ⟨A, c, rfl, hcap, hl, r⟩ := RdM_at h
  clear h hn r
  unfold coRes
  cases hb : liftsB ms
  · rw [hb] at HS
    clear HRD hb
    simp only [Bool.false_eq_true, if_false]
    go_enter Try.func22, Try.ntmps22
    go_wp2_with fail
    refine (HS.out _ HM.out).mono ?_
    rintro e w1 ⟨rfl, b1⟩
    go_wp2
    go_ret2
    exact ⟨rfl, b1⟩
  · rw [hb] at HS
    simp only [if_true]
    have h10 : ms.length ≤ 10 := (liftsB_iff.1 hb).2
    have hAf := AfOk_of (fun k hk j hj => lifts_after hb k hk j hj)
    have HRD2 := Lib.hid (HRD hb)
    clear HRD
    have hp := pow_small h10
    obtain ⟨P, hP⟩ : ∃ P : Nat, P = 2 ^ ms.length := ⟨_, rfl⟩
    have hcast : (2 : Int) ^ ms.length = ((2 ^ ms.length : Nat) : Int) := by simp
    have hP2 : 1 ≤ P ∧ P ≤ 1024 := by
      rw [hP]
      omega
    have hw64 : wrap64 (2 ^ ms.length) = (P : Int) := by rw [hcast, ← hP]; exact IntWalk.wrap64_in _ (by omega)
    have HNX := Lib.hid (fun T (hT : T < P) => ready_next ms T (by omega))
    rw [← hP] at HNX
    have HCS := Lib.hid (fun s hs zs h => CoI_start ms P s hP hs zs h)
    have HCB := Lib.hid (fun s x r hx hr zs T h1 h2 h => CoI_bd ms h10 hAf P s x r hx hr zs T h1 h2 h)
    have HRB := Lib.hid (fun s hs zs h => CoR_bd ms h10 hAf P s hs zs h)
    have HSD := Lib.hid (fun s i => show 0 ≤ sumD ms s (readyL ms (bitB (s : Int))) i from by
      unfold sumD
      exact (sumL_bd _ _ 100000000000000000000 (by omega) (fun k _ => by
        have h1 := cntF_bd ms h10 (leftB ms.length (s ||| 2 ^ k.toNat)) (bitB ((s ||| 2 ^ k.toNat : Nat) : Int))
        refine ⟨h1.1, ?_⟩
        have hl2 : leftB ms.length (s ||| 2 ^ k.toNat) ≤ 10 := by
          have : ∀ (f : Int → Bool) (n : Nat), nfree f n ≤ n := fun f n => by
            induction n with
            | zero => exact Nat.le_refl _
            | succ n ih => simp only [nfree]; split <;> omega
          exact Nat.le_trans (this _ _) h10
        have h2 : (10 : Int) ^ (leftB ms.length (s ||| 2 ^ k.toNat)) ≤ 10 ^ 10 := by
          have := Nat.pow_le_pow_right (show 0 < 10 by omega) hl2
          exact_mod_cast this
        have : (10 : Int) ^ 10 = 10000000000 := by decide
        unfold cW
        omega)).1)
    have hmk := fun u => make_i64s P (by omega) u
    have HMP := Lib.hid (madeP P hP2.1 hP2.2)
    have HC0 := Lib.hid (CoR_start (cW ms) P hP2.1)
    have hP0 : (0 : Int) < (P : Int) := by omega
    clear hb hp hcast hP
    go_enter Try.func22, Try.ntmps22
    go_wp2_with fail
    refine (HS.out _ HM.out).mono ?_
    rintro e w1 ⟨rfl, b1⟩
    have hz1 := b1.size
    have hrow0 := HMP.out w1
    have h00 := World.ownsRow_lit w1 (base := w1.heap.size) (e := 2) (size := 1) (madeCells #[.int .i64 0] (P * 1)) P (Nat.le_refl _) (by unfold maxLen; omega) (size_madeCells _ _)
    rw [madeI_flat, Nat.mul_one] at h00
    have hc0 := (wv_cell h00 (by simp) 0 hP2.1).1
    have hf0 := (wv_cell h00 (by simp) 0 hP2.1).2
    have HROW0 := Lib.hid hrow0; clear hrow0 h00
    go_wp2_with fail
    go_loopw [6] (fun i wr => ∃ (s : Nat) (zs : List Int), s ≤ P ∧ i = .int .i64 (s : Int) ∧ wr.ownsRow w1.heap.size 2 1 (.slice (some ⟨w1.heap.size, 0, none⟩) P P) P (zs.map (Value.int .i64)) ∧ CoR (cW ms) P s zs ∧ Below w1.heap.size w1 wr) (fun i _ => P - (intOf i).toNat)
    case atStart => exact ⟨0, _, by omega, rfl, HROW0.out, HC0.out, by go_grown⟩
    case round =>
      obtain ⟨s, zs, hs, rfl, hown, hco, hb⟩ := hrel
      have hsz := hb.size
      by_cases hlt : s < P
      · have hrd := HRD2.out (s : Int) (by omega)
        have hci := HCS.out s hlt zs hco
        have hx0 : 0 ≤ wv zs s := hco.2.1 s
        have hxb := HRB.out s hlt zs hco
        have hnx := HNX.out s hlt
        have hsd := HSD.out s
        have hinj := fun i hi T hT h1 h2 zs' h => CoI_step ms P s (wv zs s) hx0 (readyL ms (bitB (s : Int))) i hi zs' T hT h1 h2 h
        have hcb := fun r hr zs' T h1 h2 h => HCB.out s (wv zs s) r hx0 hr zs' T h1 h2 h
        have hce := fun r zs' h h0 => CoI_end (cW ms) P s hlt (wv zs s) r zs' h h0
        have hend := sumD_end ms s (readyL ms (bitB (s : Int)))
        generalize readyL ms (bitB (s : Int)) = ls at *
        generalize wv zs s = x at *
        have HRD3 := Lib.hid hrd; have HCI := Lib.hid hci; have HIJ := Lib.hid hinj; have HCX := Lib.hid hcb; have HCE := Lib.hid hce; have HNY := Lib.hid hnx; have HSE := Lib.hid hsd; have HEN := Lib.hid hend; have HOWN := Lib.hid hown
        clear hrd hci hinj hcb hce hnx hsd hend hown hco
        go_wp2_with fail
        refine (HRD3.out _ (RdM_kept HM.out (kept_trans b1 hb))).mono ?_
        rintro e w2 ⟨v2, rfl, hrow2, hb2⟩
        obtain ⟨hl2, A5, c5, rfl, _⟩ := RowI_rd hrow2
        have HROW2 := Lib.hid hrow2; clear hrow2
        have b2 := kept_trans hb hb2
        have HOWN2 := Lib.hid (own_kept HOWN.out hb2)
        go_wp2_with fail
        go_loopw [8] (fun i wy => ∃ (j : Nat) (zs' : List Int), j ≤ ls.length ∧ i = .int .i64 (j : Int) ∧ wy.ownsRow w1.heap.size 2 1 (.slice (some ⟨w1.heap.size, 0, none⟩) P P) P (zs'.map (Value.int .i64)) ∧ CoI (cW ms) P s x (sumD ms s ls j) zs' ∧ RowI wy (w1.heap.size + 1) w2.heap.size (.slice A5 ls.length c5) ls ∧ Below w1.heap.size w1 wy) (fun i _ => ls.length - (intOf i).toNat)
        case atStart => exact ⟨0, zs, by omega, rfl, HOWN2.out, HCI.out, RowI_lo HROW2.out (by have := (HOWN.out.lt w1.heap.size rfl).2; omega) (Nat.le_refl _), b2⟩
        case round =>
          obtain ⟨j, zs', hj, rfl, hown', hci, hrw, hby⟩ := hrel
          have hcs := (wv_cell hown' hci.1 s hlt).1
          rw [hci.2.2.1] at hcs
          by_cases hlj : j < ls.length
          · by_cases hx : 0 < x
            · obtain ⟨k', hk', hkn, hT1, hT2⟩ := HNY.out ls[j] (List.getElem_mem hlj)
              obtain ⟨_, A6, c6, e6, r6⟩ := RowI_rd hrw
              injection e6 with e1 e2 e3
              subst e1 e3
              obtain ⟨b5, off5, rfl, hbl5, d0⟩ := r6 j hlj
              clear r6
              rw [hk'] at d0
              have hT := wv_cell hown' hci.1 (s ||| 2 ^ k') hT2
              have hbd := HCX.out _ (HSE.out j) zs' (s ||| 2 ^ k') hT1 hT2 hci
              have hnn := hci.2.1 (s ||| 2 ^ k')
              have hst := hown'.stored (s ||| 2 ^ k') (.int .i64 (wv zs' (s ||| 2 ^ k') + x))
              rw [← List.map_set] at hst
              have hcn := HIJ.out j hlj (s ||| 2 ^ k') (by rw [hk', Int.toNat_natCast]) hT1 hT2 zs' hci
              have hor := bits_or_pow2 s (by omega) k' (by omega)
              have hrw2 := RowI_far hrw hst.2 (fun g hg => by simp at hg; omega)
              have hgr := grown_below hby hst.2 (fun g hg => by simp at hg; omega)
              obtain ⟨hT3, hT4⟩ := hT
              have HST := Lib.hid hst.1; have HCN := Lib.hid hcn; have HRW2 := Lib.hid hrw2; have HGR := Lib.hid hgr
              clear hst hcn hrw2 hgr hk' hown' hci hrw hT1
              generalize (s ||| 2 ^ k') = T at *
              generalize hzz : zs'.set T (wv zs' T + x) = zs2 at *
              generalize wv zs' T = y at *
              rcases (show k' = 0 ∨ k' = 1 ∨ k' = 2 ∨ k' = 3 ∨ k' = 4 ∨ k' = 5 ∨ k' = 6 ∨ k' = 7 ∨ k' = 8 ∨ k' = 9 by omega) with rfl | rfl | rfl | rfl | rfl | rfl | rfl | rfl | rfl | rfl
              all_goals
                have hb1 := hor _ rfl
                clear hor
                simp at hb1
                go_wp2_with fail
                go_region
                all_goals
                  (try go_wp2)
                  refine ⟨⟨j + 1, zs2, by omega, by go_num, ?_, HCN.out, ?_, ?_⟩, by simp [intOf]; omega⟩
                  · exact HST.out.drew
                  · exact RowI_kept HRW2.out (by go_grown)
                  · exact HGR.out.drew
            · have hco2 := HCE.out _ zs' hci (Or.inl (by omega))
              have HO := Lib.hid hown'; have HC2 := Lib.hid hco2
              clear hown' hco2 hci
              go_wp2
              go_roundw
              case rel => exact ⟨s + 1, by omega, by omega, zs', HO.out, HC2.out⟩
              case measure => simp [intOf]; omega
          · have : j = ls.length := by omega
            have hr0 : sumD ms s ls j = 0 := by rw [this]; exact HEN.out
            have hco2 := HCE.out _ zs' hci (Or.inr hr0)
            have HO := Lib.hid hown'; have HC2 := Lib.hid hco2
            have hnl : ¬ (j : Int) < (ls.length : Int) := by omega
            clear hown' hco2 hci this hr0
            go_wp2
            go_roundw
            case rel => first | exact ⟨s + 1, by omega, by omega, zs', HO.out, HC2.out⟩ | exact ⟨s + 1, zs', by omega, by go_num, HO.out, HC2.out, hby⟩ | (trace_state; fail)
            case measure => simp [intOf]; omega
      · have : s = P := by omega
        subst this
        have hfin := hco.2.2.2 rfl
        have hcell := (wv_cell hown hco.1 (s - 1) (by omega)).1
        rw [hfin] at hcell
        have e1 : ((s : Int) - 1) = ((s - 1 : Nat) : Int) := by omega
        clear hown hco hfin
        go_wp2
        go_ret2
        exact ⟨rfl, kept_trans b1 hb⟩

theorem wp_lenI {ops : Array Oper} {rest : List Oper} {o : Oper} {a : Act} {Q : Exit → Act → World → Prop} (w : World) (hg : o.guard = none) (m : Operand) (hop : o.op = Op.call { callee := Callee.builtin Builtin.len, args := #[m], argTypes := #[84] }) (b c : Nat) (f : Int → Bool)
    (hm : a.eval m = .map (some b)) (h : SetI w b f c) (hK : wpList Try.prog ops Q rest (a.put o.dst (.int .i64 (c : Int))) w) : wpList Try.prog ops Q (o :: rest) a w := by
  obtain ⟨D, h1, h2, h3⟩ := h
  refine wpList_len_own w hg m _ hop _ _ Try.underlying84 _ b c D hm h1 ?_
  rw [h3]
  exact hK

theorem wp_delI {ops : Array Oper} {rest : List Oper} {o : Oper} {a : Act} {Q : Exit → Act → World → Prop} (w : World) (hg : o.guard = none) (m x : Operand) (hop : o.op = Op.call { callee := Callee.builtin Builtin.delete, args := #[m, x], argTypes := #[84, 2] }) (b c : Nat) (f : Int → Bool) (i : Int)
    (hm : a.eval m = .map (some b)) (hx : a.eval x = .int .i64 i) (h : SetI w b (fun t => decide (t = i) || f t) (c + 1)) (hf : f i = false) (hi : (Lit.int .i64 i).wf = true)
    (hK : ∀ w', SetI w' b f c → w.grownBy w' (some b) → wpList Try.prog ops Q rest (a.put o.dst (.tuple #[])) w') : wpList Try.prog ops Q (o :: rest) a w := by
  obtain ⟨D, h1, h2, h3⟩ := h
  refine wpList_delete_own w hg m x _ _ hop _ (Maps.int_keyed Try.underlying2) Try.underlying84 _ b (c + 1) D hm h1 _ _ hx (Maps.keyOf_int_mk Try.underlying2 hi) (fun w' ho ht => hK w' ?_ ht.grown)
  have hsz := Maps.size_del (k := .int .i64 i) (h1.tidy (Maps.int_keyed Try.underlying2))
  rw [(h2 i hi).2] at hsz
  have hs : Maps.size (D.del (.int .i64 i)) = c := by simp at hsz; omega
  refine ⟨_, hs ▸ map_tight ho, fun t ht => ?_, hs⟩
  by_cases e : t = i
  · subst e
    rw [Maps.atKey_del_same, Maps.has_del_same, hf]
    exact ⟨rfl, rfl⟩
  · have hne : Lit.int .i64 t ≠ Lit.int .i64 i := by simpa using e
    rw [Maps.atKey_del_other hne, Maps.has_del_other hne, (h2 t ht).1, (h2 t ht).2]
    simp [e]

/-- The memo: what it has is right. -/
def MemI (w : World) (b n : Nat) (c : Nat → Int) : Prop :=
  ∃ D : DataW Unit, w.ownsMap Try.prog 2 (plainElem Try.prog 2) b n D ∧ ∀ d : Nat, d < 1024 → Maps.has D (.int .i64 (d : Int)) = true → ∀ z, D.atKey (.int .i64 (d : Int)) z = .lit (.int .i64 (c d))

theorem MemI_made (w : World) (c : Nat → Int) : MemI (w.alloc (.map #[] 0)) w.heap.size 0 c := ⟨.map [], World.ownsMap_made _ _ _ _, fun d _ h => by cases h⟩

theorem MemI_kept {W w1 : World} {b n : Nat} {c : Nat → Int} (h : MemI W b n c) (hb : Below W.heap.size W w1) : MemI w1 b n c := by
  obtain ⟨D, h1, h2⟩ := h
  exact ⟨D, map_kept h1 hb, h2⟩

theorem MemI_far {W w1 : World} {b n : Nat} {c : Nat → Int} {row : Option Nat} (h : MemI W b n c) (hg : W.grownBy w1 row) (hr : row ≠ some b) : MemI w1 b n c := by
  obtain ⟨D, h1, h2⟩ := h
  have hlt := h1.lt
  obtain ⟨es, clock, e1, r⟩ := h1
  exact ⟨D, ⟨es, clock, (hg.block b hlt (fun e => hr e.symm)).trans e1, r⟩, h2⟩

theorem zero_i64 (w : World) : (zeroValue 2).run Try.prog w = .ok (.int .i64 0) w := by kernel_rfl

theorem wp_lookM {ops : Array Oper} {rest : List Oper} {o : Oper} {a : Act} {Q : Exit → Act → World → Prop} (w : World) (hg : o.guard = none) (m x : Operand) (hop : o.op = Op.lookup 85 m x true) (b n : Nat) (c : Nat → Int) (d : Nat) (hd : d < 1024)
    (hm : a.eval m = .map (some b)) (hx : a.eval x = .int .i64 (d : Int)) (h : MemI w b n c)
    (hY : wpList Try.prog ops Q rest (a.put o.dst (.tuple #[.int .i64 (c d), .bool true])) w)
    (hN : ∀ y : Int, wpList Try.prog ops Q rest (a.put o.dst (.tuple #[.int .i64 y, .bool false])) w) : wpList Try.prog ops Q (o :: rest) a w := by
  obtain ⟨D, h1, h2⟩ := h
  have hwf : (Lit.int .i64 (d : Int)).wf = true := WalkArith.wf_i64 (by omega)
  refine wpList_lookup_own_ok_int w hg m x _ hop _ _ .i64 (Maps.int_keyed Try.underlying2) Try.underlying85 Try.underlying2 (zero_i64 w) b n D hm h1 _ _ hx (Maps.keyOf_int_mk Try.underlying2 hwf) (fun y hy _ => ?_)
  cases hh : Maps.has D (.int .i64 (d : Int))
  · exact hN y
  · rw [h2 d hd hh] at hy
    simp only [DataW.lit.injEq, Lit.int.injEq, true_and] at hy
    rw [← hy]
    exact hY

theorem wp_storeM {ops : Array Oper} {rest : List Oper} {o : Oper} {a : Act} {Q : Exit → Act → World → Prop} (w : World) (hg : o.guard = none) (m x v : Operand) (hop : o.op = Op.mapUpdate 85 m x v) (b n : Nat) (c : Nat → Int) (d : Nat) (hd : d < 1024)
    (hm : a.eval m = .map (some b)) (hx : a.eval x = .int .i64 (d : Int)) (hv : a.eval v = .int .i64 (c d)) (hcw : (Lit.int .i64 (c d)).wf = true) (h : MemI w b n c) (hn : n < maxLen)
    (hK : ∀ w', MemI w' b (n + 1) c → w.grownBy w' (some b) → wpList Try.prog ops Q rest (a.put o.dst undef) w') : wpList Try.prog ops Q (o :: rest) a w := by
  obtain ⟨D, h1, h2⟩ := h
  have hwf : (Lit.int .i64 (d : Int)).wf = true := WalkArith.wf_i64 (by omega)
  refine wpList_mapUpdate_own w hg m x v _ hop _ _ (Maps.int_keyed Try.underlying2) Try.underlying85 _ b n D hm h1 hn _ _ _ hx hv (Maps.keyOf_int_mk Try.underlying2 hwf) _ [] (plainElem_int Try.underlying2 hcw)
    (fun w' ho hgr => hK w' ⟨_, ho, fun e he hh z => ?_⟩ hgr)
  by_cases e1 : e = d
  · subst e1
    rw [Maps.atKey_put_same h1.isMap (by trivial)]
  · have hne : Lit.int .i64 (e : Int) ≠ Lit.int .i64 (d : Int) := by simp; omega
    rw [Maps.has_put_other hne] at hh
    rw [Maps.atKey_put_other hne]
    exact h2 e he hh z

/-- All blocks that were there are as they were, but two. -/
def But2 (x y : Nat) (w w' : World) : Prop := w.heap.size ≤ w'.heap.size ∧ ∀ g, g < w.heap.size → g ≠ x → g ≠ y → w'.heap[g]? = w.heap[g]?

theorem But2_trans {x y : Nat} {a b c : World} (h : But2 x y a b) (k : But2 x y b c) : But2 x y a c :=
  ⟨Nat.le_trans h.1 k.1, fun g hg hx hy => (k.2 g (Nat.lt_of_lt_of_le hg h.1) hx hy).trans (h.2 g hg hx hy)⟩

theorem But2_below {x y : Nat} {a b : World} (h : Below a.heap.size a b) : But2 x y a b := ⟨h.size, fun g hg _ _ => h.block g hg⟩

theorem But2_grown {x y : Nat} {a b : World} {row : Option Nat} (h : a.grownBy b row) (hr : ∀ g, row = some g → g = x ∨ g = y) : But2 x y a b :=
  ⟨h.size, fun g hg hx hy => h.block g hg (fun e => by rcases hr g e.symm with e | e; exact hx e; exact hy e)⟩

theorem RowI_but2 {x y : Nat} {W w1 : World} {lo hi : Nat} {v : Value} {zs : List Int} (h : RowI W lo hi v zs) (hb : But2 x y W w1) (hx : x < lo) (hy : y < lo) : RowI w1 lo hi v zs := by
  refine ⟨⟨h.1.1, ?_⟩, h.2⟩
  rcases h.1.2 with h2 | ⟨g, cap, cur, hv, hg, hh, r⟩
  · exact Or.inl h2
  · refine Or.inr ⟨g, cap, cur, hv, hg, ?_, r⟩
    have hlo := (h.2 g (by rw [hv]; rfl)).1
    rw [hb.2 g (h.1.lt g (by rw [hv]; rfl)).2 (by omega) (by omega)]
    exact hh

theorem sumL_take (l : List Int) (g : Int → Int) (j : Nat) (h : j < l.length) : sumL ((l.take (j + 1)).map g) = sumL ((l.take j).map g) + g l[j] := by
  rw [List.take_succ_eq_append_getElem h, List.map_append, sumL_app]
  simp [sumL]

theorem pow12 (r j n n2 : Nat) (hj : j ≤ 9) (hn2 : n2 ≤ n + j * 12 ^ r) (hn : n + 12 ^ (r + 1) ≤ 12 ^ 11) : n2 + 12 ^ r ≤ 12 ^ 11 ∧ ∀ n4, n4 ≤ n2 + 12 ^ r → n4 ≤ n + (j + 1) * 12 ^ r := by
  have h1 : j * 12 ^ r ≤ 9 * 12 ^ r := Nat.mul_le_mul_right _ hj
  have e : 12 ^ (r + 1) = 12 ^ r * 12 := Nat.pow_succ 12 r
  rw [e] at hn
  rw [Nat.add_mul, Nat.one_mul]
  generalize 12 ^ r = P at *
  generalize j * P = JP at *
  exact ⟨by omega, fun n4 h => by omega⟩

theorem pow12_end (r j n n2 : Nat) (hj : j ≤ 10) (hn2 : n2 ≤ n + j * 12 ^ r) (hn : n + 12 ^ (r + 1) ≤ 12 ^ 11) : n2 < 12 ^ 11 ∧ n2 + 1 ≤ n + 12 ^ (r + 1) := by
  have h1 : j * 12 ^ r ≤ 10 * 12 ^ r := Nat.mul_le_mul_right _ hj
  have h0 : 0 < 12 ^ r := Nat.pow_pos (by omega)
  have e : 12 ^ (r + 1) = 12 ^ r * 12 := Nat.pow_succ 12 r
  rw [e] at hn ⊢
  generalize 12 ^ r = P at *
  generalize j * P = JP at *
  omega

theorem nfree_false : ∀ n : Nat, nfree (fun _ => false) n = n := by
  intro n
  induction n with
  | zero => rfl
  | succ n ih => simp [nfree, ih]

theorem bitB_zero : bitB ((0 : Nat) : Int) = fun _ => false := by
  funext t
  simp [bitB]

theorem ten_pow (r : Nat) (h : r ≤ 10) : (10 : Int) ^ r ≤ 10000000000 := by
  have h2 : (10 : Int) ^ r ≤ 10 ^ 10 := by
    have := Nat.pow_le_pow_right (show 0 < 10 by omega) h
    exact_mod_cast this
  have : (10 : Int) ^ 10 = 10000000000 := by decide
  omega

theorem MemI_lt {W : World} {b n : Nat} {c : Nat → Int} (h : MemI W b n c) : b < W.heap.size := by
  obtain ⟨D, h1, h2⟩ := h
  exact h1.lt

set_option maxHeartbeats 4000000 in
set_option maxRecDepth 20000 in
theorem countO_any (v : Value) (ms : List Lf) (W0 : World) (h : RdM W0 v ms) (h10 : ms.length ≤ 10) (hA : ∀ k (hk : k < ms.length) j (hj : j < ms[k].af.length), 0 ≤ ms[k].af[j] ∧ ms[k].af[j] ≤ (k : Int) - 1) (bm bk : Nat) (hne : bm ≠ bk) (hm0 : W0.heap.size ≤ bm) (hk0 : W0.heap.size ≤ bk) :
    ∀ (r : Nat) (f : Int → Bool) (c0 n : Nat) (w : World), Below W0.heap.size W0 w → SetI w bm f c0 → MemI w bk n (cW ms) → c0 + r = ms.length → nfree f ms.length = r → (∀ i, f i = true → 0 ≤ i ∧ i < (ms.length : Int)) → n + 12 ^ r ≤ 12 ^ 11 →
    Calls Try.prog 58 #[v, .map (some bm), .map (some bk)] w fun e w' => e = .returned (.int .i64 (cntF ms r f)) ∧ SetI w' bm f c0 ∧ (∃ n', n' ≤ n + 12 ^ r ∧ MemI w' bk n' (cW ms)) ∧ Below W0.heap.size W0 w' ∧ But2 bm bk w w' := by
  have HM := Lib.hid h
  obtain ⟨A, c, rfl, hcap, hl, _⟩ := RdM_at h
  clear h
  have HRD := Lib.hid (fun f c0 u (q : Below W0.heap.size W0 u) (s : SetI u bm f c0) => implReady_any _ ms bm c0 f u (RdM_kept HM.out q) s h10 hA)
  clear hA
  intro r
  induction r with
  | zero =>
    intro f c0 n w hb hset hmem hc hnf hf hn
    have hcc : (c0 : Int) = (ms.length : Int) := by omega
    have HSET := Lib.hid hset; clear hset
    have hcl : ((c0 : Int) == (ms.length : Int)) = true := by simpa using hcc
    go_enter Try.func58, Try.ntmps58
    go_wp2_with (at_len; refine wp_lenI _ rfl _ rfl bm c0 f rfl HSET.out ?_)
    go_ret
    exact ⟨rfl, HSET.out, ⟨n, by omega, hmem⟩, hb, But2_below (Below.refl _ _)⟩
  | succ r ih =>
    intro f c0 n w hb hset hmem hc hnf hf hn
    have hr10 : r + 1 ≤ 10 := by omega
    have hcl : ((c0 : Int) == (ms.length : Int)) = false := by simp; omega
    have HNU := Lib.hid (number_any bm c0 f w hset (fun i hi => by have := hf i hi; omega))
    have HSET := Lib.hid hset; clear hset
    have HMEM := Lib.hid hmem; clear hmem
    have HIH := Lib.hid ih; clear ih
    have HF := Lib.hid hf; clear hf
    have hcnt : cntF ms (r + 1) f = sumL ((readyL ms f).map fun k => cntF ms r (insB f k)) := rfl
    have hbdl := fun j => sumL_bd ((readyL ms f).take j) (fun k => cntF ms r (insB f k)) (10 ^ r) (Int.pow_nonneg (by omega)) (fun k _ => cntF_bd ms h10 r (insB f k))
    have hbd1 := fun k => cntF_bd ms h10 r (insB f k)
    have hbdw := (cntF_bd ms h10 (r + 1) f)
    have hp1 := ten_pow (r + 1) hr10
    have hp0 := ten_pow r (by omega)
    have hll : (readyL ms f).length ≤ 10 := Nat.le_trans (idxsL_len _ _) h10
    have HEL := Lib.hid (fun j (hj : j < (readyL ms f).length) => idxsL_mem (canF ms f) ms.length (readyL ms f)[j] (List.getElem_mem hj))
    have HBDL := Lib.hid hbdl; clear hbdl
    have HBD1 := Lib.hid hbd1; clear hbd1
    go_enter Try.func58, Try.ntmps58
    go_wp2_with (at_len; refine wp_lenI _ rfl _ rfl bm c0 f rfl HSET.out ?_)
    refine HNU.out.mono ?_
    rintro e w1 ⟨d, rfl, hd, hbd, hb1⟩
    obtain ⟨D, rfl⟩ : ∃ D : Nat, d = (D : Int) := ⟨d.toNat, by omega⟩
    have hcW : cW ms D = cntF ms (r + 1) f := by unfold cW leftB; rw [hbd, hnf]
    have hset1 := SetI_kept HSET.out hb1
    have hmem1 := MemI_kept HMEM.out hb1
    have b1 := kept_trans hb hb1
    have HS1 := Lib.hid hset1; clear hset1
    have HM1 := Lib.hid hmem1; clear hmem1
    have HCW := Lib.hid hcW
    go_wp2_with (at_lookup; refine wp_lookM _ rfl _ _ rfl bk n (cW ms) D (by omega) rfl rfl HM1.out ?_ (fun y => ?_))
    · go_ret
      exact ⟨rfl, HS1.out, ⟨n, Nat.le_add_right _ _, HM1.out⟩, b1, But2_below hb1⟩
    · clear hcW
      go_wp2_with fail
      refine (HRD.out f c0 _ b1 HS1.out).mono ?_
      rintro e w2 ⟨v2, rfl, hrow, hb2⟩
      have b2 := kept_trans b1 hb2
      have hset2 := SetI_kept HS1.out hb2
      have hmem2 := MemI_kept HM1.out hb2
      have hsz1 := b1.size
      have hsm := SetI_lt HS1.out
      have hsk := MemI_lt HM1.out
      have hbut2 : But2 bm bk w w2 := But2_below (kept_trans hb1 hb2)
      generalize readyL ms f = L at *
      obtain ⟨_, B, cB, rfl, _⟩ := RowI_rd hrow
      have HROW := Lib.hid hrow; clear hrow
      have HS2 := Lib.hid hset2; clear hset2
      have HM2 := Lib.hid hmem2; clear hmem2
      have HB2 := Lib.hid hbut2; clear hbut2
      clear HS1 HM1 HNU HSET HMEM
      go_wp2_with fail
      go_loopw [10, 32] (fun cnt i wr => ∃ j n2 : Nat, j ≤ L.length ∧ i = .int .i64 (j : Int) ∧ cnt = .int .i64 (sumL ((L.take j).map fun k => cntF ms r (insB f k))) ∧ SetI wr bm f c0 ∧ n2 ≤ n + j * 12 ^ r ∧ MemI wr bk n2 (cW ms) ∧ Below W0.heap.size W0 wr ∧ But2 bm bk w2 wr) (fun _ i _ => L.length - (intOf i).toNat)
      case atStart => exact ⟨0, n, by omega, rfl, rfl, HS2.out, by omega, HM2.out, b2, But2_below (Below.refl _ _)⟩
      case round =>
        obtain ⟨j, n2, hj, rfl, rfl, hset, hn2, hmem, hbr, hbut⟩ := hrel
        by_cases hlt : j < L.length
        · obtain ⟨k', hx, hk', hcan⟩ := HEL.out j hlt
          have hfx : f (k' : Int) = false := by
            unfold canF at hcan
            rw [Bool.and_eq_true] at hcan
            simpa using hcan.2
          have hwf : (Lit.int .i64 (k' : Int)).wf = true := WalkArith.wf_i64 (by omega)
          obtain ⟨_, B', cB', e', hrr⟩ := RowI_rd (RowI_but2 HROW.out hbut hsm hsk)
          cases e'
          obtain ⟨b, off, rfl, hbl, hcell⟩ := hrr j hlt
          clear hrr
          rw [hx] at hcell
          have hnf' := nfree_ins f k' hfx ms.length
          rw [if_pos hk', hnf] at hnf'
          have hp := pow12 r j n n2 (by omega) hn2 hn
          have hSt := sumL_take L (fun k => cntF ms r (insB f k)) j hlt
          rw [hx] at hSt
          have hS := HBDL.out j
          rw [show (L.take j).length = j by simp; omega] at hS
          have hP0 : (0 : Int) ≤ 10 ^ r := Int.pow_nonneg (by omega)
          have hmj : (j : Int) * 10 ^ r ≤ 10 * 10 ^ r := Int.mul_le_mul_of_nonneg_right (by omega) hP0
          have hC := HBD1.out (k' : Int)
          have hfr : ∀ i, insB f (k' : Int) i = true → 0 ≤ i ∧ i < (ms.length : Int) := fun i hi => by
            unfold insB at hi
            rw [Bool.or_eq_true] at hi
            rcases hi with hi | hi
            · have := of_decide_eq_true hi; omega
            · exact HF.out i hi
          have HX := Lib.hid (fun w3 b3 s3 m3 => HIH.out (insB f (k' : Int)) (c0 + 1) n2 w3 b3 s3 m3 (by omega) (by omega) hfr hp.1)
          have HST := Lib.hid hSt; clear hSt
          have HP := Lib.hid hp; clear hp
          have HSETR := Lib.hid hset; clear hset
          have HMEMR := Lib.hid hmem; clear hmem
          have HBUT := Lib.hid hbut; clear hbut
          have hbS : 0 ≤ sumL ((L.take j).map fun k => cntF ms r (insB f k)) ∧ sumL ((L.take j).map fun k => cntF ms r (insB f k)) ≤ 100000000000 := by omega
          have hbC : 0 ≤ cntF ms r (insB f (k' : Int)) ∧ cntF ms r (insB f (k' : Int)) ≤ 10000000000 := by omega
          clear hS hC hmj hP0 hcnt hbdw hp1 hp0 hnf' hfr hcan
          generalize sumL ((L.take j).map fun k => cntF ms r (insB f k)) = S at *
          generalize cntF ms r (insB f (k' : Int)) = C at *
          go_wp2_with (at_mapUpdate; refine wp_storeI _ rfl _ _ _ rfl bm c0 f (k' : Int) rfl rfl rfl HSETR.out hwf (by unfold maxLen; omega) ?_; intro w3 hset3 hg3)
          rw [hfx] at hset3
          simp only [Bool.false_eq_true, if_false] at hset3
          have b3 := grown_below hbr hg3 (fun g hg => by simp at hg; omega)
          have hmem3 := MemI_far HMEMR.out hg3 (by simpa using hne)
          refine (HX.out w3 b3 hset3 hmem3).mono ?_
          rintro e w4 ⟨rfl, hset4, ⟨n4, hn4, hmem4⟩, b4, hbut4⟩
          have HSET4 := Lib.hid (show SetI w4 bm (fun t => decide (t = (k' : Int)) || f t) (c0 + 1) from hset4); clear hset4 hset3 hmem3
          have HMEM4 := Lib.hid hmem4; clear hmem4
          go_wp2_with (at_delete; refine wp_delI _ rfl _ _ rfl bm c0 f (k' : Int) rfl rfl HSET4.out hfx hwf ?_; intro w5 hset5 hg5)
          go_roundw
          case rel => exact ⟨j + 1, n4, by omega, by go_num, by rw [HST.out], hset5, HP.out.2 n4 hn4, MemI_far HMEM4.out hg5 (by simpa using hne), grown_below b4 hg5 (fun g hg => by simp at hg; omega), But2_trans HBUT.out (But2_trans (But2_grown hg3 (fun g hg => Or.inl (by simpa using hg.symm))) (But2_trans hbut4 (But2_grown hg5 (fun g hg => Or.inl (by simpa using hg.symm)))))⟩
          case measure => simp [intOf]; omega
        · obtain rfl : j = L.length := by omega
          have hfin : sumL ((L.take L.length).map fun k => cntF ms r (insB f k)) = cW ms D := by rw [List.take_length, HCW.out]; exact hcnt.symm
          have hp := pow12_end r L.length n n2 hll hn2 hn
          have hwfc : (Lit.int .i64 (cW ms D)).wf = true := WalkArith.wf_i64 (by rw [HCW.out]; omega)
          have HSETR := Lib.hid hset; clear hset
          have HMEMR := Lib.hid hmem; clear hmem
          have HBUT := Lib.hid hbut; clear hbut
          have HCX := Lib.hid (show cW ms D = cntF ms (r + 1) f from HCW.out)
          rw [hfin]
          clear hfin hcnt
          have hlt12 : n2 < 743008370688 := by omega
          go_wp2_with (at_mapUpdate; refine wp_storeM _ rfl _ _ _ rfl bk n2 (cW ms) D (by omega) rfl rfl rfl hwfc HMEMR.out (by unfold maxLen; omega) ?_; intro w6 hmem6 hg6)
          go_ret
          exact ⟨by rw [HCX.out]; rfl, SetI_far HSETR.out hg6 (by simpa using fun e : bk = bm => hne e.symm), ⟨n2 + 1, hp.2, hmem6⟩, grown_below hbr hg6 (fun g hg => by simp at hg; omega), But2_trans HB2.out (But2_trans HBUT.out (But2_grown hg6 (fun g hg => Or.inr (by simpa using hg.symm))))⟩

theorem implCO_any (v : Value) (ms : List Lf) (w : World) (h : RdM w v ms) (hn : ∀ k ∈ ms, k.nm.size ≤ 1000000) (hlen : ms.length ≤ 1000000) :
    Calls Try.prog 23 #[v] w fun e w' => e = .returned (.tuple #[.int .i64 (coRes ms).1, .int .i64 (coRes ms).2]) ∧ Below w.heap.size w w' := by
  have HV := Lib.hid (fun u (q : RdM u v ms) => implVL_any v ms u q hn hlen)
  have HM := Lib.hid h
  have hmm := @run_makeMap Try.prog
  have HC := fun (hb : liftsB ms = true) u (q : RdM u v ms) bm bk hne hm hk => countO_any v ms u q (liftsB_iff.1 hb).2 (fun k hk j hj => lifts_after hb k hk j hj) bm bk hne hm hk ms.length (fun _ => false) 0 0
  have hcw : liftsB ms = true → cW ms 0 = cntF ms ms.length (fun _ => false) := fun _ => by unfold cW leftB; rw [bitB_zero, nfree_false]
  have h10 : liftsB ms = true → ms.length ≤ 10 := fun hb => (liftsB_iff.1 hb).2
  clear h hn
  unfold coRes
  cases hb : liftsB ms
  · rw [hb] at HV
    clear HC hcw h10 hb
    simp only [Bool.false_eq_true, if_false]
    go_enter Try.func23, Try.ntmps23
    go_wp2_with fail
    refine (HV.out _ HM.out).mono ?_
    rintro e w1 ⟨rfl, hb1⟩
    go_wp2
    go_ret2
    exact ⟨rfl, hb1⟩
  · have HCX := Lib.hid (HC hb)
    have h10 := h10 hb
    rw [hcw hb]
    rw [hb] at HV
    clear HC hcw hb
    simp only [if_true]
    have hp : 0 + 12 ^ ms.length ≤ 12 ^ 11 := by rw [Nat.zero_add]; exact Nat.pow_le_pow_right (by omega) (by omega)
    have HP := Lib.hid hp; clear hp
    generalize hX : cntF ms ms.length (fun _ => false) = X at *
    go_enter Try.func23, Try.ntmps23
    go_wp2_with fail
    refine (HV.out _ HM.out).mono ?_
    rintro e w1 ⟨rfl, hb1⟩
    go_wp2_with fail
    refine (HCX.out w1 (RdM_kept HM.out hb1) w1.heap.size (w1.heap.size + 1) (by omega) (by omega) (by omega) _ (by go_grown) (SetI_kept (SetI_made w1) (by go_grown)) (by have := MemI_made (w1.alloc (.map #[] 0)) (cW ms); simpa using this) (by omega) (nfree_false _) (fun i hi => by simp at hi) HP.out).mono ?_
    rintro e w2 ⟨rfl, _, _, hb2, _⟩
    go_wp2
    go_ret2
    exact ⟨rfl, kept_trans hb1 hb2⟩

end Go.Proofs.Ytnflaeimiegepaa
