/- Proved: for every input the law FnExactNeighboursOf returns true, and each argument reads afterwards as it read before; no condition beside those of the given row. -/
import Derived.Test.YtonhndiflhbkiaaDoorRows
import Derived.WalkKit
import Derived.ProofKit
import Derived.OpenShut
import Derived.Lib.Hide
import Derived.Handy
import Derived.BigQuiet
import Derived.Carry
import Derived.Deep.DeepCutAuto
import Derived.Deep.QuietTactic
import Derived.Deep.RegionHeld3
import Derived.Deep.SlicePairs
import Derived.Laws.RangeAny
import Derived.Lib.ItoaLen
import Derived.Lib.ItoaNum
import Derived.Lib.LaidU8
import Derived.Lib.SmallJoins
import Derived.OwnWalk
import Derived.Test.YtonhndiflhbkiaaDoorCards
import Derived.Test.YtonhndiflhbkiaaDoorTie
import Derived.Lib.SmallJoins
import Derived.ChangeMaps5
import Derived.Deep.DeepHandedRow
import Derived.Deep.DeepWitnessRowRef
import Derived.Lib.LaidTab
import Derived.SevenTiedAt
namespace Go.Proofs.YtonhndiflhbkiaaDoor
open Go.ChangeShapes Go.WideShapes Go.ChangeAt Go.RowKit
set_option linter.unusedVariables false
set_option linter.unusedSimpArgs false

theorem tmod_pos (n k : Int) (h : 0 ≤ n) : n.tmod k = n % k := Int.tmod_eq_emod_of_nonneg h

theorem trodAll_stay {H : Type} {enc : TypeId × Value → H} {P : Program} (hl : laidOutB P = true) {W W' : World} (hb : Below W.heap.size W W') :
    ∀ (ts : List TypeId) (vs : List Value) (ds : List (DataW H)) (ps : List MemPlace), ts.all (fun t => P.readableRec t && decide (t < P.types.size)) = true →
      DataW.TrodAll enc P W 0 (fun _ => true) true ts vs ds ps → (∀ x ∈ ps, x.block < W.heap.size) →
      DataW.TrodAll enc P W' 0 (fun b => decide (b < W.heap.size)) true ts vs ds ps := by
  intro ts
  induction ts with
  | nil => intro vs ds ps _ h _; obtain ⟨rfl, rfl, rfl⟩ := trodAll_nil h; exact rfl
  | cons t ts ih =>
    intro vs ds ps hr h hlt
    simp only [List.all_cons, Bool.and_eq_true, decide_eq_true_eq] at hr
    obtain ⟨v, vs', d, ds', p, q, rfl, rfl, rfl, h0, h1⟩ := trodAll_cons h
    exact ⟨p, q, Below.trod hl hr.1.1 hr.1.2 h0 hb (fun x hx => hlt x (by simp [hx])), ih _ _ _ hr.2 h1 (fun x hx => hlt x (by simp [hx])), rfl⟩

/-- Each variable's type is one that can be read. -/
def varsOk (P : Program) (ns : List String) : Bool := ns.all fun n => match P.globalNamed n with
  | some g => (match (P.globals[g]?).map (·.type) with | some t => P.readableRec t && decide (t < P.types.size) | none => true)
  | none => true

theorem trodVars_stay {H : Type} {enc : TypeId × Value → H} {P : Program} (hl : laidOutB P = true) {W W' : World} (hb : Below W.heap.size W W') :
    ∀ (ns : List String) (gs : List (DataW H)) (ps : List MemPlace), varsOk P ns = true → DataW.TrodVars enc P W (fun _ => true) ns gs ps → (∀ x ∈ ps, x.block < W.heap.size) →
      DataW.TrodVars enc P W' (fun b => decide (b < W.heap.size)) ns gs ps := by
  intro ns
  induction ns with
  | nil => intro gs ps _ h _; obtain ⟨rfl, rfl⟩ := trodVars_none h; exact rfl
  | cons n ns ih =>
    intro gs ps hv h hlt
    cases gs with
    | nil => exact h.elim
    | cons d gs =>
      obtain ⟨g, t, cs, fuel, p, q, hg, ht, hvar, hd, hr, rfl⟩ := h
      simp only [varsOk, List.all_cons, Bool.and_eq_true] at hv
      have hv1 := hv.1
      rw [hg] at hv1
      simp only [ht, Bool.and_eq_true, decide_eq_true_eq] at hv1
      have hgl : g < W.heap.size := by
        simp only [World.var?, hg, Option.bind_some] at hvar
        rcases Nat.lt_or_ge g W.heap.size with hlt | hge
        · exact hlt
        · rw [Array.getElem?_eq_none hge] at hvar; simp at hvar
      have h0 : DataW.Trod enc P W 0 (fun _ => true) true t (.agg cs) d p := ⟨fuel, by simpa [Value.cells] using hd⟩
      obtain ⟨fuel', hd'⟩ := Below.trod hl hv1.1 hv1.2 h0 hb (fun x hx => hlt x (by simp [hx]))
      refine ⟨g, t, cs, fuel', p, q, hg, ht, ?_, by simpa [Value.cells] using hd', ih _ _ hv.2 hr (fun x hx => hlt x (by simp [hx])), rfl⟩
      simp only [World.var?, hg, Option.bind_some] at hvar ⊢
      rw [hb.block g hgl]
      exact hvar

/-- A law's row at its end, the listed variables too: it returned true, and of what was there nothing has turned. -/
theorem law_postV {H : Type} {enc : TypeId × Value → H} {P : Program} {f : Func} {s : ChangeSpec} {W W' : World} {args : Array Value} {ds gs : List (DataW H)} {before : List MemPlace} {B : TypeId}
    (hl : laidOutB P = true) (hr : f.params.toList.all (fun t => P.readableRec t && decide (t < P.types.size)) = true) (hvs : varsOk P s.vars = true)
    (hres : f.resultTypes = #[B]) (hB : P.underlying B = some .bool)
    (hW : DataW.Whole enc P f.params.toList s.vars false W args.toList ds gs before)
    (hfn : s.fn H (ds ++ gs) = { results := [.lit (.bool true)], args := ds, vars := gs }) (hb : Below W.heap.size W W') :
    s.post enc P f false true false false W args (.bool true) W' := by
  have hlt : ∀ p ∈ before, p.block < W.heap.size := fun p hp => hW.lt p hp
  have hW' := hW
  obtain ⟨p, q, hA, hV, rfl, _, _⟩ := hW'
  refine ⟨ds, gs, p ++ q, [], p, q, hW, ?_, ?_, ?_, hb.frame _, fun h => by cases h⟩
  · rw [hfn, hres]
    exact trodAll_cons_mk (shut_bool hB _) trodAll_mk0
  · rw [hfn]
    exact trodAll_stay hl hb _ _ _ _ hr hA (fun x hx => hlt x (by simp [hx]))
  · rw [hfn]
    exact trodVars_stay hl hb _ _ _ hvs hV (fun x hx => hlt x (by simp [hx]))

theorem vars_one {H : Type} {enc : TypeId × Value → H} {P : Program} {W : World} {sp : Nat → Bool} {n : String} {gs : List (DataW H)} {q : List MemPlace} (h : DataW.TrodVars enc P W sp [n] gs q) : ∃ g1, gs = [g1] := by
  cases gs with
  | nil => exact h.elim
  | cons g gs =>
    obtain ⟨_, _, _, _, _, _, _, _, _, _, hr, _⟩ := h
    obtain ⟨rfl, _⟩ := trodVars_none hr
    exact ⟨_, rfl⟩

theorem vars_len {H : Type} {enc : TypeId × Value → H} {P : Program} {W : World} {sp : Nat → Bool} : ∀ (ns : List String) (gs : List (DataW H)) (q : List MemPlace), DataW.TrodVars enc P W sp ns gs q → gs.length = ns.length := by
  intro ns
  induction ns with
  | nil => intro gs q h; obtain ⟨rfl, _⟩ := trodVars_none h; rfl
  | cons n ns ih =>
    intro gs q h
    cases gs with
    | nil => exact h.elim
    | cons g gs =>
      obtain ⟨_, _, _, _, _, _, _, _, _, _, hr, _⟩ := h
      simp [ih _ _ hr]

theorem vars_three {H : Type} {enc : TypeId × Value → H} {P : Program} {W : World} {sp : Nat → Bool} {n1 n2 n3 : String} {gs : List (DataW H)} {q : List MemPlace} (h : DataW.TrodVars enc P W sp [n1, n2, n3] gs q) : ∃ g1 g2 g3, gs = [g1, g2, g3] := by
  have := vars_len _ _ _ h
  match gs, this with
  | [g1, g2, g3], _ => exact ⟨_, _, _, rfl⟩

theorem vars_two {H : Type} {enc : TypeId × Value → H} {P : Program} {W : World} {sp : Nat → Bool} {n1 n2 : String} {gs : List (DataW H)} {q : List MemPlace} (h : DataW.TrodVars enc P W sp [n1, n2] gs q) : ∃ g1 g2, gs = [g1, g2] := by
  have := vars_len _ _ _ h
  match gs, this with
  | [g1, g2], _ => exact ⟨_, _, rfl⟩

theorem kept_cell {W w1 : World} (hb : Below W.heap.size W w1) (b o : Nat) (h : b < W.heap.size) : w1.cell? ⟨b, o, none⟩ = W.cell? ⟨b, o, none⟩ := hb.cell (p := ⟨b, o, none⟩) h

theorem kept_frozen {W w1 : World} (hb : Below W.heap.size W w1) (b o : Nat) (h : b < W.heap.size) : w1.frozen? ⟨b, o, none⟩ = W.frozen? ⟨b, o, none⟩ := hb.frozen (p := ⟨b, o, none⟩) h

theorem kept {W w1 : World} (hb : Below W.heap.size W w1) :
    (∀ b o, b < W.heap.size → w1.cell? ⟨b, o, none⟩ = W.cell? ⟨b, o, none⟩) ∧ (∀ b o, b < W.heap.size → w1.frozen? ⟨b, o, none⟩ = W.frozen? ⟨b, o, none⟩) ∧ W.heap.size ≤ w1.heap.size :=
  ⟨kept_cell hb, kept_frozen hb, hb.size⟩

theorem kept_trans {a b c : World} (h : Below a.heap.size a b) (k : Below b.heap.size b c) : Below a.heap.size a c := h.trans (k.mono h.size)

theorem kept_at {W w1 : World} (hb : Below W.heap.size W w1) (b : Nat) {G : Prop} (h : b < W.heap.size)
    (k : (∀ o, w1.cell? ⟨b, o, none⟩ = W.cell? ⟨b, o, none⟩) → (∀ o, w1.frozen? ⟨b, o, none⟩ = W.frozen? ⟨b, o, none⟩) → b < w1.heap.size → G) : G :=
  k (fun o => kept_cell hb b o h) (fun o => kept_frozen hb b o h) (Nat.lt_of_lt_of_le h hb.size)

theorem kept_drewN {B : Nat} {a w : World} (h : Below B a w) (n : Nat) : Below B a (w.drewN n) := { os := h.os, tape := h.tape, output := h.output, size := h.size, block := h.block }

theorem grown_step {a b c : World} {row : Option Nat} (h : a.grownBy b row) (k : b.grownBy c row) : a.grownBy c row :=
  ⟨k.os.trans h.os, k.tape.trans h.tape, k.output.trans h.output, Nat.le_trans h.size k.size, fun i hi hne => (k.block i (Nat.lt_of_lt_of_le hi h.size) hne).trans (h.block i hi hne)⟩

theorem grown_below {a b c : World} {row : Option Nat} (h : Below a.heap.size a b) (k : b.grownBy c row) (hr : ∀ g, row = some g → a.heap.size ≤ g) : Below a.heap.size a c := h.grown k h.size hr

theorem results_cell1 {fn : Func} {p : Tmp} {ty : TypeId} (h : fn.results = #[.cell p ty]) (tmps : Array Value) (P : Program) (w : World) :
    (results fn tmps).run P w = ((asAddr (tmps.getD p undef)).run P w).andThen fun a w₁ => (loadVar ty a).run P w₁ := by
  simp only [results, h]
  simp [Sem.run_bind, Result.andThen]

theorem grown_set (w : World) (a : Addr) (u : Value) : w.grownBy (w.setCell a u) (some a.block) :=
  ⟨rfl, rfl, rfl, by simp, fun k _ hk => heap_setCell_other w a k u (fun e => hk (by rw [e]))⟩

def inB (n low high : Int) : Bool := decide (low ≤ n) && decide (n ≤ high)

theorem in_any (n low high : Int) (w : World) :
    Calls Tryd.prog 120 #[.int .i64 n, .int .i64 low, .int .i64 high] w fun e w' => e = .returned (.bool (inB n low high)) ∧ w = w' := by
  unfold inB
  by_cases h1 : low ≤ n <;> by_cases h2 : n ≤ high <;>
  · go_enter Tryd.func120, Tryd.ntmps120
    go_wp2
    go_ret
    exact ⟨by simp [*], rfl⟩

theorem inB_true {n a b : Int} (h : inB n a b = true) : a ≤ n ∧ n ≤ b := by simpa [inB] using h

theorem inB_false {n a b : Int} (h : inB n a b = false) : ¬ (a ≤ n ∧ n ≤ b) := by simpa [inB] using h

def okP (x y : Int) : Bool := inB x (-10000) 10000 && inB y (-10000) 10000

theorem okP_true {x y : Int} (h : okP x y = true) : (-10000 ≤ x ∧ x ≤ 10000) ∧ -10000 ≤ y ∧ y ≤ 10000 := by
  simp only [okP, Bool.and_eq_true] at h
  exact ⟨inB_true h.1, inB_true h.2⟩

theorem specOk_any (x y : Int) (w : World) :
    Calls Tryd.prog 104 #[.agg #[.int .i64 x, .int .i64 y]] w fun e w' => e = .returned (.bool (okP x y)) ∧ Below w.heap.size w w' := by
  unfold okP
  cases h1 : inB x (-10000) 10000 <;>
  · go_enter Tryd.func104, Tryd.ntmps104
    go_wp2_with (go_at_call 120; refine (in_any _ _ _ _).mono ?_; rintro e w' ⟨rfl, rfl⟩)
    go_ret
    exact ⟨by simp, by go_grown⟩

theorem validPlace_any (x y : Int) (w : World) :
    Calls Tryd.prog 85 #[.agg #[.int .i64 x, .int .i64 y]] w fun e w' => e = .returned (.bool (okP x y)) ∧ Below w.heap.size w w' := by
  unfold okP inB
  rcases (show ¬ -10000 ≤ x ∨ (-10000 ≤ x ∧ ¬ x ≤ 10000) ∨ (-10000 ≤ x ∧ x ≤ 10000 ∧ ¬ -10000 ≤ y) ∨ (-10000 ≤ x ∧ x ≤ 10000 ∧ -10000 ≤ y ∧ ¬ y ≤ 10000) ∨ (-10000 ≤ x ∧ x ≤ 10000 ∧ -10000 ≤ y ∧ y ≤ 10000) from by omega) with h1 | ⟨h1, h2⟩ | ⟨h1, h2, h3⟩ | ⟨h1, h2, h3, h4⟩ | ⟨h1, h2, h3, h4⟩
  all_goals
    go_enter Tryd.func85, Tryd.ntmps85
    go_wp2
    go_ret
    exact ⟨by simp [*] <;> omega, by go_grown⟩

theorem toPoint_any (x y : Int) (w : World) :
    Calls Tryd.prog 52 #[.agg #[.int .i64 x, .int .i64 y]] w fun e w' => e = .returned (.agg #[.int .i64 x, .int .i64 y]) ∧ Below w.heap.size w w' := by
  go_enter Tryd.func52, Tryd.ntmps52
  go_wp2
  go_returns
  exact ⟨rfl, by go_grown⟩

theorem minus_any (x y u v : Int) (h1 : -20000 ≤ x ∧ x ≤ 20000) (h2 : -20000 ≤ y ∧ y ≤ 20000) (h3 : -20000 ≤ u ∧ u ≤ 20000) (h4 : -20000 ≤ v ∧ v ≤ 20000) (w : World) :
    Calls Tryd.prog 128 #[.agg #[.int .i64 x, .int .i64 y], .agg #[.int .i64 u, .int .i64 v]] w fun e w' => e = .returned (.agg #[.int .i64 (x - u), .int .i64 (y - v)]) ∧ Below w.heap.size w w' := by
  go_enter Tryd.func128, Tryd.ntmps128
  go_wp2
  go_returns
  exact ⟨rfl, by go_grown⟩

theorem scalar_any (x y u v : Int) (w : World) :
    Calls Tryd.prog 129 #[.agg #[.int .i64 x, .int .i64 y], .agg #[.int .i64 u, .int .i64 v]] w fun e w' => e = .returned (.int .i64 (wrap64 (wrap64 (x * u) + wrap64 (y * v)))) ∧ Below w.heap.size w w' := by
  go_enter Tryd.func129, Tryd.ntmps129
  go_wp2
  go_returns
  exact ⟨rfl, by go_grown⟩

theorem l02Square_any (x y u v : Int) (h1 : -20000 ≤ x ∧ x ≤ 20000) (h2 : -20000 ≤ y ∧ y ≤ 20000) (h3 : -20000 ≤ u ∧ u ≤ 20000) (h4 : -20000 ≤ v ∧ v ≤ 20000) (w : World) :
    Calls Tryd.prog 130 #[.agg #[.int .i64 x, .int .i64 y], .agg #[.int .i64 u, .int .i64 v]] w fun e w' => e = .returned (.int .i64 (wrap64 (wrap64 ((x - u) * (x - u)) + wrap64 ((y - v) * (y - v))))) ∧ Below w.heap.size w w' := by
  go_enter Tryd.func130, Tryd.ntmps130
  go_wp2
  go_returns
  exact ⟨rfl, by go_grown⟩

theorem sq_bd (a k : Int) (h1 : -k ≤ a) (h2 : a ≤ k) : 0 ≤ a * a ∧ a * a ≤ k * k := by
  refine ⟨by rcases Int.le_total 0 a with h | h; exact Int.mul_nonneg h h; exact Int.mul_nonneg_of_nonpos_of_nonpos h h, ?_⟩
  rcases Int.le_total 0 a with h | h
  · exact Int.mul_le_mul h2 h2 h (by omega)
  · have := Int.mul_le_mul (show -a ≤ k by omega) (show -a ≤ k by omega) (by omega) (by omega)
    rwa [Int.neg_mul_neg] at this

theorem sq_sym (a b : Int) : (a - b) * (a - b) = (b - a) * (b - a) := by
  rw [show a - b = -(b - a) by omega, Int.neg_mul_neg]

theorem sq_wrap (a b : Int) (h1 : -20000 ≤ a ∧ a ≤ 20000) (h2 : -20000 ≤ b ∧ b ≤ 20000) : wrap64 (wrap64 (a * a) + wrap64 (b * b)) = a * a + b * b := by
  have p := sq_bd a 20000 h1.1 h1.2
  have q := sq_bd b 20000 h2.1 h2.2
  rw [IntWalk.wrap64_in (a * a) (by omega), IntWalk.wrap64_in (b * b) (by omega), IntWalk.wrap64_in _ (by omega)]

theorem info_int64 : (Tryd.prog.info? 2).map (fun i => (i.zero, i.size, i.bytes)) = some (some (.int .i64 0), 1, 8) := by kernel_rfl

theorem own_kept {W w1 : World} {base : Nat} {e : TypeId} {size : Nat} {v : Value} {n : Nat} {xs : List Value} (h : W.ownsRow base e size v n xs) (hb : Below W.heap.size W w1) : w1.ownsRow base e size v n xs := by
  refine ⟨h.1, ?_⟩
  rcases h.2 with h2 | ⟨g, cap, cur, hv, hg, hh, r⟩
  · exact Or.inl h2
  · refine Or.inr ⟨g, cap, cur, hv, hg, ?_, r⟩
    rw [hb.block g (h.lt g (by rw [hv]; rfl)).2]
    exact hh

/-- The slice value reads as a list of numbers. -/
def RdI (w : World) (v : Value) (zs : List Int) : Prop :=
  zs.length ≤ 9223372036854775807 ∧ ∃ A c, v = .slice A zs.length c ∧ ∀ k, (hk : k < zs.length) → ∃ b off, A = some ⟨b, off, none⟩ ∧ b < w.heap.size ∧ w.cell? ⟨b, off + k, none⟩ = some (.int .i64 zs[k])

/-- A row of numbers of the call's own, in a block from lo on and below hi. -/
def RowI (w : World) (lo hi : Nat) (v : Value) (zs : List Int) : Prop :=
  w.ownsRow lo 2 1 v zs.length (zs.map (Value.int .i64)) ∧ ∀ g, v.ownBlock = some g → lo ≤ g ∧ g < hi

theorem RowI_nil (w : World) (lo hi : Nat) : RowI w lo hi (.slice none 0 0) [] := ⟨World.ownsRow_nil _ _ _ _, fun g h => by simp [Value.ownBlock] at h⟩

theorem RowI_form {w : World} {lo hi : Nat} {v : Value} {zs : List Int} (h : RowI w lo hi v zs) :
    (zs = [] ∧ v = .slice none 0 0) ∨ ∃ g cap, v = .slice (some ⟨g, 0, none⟩) zs.length cap ∧ lo ≤ g ∧ g < hi ∧ g < w.heap.size ∧ zs.length ≤ cap ∧ cap ≤ maxLen := by
  rcases h.1.2 with ⟨h1, h2⟩ | ⟨g, cap, cur, rfl, hg, hh, h3, h4, _⟩
  · exact Or.inl ⟨List.eq_nil_of_length_eq_zero h2, h1⟩
  · exact Or.inr ⟨g, cap, rfl, hg, (h.2 g rfl).2, (h.1.lt g rfl).2, h3, h4⟩

theorem RowI_rd {w : World} {lo hi : Nat} {v : Value} {zs : List Int} (h : RowI w lo hi v zs) : RdI w v zs := by
  rcases RowI_form h with ⟨rfl, rfl⟩ | ⟨g, cap, rfl, _, _, hlt, h3, h4⟩
  · exact ⟨by simp, none, 0, rfl, fun k hk => by simp at hk⟩
  · unfold maxLen at h4
    refine ⟨by omega, some ⟨g, 0, none⟩, cap, rfl, fun k hk => ⟨g, 0, rfl, hlt, ?_⟩⟩
    rw [Nat.zero_add, h.1.cellAt k (by simpa using hk)]
    simp [hk]

theorem RowI_kept {W w1 : World} {lo hi : Nat} {v : Value} {zs : List Int} (h : RowI W lo hi v zs) (hb : Below W.heap.size W w1) : RowI w1 lo hi v zs := ⟨own_kept h.1 hb, h.2⟩

theorem RowI_far {W w1 : World} {lo hi : Nat} {v : Value} {zs : List Int} {row : Option Nat} (h : RowI W lo hi v zs) (hg : W.grownBy w1 row) (hr : ∀ g, row = some g → g < lo ∨ hi ≤ g) : RowI w1 lo hi v zs := by
  refine ⟨h.1.kept hg ?_, h.2⟩
  rcases hv : v.ownBlock with _ | g
  · exact Or.inl rfl
  · refine Or.inr (fun e => ?_)
    have h1 := h.2 g hv
    have h2 := hr g e.symm
    omega

theorem eqInts_same (v1 v2 : Value) (zs : List Int) (w : World) (h1 : RdI w v1 zs) (h2 : RdI w v2 zs) :
    Calls Tryd.prog 48 #[v1, v2] w fun e w' => e = .returned (.bool true) ∧ Below w.heap.size w w' := by
  obtain ⟨hl, A, c, rfl, r1⟩ := h1
  obtain ⟨_, A2, c2, rfl, r2⟩ := h2
  have R1 := Lib.hid r1; clear r1
  have R2 := Lib.hid r2; clear r2
  go_enter Tryd.func48, Tryd.ntmps48
  go_wp2_with fail
  go_loopw [5] (fun i wr => ∃ k : Nat, k ≤ zs.length ∧ i = .int .i64 k ∧ Below w.heap.size w wr) (fun i _ => zs.length - (intOf i).toNat)
  case atStart => exact ⟨0, by omega, rfl, Below.refl _ _⟩
  case round =>
    obtain ⟨k, hk, rfl, hb⟩ := hrel
    by_cases hlt : k < zs.length
    · obtain ⟨b, off, rfl, hbl, hc⟩ := R1.out k hlt
      obtain ⟨b2, off2, rfl, hbl2, hc2⟩ := R2.out k hlt
      rw [← kept_cell hb b _ hbl] at hc
      rw [← kept_cell hb b2 _ hbl2] at hc2
      go_wp2_with fail
      go_quiet (fail)
      go_wp2
      go_roundw
      case rel => exact ⟨k + 1, by omega, by go_num, kept_drewN hb _⟩
      case measure => simp [intOf]; omega
    · have : k = zs.length := by omega
      subst this
      go_wp2
      go_ret
      exact ⟨rfl, hb⟩

/-- What a marked list holds: k, k + 1, .. -/
def marks (k : Nat) : Nat → List Int
  | 0 => []
  | n + 1 => (k : Int) :: marks (k + 1) n

theorem marks_len (k n : Nat) : (marks k n).length = n := by
  induction n generalizing k with
  | zero => rfl
  | succ n ih => simp [marks, ih]

theorem marks_at (k n j : Nat) (h : j < n) : (marks k n)[j]? = some ((k + j : Nat) : Int) := by
  induction n generalizing k j with
  | zero => omega
  | succ n ih =>
    cases j with
    | zero => simp [marks]
    | succ j => simp only [marks, List.getElem?_cons_succ]; rw [ih (k + 1) j (by omega)]; congr 2; omega

theorem marks_set (k j : Nat) (l : List Int) (h : j < l.length) : (marks k j ++ l.drop j).set j ((k + j : Nat) : Int) = marks k (j + 1) ++ l.drop (j + 1) := by
  apply List.ext_getElem?
  intro i
  rw [List.getElem?_set]
  by_cases h1 : j = i
  · subst h1
    rw [if_pos rfl, if_pos (by simp [marks_len]; omega), List.getElem?_append_left (by rw [marks_len]; omega), marks_at _ _ _ (by omega)]
  · rw [if_neg h1]
    by_cases h2 : i < j
    · rw [List.getElem?_append_left (by rw [marks_len]; omega), List.getElem?_append_left (by rw [marks_len]; omega), marks_at _ _ _ h2, marks_at _ _ _ (by omega)]
    · rw [List.getElem?_append_right (by rw [marks_len]; omega), List.getElem?_append_right (by rw [marks_len]; omega), marks_len, marks_len, List.getElem?_drop, List.getElem?_drop]
      congr 1
      omega

theorem markInts_any (v : Value) (zs : List Int) (lo hi k0 : Nat) (w : World) (h : RowI w lo hi v zs) (hk0 : k0 ≤ 1000) (hn : zs.length ≤ 4611686018427387904) :
    Calls Tryd.prog 49 #[v, .int .i64 k0] w fun e w' => e = .returned (.int .i64 ((k0 + zs.length : Nat) : Int)) ∧ RowI w' lo hi v (marks k0 zs.length) ∧ w.grownBy w' v.ownBlock := by
  rcases RowI_form h with ⟨rfl, rfl⟩ | ⟨g, cap, rfl, _, _, hlt, _, _⟩
  · go_enter Tryd.func49, Tryd.ntmps49
    go_wp2_with fail
    refine wp_loop_rounds 1 ?_
    rw [rounds_succ]
    go_wp2
    go_ret
    exact ⟨rfl, RowI_nil _ _ _, World.grownBy.refl _ _⟩
  · have hll := zs.length
    generalize hN : zs.length = N at *
    have HN := Lib.hid hN; clear hN
    have H := Lib.hid h; clear h
    go_enter Tryd.func49, Tryd.ntmps49
    go_wp2_with fail
    go_loopw [1, 5] (fun q i wr => ∃ j : Nat, j ≤ N ∧ i = .int .i64 j ∧ q = .int .i64 ((k0 + j : Nat) : Int) ∧ wr.ownsRow lo 2 1 (.slice (some ⟨g, 0, none⟩) N cap) N ((marks k0 j ++ zs.drop j).map (Value.int .i64)) ∧ w.grownBy wr (some g)) (fun _ i _ => N - (intOf i).toNat)
    case atStart => exact ⟨0, by omega, rfl, by simp, by have := H.out.1; simpa [marks, HN.out] using this, World.grownBy.refl _ _⟩
    case round =>
      obtain ⟨j, hj, rfl, rfl, hown, hg⟩ := hrel
      by_cases hlt : j < N
      · have hcell : ∃ u, wr.cell? ⟨g, j, none⟩ = some u := by
          rw [hown.cellAt j (by omega)]
          have : j < ((marks k0 j ++ zs.drop j).map (Value.int .i64)).length := by simp [marks_len, HN.out]; omega
          exact ⟨_, List.getElem?_eq_getElem this⟩
        obtain ⟨u, hcell⟩ := hcell
        have hfz := hown.frozenAt j
        have hst := hown.stored j (.int .i64 ((k0 + j : Nat) : Int))
        have Hst := Lib.hid hst; clear hst
        have Hown := Lib.hid hown; clear hown
        go_wp2
        go_roundw
        case rel =>
          refine ⟨j + 1, by omega, by go_num, by go_num, ?_, ?_⟩
          · have := Hst.out.1
            rw [← List.map_set, marks_set _ _ _ (by rw [HN.out]; exact hlt)] at this
            exact this
          · exact grown_step hg Hst.out.2
        case measure => simp [intOf]; omega
      · have : j = N := by omega
        subst this
        go_wp2
        go_ret
        refine ⟨rfl, ⟨?_, fun x hx => H.out.2 x hx⟩, hg⟩
        rw [marks_len]
        have hd : zs.drop j = [] := List.drop_eq_nil_of_le (by rw [HN.out]; omega)
        rw [hd, List.append_nil] at hown
        exact hown

theorem heldInts_same (v : Value) (n k0 : Nat) (w : World) (h : RdI w v (marks k0 n)) (hk0 : k0 ≤ 1000) (hn : n ≤ 4611686018427387904) :
    Calls Tryd.prog 50 #[v, .int .i64 k0] w fun e w' => e = .returned (.int .i64 ((k0 + n : Nat) : Int)) ∧ w = w' := by
  obtain ⟨_, A, c, rfl, r1⟩ := h
  rw [marks_len] at *
  have R1 := Lib.hid r1; clear r1
  go_enter Tryd.func50, Tryd.ntmps50
  go_wp2_with fail
  go_loop [1, 5] (fun q i => ∃ j : Nat, j ≤ n ∧ i = .int .i64 j ∧ q = .int .i64 ((k0 + j : Nat) : Int)) (fun _ i => n - (intOf i).toNat)
  case atStart => exact ⟨0, by omega, rfl, by simp⟩
  case round =>
    obtain ⟨j, hj, rfl, rfl⟩ := hrel
    by_cases hlt : j < n
    · obtain ⟨b, off, rfl, hbl, hc⟩ := R1.out j (by rw [marks_len]; exact hlt)
      have hat := marks_at k0 n j hlt
      rw [List.getElem?_eq_getElem (by rw [marks_len]; exact hlt)] at hat
      rw [Option.some.inj hat] at hc
      clear hat
      go_wp2
      go_round
      case rel => exact ⟨j + 1, by omega, by go_num, by go_num⟩
      case measure => simp [intOf]; omega
    · have : j = n := by omega
      subst this
      go_wp2
      go_ret
      exact ⟨rfl, rfl⟩

/-- append of one number to a row of the call's own. -/
theorem wp_appendI {ops : Array Oper} {rest : List Oper} {o : Oper} {a : Act} {Q : Exit → Act → World → Prop} {W wr : World} (hgd : o.guard = none) (s x : Operand)
    (ho : o.op = .call { callee := .builtin .append, args := #[s, x], argTypes := #[51, 51] })
    (lo : Nat) (v : Value) (zs : List Int) (z : Int) (hs : a.eval s = v) (hrow : RowI wr lo wr.heap.size v zs) (hx : a.eval x = .slice (some ⟨wr.heap.size, 0, none⟩) 1 1)
    (hW : Below W.heap.size W wr) (hlo : W.heap.size ≤ lo) (hlo2 : lo ≤ wr.heap.size) (hn : zs.length < 17592186044416)
    (h : ∀ v' w', RowI w' lo w'.heap.size v' (zs ++ [z]) → Below W.heap.size W w' → wr.heap.size ≤ w'.heap.size → wpList Tryd.prog ops Q rest (a.put o.dst v') w') :
    wpList Tryd.prog ops Q (o :: rest) a (wr.alloc (.cells #[.int .i64 z] 2)) := by
  obtain ⟨i0, hi, hz0, hz1, hz2⟩ := info_parts info_int64
  refine wpList_append_own _ hgd s x _ ho lo 2 i0 (.int .i64 0) 1 8 Tryd.underlying51 hi hz0 hz1 hz2 rfl (by decide) v zs.length _ hs (hrow.1.alloc _) ⟨wr.heap.size, 0, none⟩ 1 1 [.int .i64 z] hx rfl ?_ ?_ ?_ ?_ ?_ ?_
  · intro j u hj
    cases j with
    | zero => simp at hj; subst hj; simp [Addr.add]
    | succ j => simp at hj
  · intro u hu; simp at hu; subst hu; rfl
  · unfold maxLen; omega
  · omega
  · simp; omega
  · intro v' w' hown hg _
    have e : (zs.map (Value.int .i64) ++ [.int .i64 z]) = (zs ++ [z]).map (Value.int .i64) := by simp
    rw [e] at hown
    have hrow' : RowI w' lo w'.heap.size v' (zs ++ [z]) := ⟨by simpa using hown, hown.lt⟩
    refine h v' w' hrow' ?_ (Nat.le_trans (by simp) hg.size)
    refine grown_below (hW.alloc hW.size _) hg (fun g hg2 => ?_)
    have := (hrow.2 g hg2).1
    omega

theorem eqPoint_same (x y : Int) (w : World) :
    Calls Tryd.prog 99 #[.agg #[.int .i64 x, .int .i64 y], .agg #[.int .i64 x, .int .i64 y]] w fun e w' => e = .returned (.bool true) ∧ Below w.heap.size w w' := by
  go_enter Tryd.func99, Tryd.ntmps99
  go_wp2
  go_ret
  exact ⟨rfl, by go_grown⟩

def smallI (c : Int) : Bool := decide (97 ≤ c) && decide (c ≤ 122)

def digitI (c : Int) : Bool := decide (48 ≤ c) && decide (c ≤ 57)

def okI (c : Int) : Bool := smallI c || digitI c || decide (c = 45)

def NameP (s : ByteArray) : Prop := 1 ≤ s.size ∧ s.size ≤ 12 ∧ (∀ h : 0 < s.size, smallI (s[0]'h).toNat = true) ∧ ∀ i, (h : i < s.size) → okI (s[i]'h).toNat = true

noncomputable def nameB (s : ByteArray) : Bool := @decide (NameP s) (Classical.propDecidable _)

theorem nameB_true {s : ByteArray} (h : NameP s) : nameB s = true := by unfold nameB; exact @decide_eq_true _ (Classical.propDecidable _) h

theorem nameB_false {s : ByteArray} (h : ¬ NameP s) : nameB s = false := by unfold nameB; exact @decide_eq_false _ (Classical.propDecidable _) h

theorem small_any (c : Int) (w : World) :
    Calls Tryd.prog 157 #[.int .u8 c] w fun e w' => e = .returned (.bool (smallI c)) ∧ w = w' := by
  unfold smallI
  rcases (show ¬ 97 ≤ c ∨ (97 ≤ c ∧ ¬ c ≤ 122) ∨ (97 ≤ c ∧ c ≤ 122) from by omega) with h1 | ⟨h1, h2⟩ | ⟨h1, h2⟩
  all_goals
    go_enter Tryd.func157, Tryd.ntmps157
    go_wp2
    go_ret
    exact ⟨by simp [*] <;> omega, rfl⟩

theorem digit_any (c : Int) (w : World) :
    Calls Tryd.prog 158 #[.int .u8 c] w fun e w' => e = .returned (.bool (digitI c)) ∧ w = w' := by
  unfold digitI
  rcases (show ¬ 48 ≤ c ∨ (48 ≤ c ∧ ¬ c ≤ 57) ∨ (48 ≤ c ∧ c ≤ 57) from by omega) with h1 | ⟨h1, h2⟩ | ⟨h1, h2⟩
  all_goals
    go_enter Tryd.func158, Tryd.ntmps158
    go_wp2
    go_ret
    exact ⟨by simp [*] <;> omega, rfl⟩

theorem isLetter_any (c : Int) (w : World) :
    Calls Tryd.prog 150 #[.int .i32 c] w fun e w' => e = .returned (.bool (smallI c)) ∧ w = w' := by
  unfold smallI
  rcases (show ¬ 97 ≤ c ∨ (97 ≤ c ∧ ¬ c ≤ 122) ∨ (97 ≤ c ∧ c ≤ 122) from by omega) with h1 | ⟨h1, h2⟩ | ⟨h1, h2⟩
  all_goals
    go_enter Tryd.func150, Tryd.ntmps150
    go_wp2
    go_ret
    exact ⟨by simp [*] <;> omega, rfl⟩

theorem isDigit_any (c : Int) (w : World) :
    Calls Tryd.prog 151 #[.int .i32 c] w fun e w' => e = .returned (.bool (digitI c)) ∧ w = w' := by
  unfold digitI
  rcases (show ¬ 48 ≤ c ∨ (48 ≤ c ∧ ¬ c ≤ 57) ∨ (48 ≤ c ∧ c ≤ 57) from by omega) with h1 | ⟨h1, h2⟩ | ⟨h1, h2⟩
  all_goals
    go_enter Tryd.func151, Tryd.ntmps151
    go_wp2
    go_ret
    exact ⟨by simp [*] <;> omega, rfl⟩

theorem specIsName_any (s : ByteArray) (w : World) (hs : s.size ≤ 1000000) :
    Calls Tryd.prog 134 #[.string s] w fun e w' => e = .returned (.bool (nameB s)) ∧ w = w' := by
  by_cases h0 : s.size = 0
  · have hE := nameB_false (s := s) (fun h => by have := h.1; omega)
    have hs0 : s = ByteArray.empty := by cases s with | mk d => simp [ByteArray.size] at h0; subst h0; rfl
    subst hs0
    rw [hE]
    go_enter Tryd.func134, Tryd.ntmps134
    go_wp2
    go_ret
    exact ⟨rfl, rfl⟩
  · have hne : s.toList.isEmpty = false := by
      rw [ByteArray.toList_eq]
      have : s.data.toList.length = s.size := Array.length_toList
      cases hl : s.data.toList with
      | nil => rw [hl] at this; simp at this; omega
      | cons a l => rfl
    have h0' : 0 < s.size := by omega
    by_cases h12 : s.size ≤ 12
    · cases hc : smallI (s[0]'h0').toNat
      · have hE := nameB_false (s := s) (fun h => by have := h.2.2.1 h0'; rw [hc] at this; cases this)
        rw [hE]
        have HC := Lib.hid hc; clear hc
        go_enter Tryd.func134, Tryd.ntmps134
        go_wp2_with (go_at_call 157; refine (small_any _ _).mono ?_; rw [HC.out]; rintro e w' ⟨rfl, rfl⟩)
        go_ret
        exact ⟨rfl, rfl⟩
      · have HC := Lib.hid hc; clear hc
        go_enter Tryd.func134, Tryd.ntmps134
        go_wp2_with (go_at_call 157; refine (small_any _ _).mono ?_; rw [HC.out]; rintro e w' ⟨rfl, rfl⟩)
        go_loop [3] (fun i => ∃ k : Nat, k ≤ s.size ∧ i = .int .i64 k ∧ ∀ j, (h : j < s.size) → j < k → okI (s[j]'h).toNat = true) (fun i => s.size - (intOf i).toNat)
        case atStart => exact ⟨0, by omega, rfl, fun j _ h => by omega⟩
        case round =>
          obtain ⟨k, hk, rfl, hall⟩ := hrel
          have HALL := Lib.hid hall; clear hall
          by_cases hlt : k < s.size
          · cases h1 : smallI (s[k]'hlt).toNat <;> cases h2 : digitI (s[k]'hlt).toNat <;> cases h3 : ((s[k]'hlt).toNat : Int) == 45
            all_goals
              have H1 := Lib.hid h1
              have H2 := Lib.hid h2
              have H3 := Lib.hid h3
              have h3' : (((s[k]'hlt).toNat : Int) != 45) = !(((s[k]'hlt).toNat : Int) == 45) := rfl
              rw [h3] at h3'
              clear h1 h2
              go_wp2_with (first | (go_at_call 157; refine (small_any _ _).mono ?_; rw [H1.out]; rintro e w' ⟨rfl, rfl⟩) | (go_at_call 158; refine (digit_any _ _).mono ?_; rw [H2.out]; rintro e w' ⟨rfl, rfl⟩))
              first
                | (go_ret
                   have hE := nameB_false (s := s) (fun h => by have := h.2.2.2 k hlt; simp [okI, H1.out, H2.out] at this; simp [this] at h3)
                   exact ⟨by rw [hE]; rfl, rfl⟩)
                | (go_round
                   case rel => exact ⟨k + 1, by omega, by go_num, fun j hj hjk => by
                     rcases Nat.lt_or_ge j k with h | h
                     · exact HALL.out j hj h
                     · have : j = k := by omega
                       subst this
                       simp [okI, H1.out, H2.out]
                       try simpa using h3⟩
                   case measure => simp [intOf]; omega)
          · have hE := nameB_true (s := s) ⟨by omega, h12, fun _ => HC.out, fun i hi => HALL.out i hi (by omega)⟩
            have HE := Lib.hid hE; clear hE
            go_wp2
            go_ret
            exact ⟨by rw [HE.out]; rfl, rfl⟩
    · have hE := nameB_false (s := s) (fun h => by have := h.2.1; omega)
      rw [hE]
      go_enter Tryd.func134, Tryd.ntmps134
      go_wp2
      go_ret
      exact ⟨rfl, rfl⟩

theorem implIsName_any (s : ByteArray) (w : World) (hs : s.size ≤ 1000000) :
    Calls Tryd.prog 124 #[.string s] w fun e w' => e = .returned (.bool (nameB s)) ∧ Below w.heap.size w w' := by
  by_cases h0 : s.size < 1
  · have hE := nameB_false (s := s) (fun h => by have := h.1; omega)
    rw [hE]
    go_enter Tryd.func124, Tryd.ntmps124
    go_wp2
    go_ret
    exact ⟨rfl, by go_grown⟩
  · by_cases h12 : s.size ≤ 12
    · go_enter Tryd.func124, Tryd.ntmps124
      go_wp2_with fail
      go_loopw [] (fun wr => ∃ k : Nat, k ≤ s.size ∧ wr = w.iter s k ∧ ∀ j, (h : j < s.size) → j < k → okI (s[j]'h).toNat = true ∧ (j = 0 → smallI (s[j]'h).toNat = true)) (fun wr => s.size - wr.iterPos w.heap.size)
      case atStart => exact ⟨0, by omega, rfl, fun j _ h => by omega⟩
      case round =>
        obtain ⟨k, hk, rfl, hall⟩ := hrel
        have HALL := Lib.hid hall; clear hall
        by_cases hlt : k < s.size
        · by_cases ha : (s[k]'hlt).toNat < 128
          · have hnx := fun ty => run_next_ascii (P := Tryd.prog) w s k ty hlt ha
            generalize hcg : (s[k]'hlt).toNat = c at *
            have HCG := Lib.hid hcg; clear hcg
            have hwrap : (c : Int) < 128 := by omega
            have next_ok : okI c = true → (k = 0 → smallI c = true) → ∀ j, (h : j < s.size) → j < k + 1 → okI (s[j]'h).toNat = true ∧ (j = 0 → smallI (s[j]'h).toNat = true) := by
              intro g1 g2 j hj hjk
              rcases Nat.lt_or_ge j k with h | h
              · exact HALL.out j hj h
              · have : j = k := by omega
                subst this
                rw [HCG.out]
                exact ⟨g1, g2⟩
            have NOK := Lib.hid next_ok; clear next_ok
            have bad0 : k = 0 → smallI c = false → nameB s = false := fun e g => nameB_false (fun h => by
              have h1 := h.2.2.1 (by omega)
              subst e
              rw [HCG.out, g] at h1
              cases h1)
            have badk : okI c = false → nameB s = false := fun g => nameB_false (fun h => by
              have h1 := h.2.2.2 k hlt
              rw [HCG.out, g] at h1
              cases h1)
            have BAD0 := Lib.hid bad0; clear bad0
            have BADK := Lib.hid badk; clear badk
            cases h1 : smallI c
            · by_cases hk0 : k = 0
              · have e0 : ((k : Int) == 0) = true := by simp [hk0]
                have H1 := Lib.hid h1; clear h1
                have HK0 := Lib.hid hk0; clear hk0
                go_wp2_with (go_at_call 150; refine (isLetter_any _ _).mono ?_; rw [H1.out]; rintro e w' ⟨rfl, rfl⟩)
                go_ret
                exact ⟨by rw [BAD0.out HK0.out H1.out]; rfl, by unfold World.iter; go_grown⟩
              · have e0 : ((k : Int) == 0) = false := by simp [hk0]
                cases h2 : digitI c <;> cases h3 : (c : Int) == 45
                all_goals
                  have h3' : ((c : Int) != 45) = !((c : Int) == 45) := rfl
                  rw [h3] at h3'
                  have H1 := Lib.hid h1; clear h1
                  have H2 := Lib.hid h2; clear h2
                  have H3 := Lib.hid h3
                  go_wp2_with (first | (go_at_call 150; refine (isLetter_any _ _).mono ?_; rw [H1.out]; rintro e w' ⟨rfl, rfl⟩) | (go_at_call 151; refine (isDigit_any _ _).mono ?_; rw [H2.out]; rintro e w' ⟨rfl, rfl⟩))
                  first
                    | (go_ret
                       exact ⟨by rw [BADK.out (by simp [okI, H1.out, H2.out]; simpa using H3.out)]; rfl, by unfold World.iter; go_grown⟩)
                    | (go_roundw
                       case rel => exact ⟨k + 1, by omega, rfl, NOK.out (by simp [okI, H1.out, H2.out]; try simpa using H3.out) (fun e => absurd e hk0)⟩
                       case measure => simp; omega)
            · have H1 := Lib.hid h1; clear h1
              go_wp2_with (go_at_call 150; refine (isLetter_any _ _).mono ?_; rw [H1.out]; rintro e w' ⟨rfl, rfl⟩)
              go_roundw
              case rel => exact ⟨k + 1, by omega, rfl, NOK.out (by simp [okI, H1.out]) (fun _ => H1.out)⟩
              case measure => simp; omega
          · have hhi := decode_high s k hlt (by omega)
            have hnx := fun ty => run_next_any (P := Tryd.prog) w s k ty hlt
            have hbad : nameB s = false := nameB_false (fun h => by
              have h1 := h.2.2.2 k hlt
              simp [okI, smallI, digitI] at h1
              omega)
            have HBAD := Lib.hid hbad; clear hbad
            generalize Utf8.decode s k = rn at *
            obtain ⟨r, n⟩ := rn
            simp only [] at hhi hnx
            have H1 : Hid (smallI (r : Int) = false) := Lib.hid (by simp [smallI]; omega)
            have H2 : Hid (digitI (r : Int) = false) := Lib.hid (by simp [digitI]; omega)
            have h3 : ((r : Int) != 45) = true := by simp; omega
            by_cases hk0 : k = 0
            all_goals
              first
                | (have e0 : ((k : Int) == 0) = true := by simp [hk0])
                | (have e0 : ((k : Int) == 0) = false := by simp [hk0])
              clear hk0
              go_wp2_with (first | (go_at_call 150; refine (isLetter_any _ _).mono ?_; rw [H1.out]; rintro e w' ⟨rfl, rfl⟩) | (go_at_call 151; refine (isDigit_any _ _).mono ?_; rw [H2.out]; rintro e w' ⟨rfl, rfl⟩))
              go_ret
              exact ⟨by rw [HBAD.out]; rfl, by unfold World.iter; go_grown⟩
        · have hnx := fun ty => run_next_end (P := Tryd.prog) w s k ty hlt
          have hE := nameB_true (s := s) ⟨by omega, h12, fun h => (HALL.out 0 h (by omega)).2 rfl, fun i hi => (HALL.out i hi (by omega)).1⟩
          have HE := Lib.hid hE; clear hE
          go_wp2
          go_ret
          exact ⟨by rw [HE.out]; rfl, by unfold World.iter; go_grown⟩
    · have hE := nameB_false (s := s) (fun h => by have := h.2.1; omega)
      rw [hE]
      go_enter Tryd.func124, Tryd.ntmps124
      go_wp2
      go_ret
      exact ⟨rfl, by go_grown⟩

theorem flat_len {α : Type} {enc : α → List Value} {sz : Nat} (h : ∀ z, (enc z).length = sz) (zs : List α) : (zs.flatMap enc).length = zs.length * sz := by
  induction zs with
  | nil => simp
  | cons z zs ih => rw [List.flatMap_cons, List.length_append, ih, h, List.length_cons, Nat.add_mul]; omega

theorem flat_at {α : Type} {enc : α → List Value} {sz : Nat} (h : ∀ z, (enc z).length = sz) (zs : List α) (k j : Nat) (hk : k < zs.length) (hj : j < sz) : (zs.flatMap enc)[k * sz + j]? = (enc zs[k])[j]? := by
  induction zs generalizing k with
  | nil => simp at hk
  | cons z zs ih =>
    cases k with
    | zero => rw [List.flatMap_cons, List.getElem?_append_left (by rw [h]; omega)]; simp
    | succ k =>
      have e : (k + 1) * sz + j - (enc z).length = k * sz + j := by rw [h, Nat.add_mul]; omega
      rw [List.flatMap_cons, List.getElem?_append_right (by rw [h, Nat.add_mul]; omega), e, ih k (by simpa using hk)]
      simp

/-- The slice value reads as n elements of sz cells each, cell for cell. -/
def RdF (w : World) (v : Value) (n sz : Nat) (xs : List Value) : Prop :=
  n ≤ 9223372036854775807 ∧ xs.length = n * sz ∧ ∃ A c, v = .slice A n c ∧ ∀ i, i < n * sz → ∃ b off, A = some ⟨b, off, none⟩ ∧ b < w.heap.size ∧ w.cell? ⟨b, off + i, none⟩ = xs[i]?

theorem RdF_kept {W w1 : World} {v : Value} {n sz : Nat} {xs : List Value} (h : RdF W v n sz xs) (hb : Below W.heap.size W w1) : RdF w1 v n sz xs := by
  obtain ⟨hl, hx, A, c, rfl, hr⟩ := h
  refine ⟨hl, hx, A, c, rfl, fun k hk => ?_⟩
  obtain ⟨b, off, e, hlt, hc⟩ := hr k hk
  exact ⟨b, off, e, Nat.lt_of_lt_of_le hlt hb.size, by rw [kept_cell hb b _ hlt]; exact hc⟩

/-- A row of elements of the call's own (type e, sz cells each), in a block from lo on and below hi. -/
def RowF (e sz : Nat) (w : World) (lo hi : Nat) (v : Value) (n : Nat) (xs : List Value) : Prop :=
  w.ownsRow lo e sz v n xs ∧ ∀ g, v.ownBlock = some g → lo ≤ g ∧ g < hi

theorem RowF_nil (e sz : Nat) (w : World) (lo hi : Nat) : RowF e sz w lo hi (.slice none 0 0) 0 [] := ⟨World.ownsRow_nil _ _ _ _, fun g h => by simp [Value.ownBlock] at h⟩

theorem RowF_form {e sz : Nat} {w : World} {lo hi : Nat} {v : Value} {n : Nat} {xs : List Value} (h : RowF e sz w lo hi v n xs) :
    (n = 0 ∧ xs = [] ∧ v = .slice none 0 0) ∨ ∃ g cap, v = .slice (some ⟨g, 0, none⟩) n cap ∧ lo ≤ g ∧ g < hi ∧ g < w.heap.size ∧ n ≤ cap ∧ cap ≤ maxLen := by
  rcases h.1.2 with ⟨h1, h2⟩ | ⟨g, cap, cur, rfl, hg, hh, h3, h4, _⟩
  · exact Or.inl ⟨h2, List.eq_nil_of_length_eq_zero (by rw [h.1.1, h2, Nat.zero_mul]), h1⟩
  · exact Or.inr ⟨g, cap, rfl, hg, (h.2 g rfl).2, (h.1.lt g rfl).2, h3, h4⟩

theorem RowF_rd {e sz : Nat} {w : World} {lo hi : Nat} {v : Value} {n : Nat} {xs : List Value} (h : RowF e sz w lo hi v n xs) : RdF w v n sz xs := by
  rcases RowF_form h with ⟨rfl, rfl, rfl⟩ | ⟨g, cap, rfl, _, _, hlt, h3, h4⟩
  · exact ⟨by simp, by simp, none, 0, rfl, fun k hk => by simp at hk⟩
  · unfold maxLen at h4
    refine ⟨by omega, h.1.1, some ⟨g, 0, none⟩, cap, rfl, fun k hk => ⟨g, 0, rfl, hlt, ?_⟩⟩
    rw [Nat.zero_add, h.1.cellAt k hk]

theorem RowF_kept {e sz : Nat} {W w1 : World} {lo hi : Nat} {v : Value} {n : Nat} {xs : List Value} (h : RowF e sz W lo hi v n xs) (hb : Below W.heap.size W w1) : RowF e sz w1 lo hi v n xs := ⟨own_kept h.1 hb, h.2⟩

theorem RowF_far {e sz : Nat} {W w1 : World} {lo hi : Nat} {v : Value} {n : Nat} {xs : List Value} {row : Option Nat} (h : RowF e sz W lo hi v n xs) (hg : W.grownBy w1 row) (hr : ∀ g, row = some g → g < lo ∨ hi ≤ g) : RowF e sz w1 lo hi v n xs := by
  refine ⟨h.1.kept hg ?_, h.2⟩
  rcases hv : v.ownBlock with _ | g
  · exact Or.inl rfl
  · refine Or.inr (fun e => ?_)
    have h1 := h.2 g hv
    have h2 := hr g e.symm
    omega

/-- The first elements of a row. -/
theorem RowF_short {e sz : Nat} {w : World} {lo hi g cap m n : Nat} {xs : List Value} (h : RowF e sz w lo hi (.slice (some ⟨g, 0, none⟩) m cap) m xs) (hn : n ≤ m) :
    RowF e sz w lo hi (.slice (some ⟨g, 0, none⟩) n cap) n (xs.take (n * sz)) := by
  refine ⟨⟨?_, ?_⟩, fun g' hg' => h.2 g' hg'⟩
  · rw [List.length_take, h.1.1]
    have := Nat.mul_le_mul_right sz hn
    omega
  · rcases h.1.2 with ⟨h1, h2⟩ | ⟨g', cap', cur, h1, hg, hh, h3, h4, h5, h6⟩
    · simp at h1
    · simp only [Value.slice.injEq, Option.some.injEq, Addr.mk.injEq, and_true, true_and] at h1
      obtain ⟨rfl, rfl⟩ := h1
      refine Or.inr ⟨g, cap, cur, rfl, hg, hh, by omega, h4, h5, ?_⟩
      rw [← h6, List.take_take]
      congr 1
      have := Nat.mul_le_mul_right sz hn
      omega

theorem RowF_lo {e sz : Nat} {w : World} {lo lo' hi hi' : Nat} {v : Value} {n : Nat} {xs : List Value} (h : RowF e sz w lo hi v n xs) (hl : lo' ≤ lo) (hh : hi ≤ hi') : RowF e sz w lo' hi' v n xs :=
  ⟨Joins.ownsRow_le h.1 hl, fun g hg => ⟨by have := (h.2 g hg).1; omega, by have := (h.2 g hg).2; omega⟩⟩

theorem RowF_set {e sz : Nat} {w : World} {lo hi b o n : Nat} {v u : Value} {xs : List Value} (h : RowF e sz w lo hi v n xs) (hb : b < lo) : RowF e sz (w.setCell ⟨b, o, none⟩ u) lo hi v n xs :=
  RowF_far h (grown_set _ _ _) (fun g hg => by simp at hg; omega)

/-- A pair of numbers, cell by cell. -/
def encP (z : Int × Int) : List Value := [.int .i64 z.1, .int .i64 z.2]

def flatP (zs : List (Int × Int)) : List Value := zs.flatMap encP

theorem flatP_len (zs : List (Int × Int)) : (flatP zs).length = zs.length * 2 := flat_len (enc := encP) (fun _ => rfl) zs

theorem flatP_at (zs : List (Int × Int)) (k : Nat) (h : k < zs.length) : (flatP zs)[k * 2]? = some (.int .i64 zs[k].1) ∧ (flatP zs)[k * 2 + 1]? = some (.int .i64 zs[k].2) :=
  ⟨flat_at (enc := encP) (sz := 2) (fun _ => rfl) zs k 0 h (by omega), flat_at (enc := encP) (sz := 2) (fun _ => rfl) zs k 1 h (by omega)⟩

/-- The slice value reads as a list of pairs of numbers. -/
def RdP (w : World) (v : Value) (zs : List (Int × Int)) : Prop := RdF w v zs.length 2 (flatP zs)

theorem RdP_kept {W w1 : World} {v : Value} {zs : List (Int × Int)} (h : RdP W v zs) (hb : Below W.heap.size W w1) : RdP w1 v zs := RdF_kept h hb

theorem RdP_slice {w : World} {v : Value} {zs : List (Int × Int)} (h : RdP w v zs) : ∃ A c, v = .slice A zs.length c ∧ zs.length ≤ 9223372036854775807 ∧
    ∀ k, (hk : k < zs.length) → ∃ b off, A = some ⟨b, off, none⟩ ∧ b < w.heap.size ∧ w.cell? ⟨b, off + k * 2, none⟩ = some (.int .i64 zs[k].1) ∧ w.cell? ⟨b, off + k * 2 + 1, none⟩ = some (.int .i64 zs[k].2) := by
  obtain ⟨hl, hx, A, c, rfl, hr⟩ := h
  refine ⟨A, c, rfl, hl, fun k hk => ?_⟩
  obtain ⟨b, off, rfl, hlt, h0⟩ := hr (k * 2) (by omega)
  obtain ⟨b', off', e, _, h1⟩ := hr (k * 2 + 1) (by omega)
  simp only [Option.some.injEq, Addr.mk.injEq, and_true] at e
  obtain ⟨rfl, rfl⟩ := e
  rw [(flatP_at zs k hk).1] at h0
  rw [(flatP_at zs k hk).2, ← Nat.add_assoc] at h1
  exact ⟨b, off, rfl, hlt, h0, h1⟩

def roomL (n : Nat) : Nat := if n % 6 = 5 then 0 else if n % 3 = 0 then 1 else n

theorem roomL_le (n : Nat) : roomL n ≤ n + 1 := by
  unfold roomL
  split
  · omega
  · split <;> omega

theorem room_any (n : Nat) (hn : n ≤ 9223372036854775807) (w : World) :
    Calls Tryd.prog 132 #[.int .i64 n] w fun e w' => e = .returned (.int .i64 (roomL n : Nat)) ∧ w = w' := by
  unfold roomL
  have e6 : (n : Int).tmod 6 = ((n % 6 : Nat) : Int) := by rw [tmod_pos _ _ (by omega)]; omega
  have e3 : (n : Int).tmod 3 = ((n % 3 : Nat) : Int) := by rw [tmod_pos _ _ (by omega)]; omega
  by_cases h6 : n % 6 = 5
  · rw [h6] at e6
    go_enter Tryd.func132, Tryd.ntmps132
    go_wp2
    go_ret
    exact ⟨by simp [h6], rfl⟩
  · have d6 : ((n : Int).tmod 6 == 5) = false := by rw [e6]; simp; omega
    by_cases h3 : n % 3 = 0
    · rw [h3] at e3
      go_enter Tryd.func132, Tryd.ntmps132
      go_wp2
      go_ret
      exact ⟨by simp [h6, h3], rfl⟩
    · have d3 : ((n : Int).tmod 3 == 0) = false := by rw [e3]; simp; omega
      go_enter Tryd.func132, Tryd.ntmps132
      go_wp2
      go_ret
      exact ⟨by simp [h6, h3], rfl⟩

theorem szC_any (A : Option Addr) (n c : Nat) (left : Int) (h : 0 ≤ left ∧ left ≤ 1000000) (hn : n ≤ 9223372036854775807) (w : World) :
    Calls Tryd.prog 92 #[.slice A n c, .int .i64 left] w fun e w' => e = .returned (.int .i64 (if (n : Int) ≤ left then left - n else -1)) ∧ w = w' := by
  by_cases h1 : (n : Int) ≤ left
  · rw [if_pos h1]
    go_enter Tryd.func92, Tryd.ntmps92
    go_wp2
    go_ret
    exact ⟨rfl, rfl⟩
  · rw [if_neg h1]
    go_enter Tryd.func92, Tryd.ntmps92
    go_wp2
    go_ret
    exact ⟨rfl, rfl⟩

theorem toStep_any (x y : Int) (w : World) :
    Calls Tryd.prog 136 #[.agg #[.int .i64 x, .int .i64 y]] w fun e w' => e = .returned (.agg #[.int .i64 x, .int .i64 y]) ∧ Below w.heap.size w w' := by
  go_enter Tryd.func136, Tryd.ntmps136
  go_wp2
  go_returns
  exact ⟨rfl, by go_grown⟩

def fillP : Int × Int := (-7000000000000000101, -7000000000000000101)

theorem fillStep_any (w : World) :
    Calls Tryd.prog 137 #[] w fun e w' => e = .returned (.agg #[.int .i64 fillP.1, .int .i64 fillP.2]) ∧ Below w.heap.size w w' := by
  unfold fillP
  go_enter Tryd.func137, Tryd.ntmps137
  go_wp2
  go_returns
  exact ⟨rfl, by go_grown⟩

theorem eqStep_same (x y : Int) (w : World) :
    Calls Tryd.prog 159 #[.agg #[.int .i64 x, .int .i64 y], .agg #[.int .i64 x, .int .i64 y]] w fun e w' => e = .returned (.bool true) ∧ Below w.heap.size w w' := by
  go_enter Tryd.func159, Tryd.ntmps159
  go_wp2
  go_ret
  exact ⟨rfl, by go_grown⟩

theorem info_step : (Tryd.prog.info? 33).map (fun i => (i.zero, i.size, i.bytes)) = some (some (.agg #[.int .i64 0, .int .i64 0]), 2, 16) := by kernel_rfl

theorem eqC_same (v1 v2 : Value) (zs : List (Int × Int)) (w : World) (h1 : RdP w v1 zs) (h2 : RdP w v2 zs) :
    Calls Tryd.prog 139 #[v1, v2] w fun e w' => e = .returned (.bool true) ∧ Below w.heap.size w w' := by
  obtain ⟨A, c, rfl, hl, r1⟩ := RdP_slice h1
  obtain ⟨A2, c2, rfl, _, r2⟩ := RdP_slice h2
  clear h1 h2
  have R1 := Lib.hid r1; clear r1
  have R2 := Lib.hid r2; clear r2
  go_enter Tryd.func139, Tryd.ntmps139
  go_wp2_with fail
  go_loopw [5] (fun i wr => ∃ k : Nat, k ≤ zs.length ∧ i = .int .i64 k ∧ Below w.heap.size w wr) (fun i _ => zs.length - (intOf i).toNat)
  case atStart => exact ⟨0, by omega, rfl, Below.refl _ _⟩
  case round =>
    obtain ⟨k, hk, rfl, hb⟩ := hrel
    by_cases hlt : k < zs.length
    · obtain ⟨b, off, rfl, hbl, hc0, hc1⟩ := R1.out k hlt
      obtain ⟨b2, off2, rfl, hbl2, hd0, hd1⟩ := R2.out k hlt
      rw [← kept_cell hb b _ hbl] at hc0 hc1
      rw [← kept_cell hb b2 _ hbl2] at hd0 hd1
      generalize zs[k].1 = x at *
      generalize zs[k].2 = y at *
      have hsz := hb.size
      have hbl' := Nat.lt_of_lt_of_le hbl hsz
      have hbl2' := Nat.lt_of_lt_of_le hbl2 hsz
      go_wp2_with fail
      go_region_held3 (fun w' => w'.cell? ⟨b, off + k * 2, none⟩ = some (.int .i64 x) ∧ w'.cell? ⟨b, off + k * 2 + 1, none⟩ = some (.int .i64 y) ∧ w'.cell? ⟨b2, off2 + k * 2, none⟩ = some (.int .i64 x) ∧ w'.cell? ⟨b2, off2 + k * 2 + 1, none⟩ = some (.int .i64 y)) (go_keep)
        ((go_at_call 159; refine (eqStep_same _ _ _).mono ?_; rintro e w1 ⟨rfl, hb1⟩; replace hb1 := kept_trans (a := wr) (by go_grown) hb1; have hcl := kept_cell hb1))
      go_wp2
      go_roundw
      case rel => exact ⟨k + 1, by omega, by go_num, kept_trans hb (by assumption)⟩
      case measure => simp [intOf]; omega
    · have : k = zs.length := by omega
      subst this
      go_wp2
      go_ret
      exact ⟨rfl, hb⟩

theorem flatP_set (l : List (Int × Int)) (j : Nat) (x y : Int) : ((flatP l).set (j * 2) (.int .i64 x)).set (j * 2 + 1) (.int .i64 y) = flatP (l.set j (x, y)) := by
  induction l generalizing j with
  | nil => simp [flatP]
  | cons z l ih =>
    cases j with
    | zero => simp [flatP, encP]
    | succ j =>
      have := ih j
      simp only [flatP, encP, List.flatMap_cons, List.cons_append, List.nil_append, Nat.succ_mul, List.set_cons_succ] at this ⊢
      rw [this]

theorem fill_step {α : Type} (T : List α) (z : α) (j : Nat) (h : j < T.length) : (T.take j ++ List.replicate (T.length - j) z).set j T[j] = T.take (j + 1) ++ List.replicate (T.length - (j + 1)) z := by
  obtain ⟨m, hm⟩ : ∃ m, T.length - j = m + 1 := ⟨T.length - j - 1, by omega⟩
  rw [hm, show T.length - (j + 1) = m by omega, List.replicate_succ, List.set_append, if_neg (by simp; omega), List.length_take, Nat.min_eq_left (by omega), Nat.sub_self, List.set_cons_zero, ← List.take_append_getElem h, List.append_assoc]
  rfl

/-- What a copy's block holds: the list, and behind it the filler. -/
def copyT (zs : List (Int × Int)) : List (Int × Int) := zs ++ List.replicate (roomL zs.length) fillP

theorem copyT_len (zs : List (Int × Int)) : (copyT zs).length = zs.length + roomL zs.length := by simp [copyT]

/-- A copy of a list of steps that the law made: the whole block is a row of the call's own. -/
def CopyC (w : World) (lo hi : Nat) (v : Value) (zs : List (Int × Int)) : Prop :=
  zs.length ≤ 1000000 ∧ ∃ g, v = .slice (some ⟨g, 0, none⟩) zs.length (copyT zs).length ∧ RowF 33 2 w lo hi (.slice (some ⟨g, 0, none⟩) (copyT zs).length (copyT zs).length) (copyT zs).length (flatP (copyT zs))

theorem CopyC_kept {W w1 : World} {lo hi : Nat} {v : Value} {zs : List (Int × Int)} (h : CopyC W lo hi v zs) (hb : Below W.heap.size W w1) : CopyC w1 lo hi v zs := by
  obtain ⟨hl, g, e, hr⟩ := h
  exact ⟨hl, g, e, RowF_kept hr hb⟩

theorem CopyC_row {w : World} {lo hi : Nat} {v : Value} {zs : List (Int × Int)} (h : CopyC w lo hi v zs) : RowF 33 2 w lo hi v zs.length (flatP zs) := by
  obtain ⟨hl, g, rfl, hr⟩ := h
  have := RowF_short hr (n := zs.length) (by rw [copyT_len]; omega)
  have e : (flatP (copyT zs)).take (zs.length * 2) = flatP zs := by
    rw [show flatP (copyT zs) = flatP zs ++ flatP (List.replicate (roomL zs.length) fillP) by simp [flatP, copyT]]
    rw [← flatP_len, List.take_left]
  rwa [e] at this

theorem CopyC_rd {w : World} {lo hi : Nat} {v : Value} {zs : List (Int × Int)} (h : CopyC w lo hi v zs) : RdP w v zs := RowF_rd (CopyC_row h)

theorem make_steps (n : Nat) (h : n ≤ 4000000) (w : World) :
    (Instr.makeSlice 24 (.int .i64 (n : Int)) (.int .i64 (n : Int))).run Tryd.prog w = .ok (.slice (some ⟨w.heap.size, 0, none⟩) n n) (w.alloc (.cells (madeCells #[.int .i64 0, .int .i64 0] (n * 2)) 33)) := by
  obtain ⟨i, hi, hz, hs, hb⟩ := info_parts info_step
  have hb' : (i.bytes : Int) * (n : Int) ≤ 281474976710656 := by rw [hb]; omega
  have hr := run_make (P := Tryd.prog) w 24 33 i (.agg #[.int .i64 0, .int .i64 0]) Tryd.underlying24 hi hz .i64 .i64 n n (by omega) (Int.le_refl _) hb' (by omega)
  simp only [Int.toNat_natCast, hs] at hr
  exact hr

theorem made_flat (n : Nat) : (madeCells #[.int .i64 0, .int .i64 0] (n * 2)).toList = flatP (List.replicate n (0, 0)) := by
  apply List.ext_getElem?
  intro j
  by_cases hj : j < n * 2
  · have h := flatP_at (List.replicate n ((0 : Int), (0 : Int))) (j / 2) (by simp; omega)
    simp only [List.getElem_replicate] at h
    rcases Nat.mod_two_eq_zero_or_one j with hp | hp
    · rw [show j / 2 * 2 = j by omega] at h
      rw [h.1]
      simp [madeCells, hj, hp]
    · rw [show j / 2 * 2 + 1 = j by omega] at h
      rw [h.2]
      simp [madeCells, hj, hp]
  · rw [List.getElem?_eq_none (by rw [Array.length_toList, size_madeCells]; omega), List.getElem?_eq_none (by rw [flatP_len]; simp; omega)]

theorem copyT_at (zs : List (Int × Int)) (j : Nat) : (h : j < zs.length) → (copyT zs)[j]'(by rw [copyT_len]; omega) = zs[j] := by
  intro h
  simp [copyT, h]

theorem copyT_fill (zs : List (Int × Int)) (j : Nat) (h : zs.length ≤ j) : (h2 : j < (copyT zs).length) → (copyT zs)[j] = fillP := by
  intro h2
  simp [copyT, h]

theorem toC_row (v : Value) (zs : List (Int × Int)) (bare : Bool) (w : World) (h : RdP w v zs) (hn : zs.length ≤ 1000000) (hbare : bare = false ∨ zs ≠ []) :
    Calls Tryd.prog 97 #[v, .bool bare] w fun e w' => ∃ v', e = .returned v' ∧ CopyC w' w.heap.size w'.heap.size v' zs ∧ Below w.heap.size w w' := by
  obtain ⟨A, c, rfl, hl, r1⟩ := RdP_slice h
  clear h
  have R := Lib.hid r1; clear r1
  have hN := copyT_len zs
  have hr := roomL_le zs.length
  have hmk : ∀ w : World, (Instr.makeSlice 24 (.int .i64 ((zs.length : Int) + (roomL zs.length : Int))) (.int .i64 ((zs.length : Int) + (roomL zs.length : Int)))).run Tryd.prog w = .ok (.slice (some ⟨w.heap.size, 0, none⟩) (copyT zs).length (copyT zs).length) (w.alloc (.cells (madeCells #[.int .i64 0, .int .i64 0] ((copyT zs).length * 2)) 33)) := by
    intro w
    have := make_steps (copyT zs).length (by omega) w
    rwa [show (((copyT zs).length : Nat) : Int) = (zs.length : Int) + (roomL zs.length : Int) by omega] at this
  have hcap : (copyT zs).length ≤ maxLen := by unfold maxLen; omega
  have hrow0 : ∀ wa : World, w.heap.size ≤ wa.heap.size → (wa.alloc (.cells (madeCells #[.int .i64 0, .int .i64 0] ((copyT zs).length * 2)) 33)).ownsRow w.heap.size 33 2 (.slice (some ⟨wa.heap.size, 0, none⟩) (copyT zs).length (copyT zs).length) (copyT zs).length (flatP ((copyT zs).take 0 ++ List.replicate ((copyT zs).length - 0) (0, 0))) := by
    intro wa hwa
    have := World.ownsRow_lit wa (e := 33) (size := 2) (madeCells #[.int .i64 0, .int .i64 0] ((copyT zs).length * 2)) (copyT zs).length hwa hcap (size_madeCells _ _)
    rw [made_flat] at this
    simpa using this
  have Hrow := Lib.hid hrow0; clear hrow0
  have hb0 : bare = true → ((zs.length : Int) == 0) = false := by
    intro hb
    have : zs.length ≠ 0 := fun h => by
      rcases hbare with h1 | h1
      · rw [hb] at h1; cases h1
      · exact h1 (List.eq_nil_of_length_eq_zero h)
    simpa using this
  clear hbare
  generalize hNN : (copyT zs).length = N at *
  have HNN := Lib.hid hNN; clear hNN
  have hNb : N ≤ 2000002 ∧ zs.length ≤ N := by omega
  have HN := Lib.hid hN; clear hN
  cases bare
  all_goals
    have hbn := hb0
    simp only [forall_const, reduceCtorEq, false_implies, Bool.false_eq_true] at hbn
    clear hb0
    go_enter Tryd.func97, Tryd.ntmps97
    go_wp2_with (go_at_call 132; refine (room_any _ (by omega) _).mono ?_; rintro e w1 ⟨rfl, rfl⟩)
    go_loopw [6] (fun i wr => ∃ j : Nat, j ≤ zs.length ∧ i = .int .i64 j ∧ wr.ownsRow w.heap.size 33 2 (.slice (some ⟨w.heap.size, 0, none⟩) N N) N (flatP ((copyT zs).take j ++ List.replicate (N - j) (0, 0))) ∧ Below w.heap.size w wr) (fun i _ => zs.length - (intOf i).toNat)
    case atStart => exact ⟨0, by omega, rfl, Hrow.out w (Nat.le_refl _), by go_grown⟩
    case round =>
      obtain ⟨j, hj, rfl, hown, hb⟩ := hrel
      have hsz := hb.size
      by_cases hlt : j < zs.length
      · obtain ⟨b, off, rfl, hbl, hc0, hc1⟩ := R.out j hlt
        rw [← kept_cell hb b _ hbl] at hc0 hc1
        go_wp2_with fail
        refine (toStep_any _ _ _).mono ?_
        rintro e w1 ⟨rfl, hb1⟩
        have hown1 := own_kept hown hb1
        have hlen : (flatP ((copyT zs).take j ++ List.replicate (N - j) (0, 0))).length = N * 2 := hown.1
        obtain ⟨u0, hu0⟩ : ∃ u, w1.cell? ⟨w.heap.size, j * 2, none⟩ = some u := by
          rw [hown1.cellAt _ (by omega)]
          exact ⟨_, List.getElem?_eq_getElem (by omega)⟩
        obtain ⟨u1, hu1⟩ : ∃ u, w1.cell? ⟨w.heap.size, j * 2 + 1, none⟩ = some u := by
          rw [hown1.cellAt _ (by omega)]
          exact ⟨_, List.getElem?_eq_getElem (by omega)⟩
        have hz0 := hown1.frozenAt (j * 2)
        have hz1 := hown1.frozenAt (j * 2 + 1)
        have hs0 := hown1.stored (j * 2) (.int .i64 zs[j].1)
        have hs1 := hs0.1.stored (j * 2 + 1) (.int .i64 zs[j].2)
        rw [flatP_set] at hs1
        have hstep := fill_step (copyT zs) (0, 0) j (by rw [HNN.out]; omega)
        rw [copyT_at zs j hlt, HNN.out] at hstep
        rw [show ((zs[j].1, zs[j].2) : Int × Int) = zs[j] from rfl, hstep] at hs1
        have Hs := Lib.hid hs1.1
        have Hg := Lib.hid (grown_step hs0.2 hs1.2)
        clear hs0 hs1 hstep hown hown1 hlen
        go_wp2
        go_roundw
        case rel => exact ⟨j + 1, by omega, by go_num, Hs.out, grown_below (kept_trans hb hb1) Hg.out (fun g hg => by simp at hg; omega)⟩
        case measure => simp [intOf]; omega
      · have : j = zs.length := by omega
        subst this
        go_wp2_with fail
        go_loopw [7] (fun i wr => ∃ j : Nat, zs.length ≤ j ∧ j ≤ N ∧ i = .int .i64 j ∧ wr.ownsRow w.heap.size 33 2 (.slice (some ⟨w.heap.size, 0, none⟩) N N) N (flatP ((copyT zs).take j ++ List.replicate (N - j) (0, 0))) ∧ Below w.heap.size w wr) (fun i _ => N - (intOf i).toNat)
        case atStart => exact ⟨zs.length, by omega, by omega, rfl, hown, hb⟩
        case round =>
          obtain ⟨j, hj0, hj, rfl, hown, hb⟩ := hrel
          have hsz := hb.size
          by_cases hlt : j < N
          · go_wp2_with fail
            refine (fillStep_any _).mono ?_
            rintro e w1 ⟨rfl, hb1⟩
            have hown1 := own_kept hown hb1
            have hlen : (flatP ((copyT zs).take j ++ List.replicate (N - j) (0, 0))).length = N * 2 := hown.1
            obtain ⟨u0, hu0⟩ : ∃ u, w1.cell? ⟨w.heap.size, j * 2, none⟩ = some u := by
              rw [hown1.cellAt _ (by omega)]
              exact ⟨_, List.getElem?_eq_getElem (by omega)⟩
            obtain ⟨u1, hu1⟩ : ∃ u, w1.cell? ⟨w.heap.size, j * 2 + 1, none⟩ = some u := by
              rw [hown1.cellAt _ (by omega)]
              exact ⟨_, List.getElem?_eq_getElem (by omega)⟩
            have hz0 := hown1.frozenAt (j * 2)
            have hz1 := hown1.frozenAt (j * 2 + 1)
            have hs0 := hown1.stored (j * 2) (.int .i64 fillP.1)
            have hs1 := hs0.1.stored (j * 2 + 1) (.int .i64 fillP.2)
            rw [flatP_set] at hs1
            have hstep := fill_step (copyT zs) (0, 0) j (by rw [HNN.out]; omega)
            rw [copyT_fill zs j hj0 (by rw [HNN.out]; omega), HNN.out] at hstep
            rw [show ((fillP.1, fillP.2) : Int × Int) = fillP from rfl, hstep] at hs1
            have Hs := Lib.hid hs1.1
            have Hg := Lib.hid (grown_step hs0.2 hs1.2)
            clear hs0 hs1 hstep hown hown1 hlen
            go_wp2
            go_roundw
            case rel => exact ⟨j + 1, by omega, by omega, by go_num, Hs.out, grown_below (kept_trans hb hb1) Hg.out (fun g hg => by simp at hg; omega)⟩
            case measure => simp [intOf]; omega
          · have : j = N := by omega
            subst this
            have Hown := Lib.hid hown; clear hown
            go_wp2
            go_ret
            have hT : (copyT zs).take j ++ List.replicate (j - j) (0, 0) = copyT zs := by rw [List.take_of_length_le (by rw [HNN.out]; exact Nat.le_refl _)]; simp
            refine ⟨_, rfl, ⟨hn, w.heap.size, by rw [HNN.out]; rfl, ?_⟩, hb⟩
            rw [HNN.out, ← hT]
            exact ⟨Hown.out, fun g hg => by simp [Value.ownBlock] at hg; subst hg; exact ⟨Nat.le_refl _, (Hown.out.lt _ rfl).2⟩⟩

theorem toC_false (v : Value) (zs : List (Int × Int)) (w : World) (h : RdP w v zs) (hn : zs.length ≤ 1000000) :
    Calls Tryd.prog 97 #[v, .bool false] w fun e w' => ∃ v', e = .returned v' ∧ CopyC w' w.heap.size w'.heap.size v' zs ∧ Below w.heap.size w w' := toC_row v zs false w h hn (Or.inl rfl)

theorem intactC_same (v1 v2 : Value) (zs : List (Int × Int)) (lo1 hi1 lo2 hi2 : Nat) (w : World) (h1 : CopyC w lo1 hi1 v1 zs) (h2 : CopyC w lo2 hi2 v2 zs) :
    Calls Tryd.prog 100 #[v1, v2] w fun e w' => e = .returned (.bool true) ∧ Below w.heap.size w w' := by
  obtain ⟨hn, g1, rfl, r1⟩ := h1
  obtain ⟨_, g2, rfl, r2⟩ := h2
  have q1 : RdP w _ (copyT zs) := RowF_rd r1
  have q2 : RdP w _ (copyT zs) := RowF_rd r2
  clear r1 r2
  have hN := copyT_len zs
  have hr := roomL_le zs.length
  generalize hT : copyT zs = T at *
  clear hT
  have Q1 := Lib.hid q1; clear q1
  have Q2 := Lib.hid q2; clear q2
  generalize hTl : T.length = N at *
  have hN' : (zs.length : Int) + (roomL zs.length : Int) = (N : Int) := by omega
  have hcap : zs.length ≤ N := by omega
  clear hN
  go_enter Tryd.func100, Tryd.ntmps100
  go_wp2_with (go_at_call 132; refine (room_any _ (by omega) _).mono ?_; rintro e w1 ⟨rfl, rfl⟩)
  go_region_held3 (fun _ => True) (trivial)
    ((go_at_call 139; refine (eqC_same _ _ T _ (by exact Q1.out) (by exact Q2.out)).mono ?_; rintro e w1 ⟨rfl, hb1⟩; replace hb1 := kept_trans (a := w) (by go_grown) hb1))
  go_wp2
  go_ret
  exact ⟨rfl, by assumption⟩

/-- The numbers of a list of pairs, one after the other. -/
def flatI (zs : List (Int × Int)) : List Int := zs.flatMap fun z => [z.1, z.2]

theorem flatI_len (zs : List (Int × Int)) : (flatI zs).length = zs.length * 2 := by
  induction zs with
  | nil => rfl
  | cons z zs ih =>
    have : flatI (z :: zs) = z.1 :: z.2 :: flatI zs := by simp [flatI]
    rw [this, List.length_cons, List.length_cons, ih, List.length_cons]
    omega

theorem flatI_eq (zs : List (Int × Int)) : flatP zs = (flatI zs).map (Value.int .i64) := by
  induction zs with
  | nil => rfl
  | cons z zs ih =>
    have h1 : flatI (z :: zs) = z.1 :: z.2 :: flatI zs := by simp [flatI]
    have h2 : flatP (z :: zs) = .int .i64 z.1 :: .int .i64 z.2 :: flatP zs := by simp [flatP, encP]
    rw [h1, h2, ih]
    rfl

theorem markC_any (v : Value) (zs : List (Int × Int)) (lo hi k0 : Nat) (w : World) (h : RowF 33 2 w lo hi v zs.length (flatP zs)) (hk0 : k0 ≤ 10000000) (hn : zs.length ≤ 4000000) :
    Calls Tryd.prog 102 #[v, .int .i64 k0] w fun e w' => e = .returned (.int .i64 ((k0 + zs.length * 2 : Nat) : Int)) ∧ RowF 33 2 w' lo hi v zs.length ((marks k0 (zs.length * 2)).map (Value.int .i64)) ∧ w.grownBy w' v.ownBlock := by
  rcases RowF_form h with ⟨hz, hx, rfl⟩ | ⟨g, cap, rfl, _, _, hlt, _, _⟩
  · have hzs := List.eq_nil_of_length_eq_zero hz
    subst hzs
    go_enter Tryd.func102, Tryd.ntmps102
    go_wp2_with fail
    refine wp_loop_rounds 1 ?_
    rw [rounds_succ]
    go_wp2
    go_ret
    exact ⟨rfl, RowF_nil _ _ _ _ _, World.grownBy.refl _ _⟩
  · have hfl := flatI_eq zs
    have hfn := flatI_len zs
    rw [hfl] at h
    generalize flatI zs = F at *
    generalize hN : zs.length = N at *
    have HN := Lib.hid hN; clear hN
    have HFN := Lib.hid hfn; clear hfn hfl
    have H := Lib.hid h; clear h
    go_enter Tryd.func102, Tryd.ntmps102
    go_wp2_with fail
    go_loopw [1, 5] (fun q i wr => ∃ j : Nat, j ≤ N ∧ i = .int .i64 j ∧ q = .int .i64 ((k0 + j * 2 : Nat) : Int) ∧ wr.ownsRow lo 33 2 (.slice (some ⟨g, 0, none⟩) N cap) N ((marks k0 (j * 2) ++ F.drop (j * 2)).map (Value.int .i64)) ∧ w.grownBy wr (some g)) (fun _ i _ => N - (intOf i).toNat)
    case atStart => exact ⟨0, by omega, rfl, by simp, by have := H.out.1; simpa [marks] using this, World.grownBy.refl _ _⟩
    case round =>
      obtain ⟨j, hj, rfl, rfl, hown, hg⟩ := hrel
      by_cases hlt : j < N
      · have hlen : ((marks k0 (j * 2) ++ F.drop (j * 2)).map (Value.int .i64)).length = N * 2 := hown.1
        obtain ⟨u0, hu0⟩ : ∃ u, wr.cell? ⟨g, j * 2, none⟩ = some u := by
          rw [hown.cellAt _ (by omega)]
          exact ⟨_, List.getElem?_eq_getElem (by omega)⟩
        obtain ⟨u1, hu1⟩ : ∃ u, wr.cell? ⟨g, j * 2 + 1, none⟩ = some u := by
          rw [hown.cellAt _ (by omega)]
          exact ⟨_, List.getElem?_eq_getElem (by omega)⟩
        have hz0 := hown.frozenAt (j * 2)
        have hz1 := hown.frozenAt (j * 2 + 1)
        have hs0 := hown.stored (j * 2) (.int .i64 ((k0 + j * 2 : Nat) : Int))
        rw [← List.map_set, marks_set _ _ _ (by rw [HFN.out]; omega)] at hs0
        have hs1 := hs0.1.stored (j * 2 + 1) (.int .i64 ((k0 + (j * 2 + 1) : Nat) : Int))
        rw [← List.map_set, marks_set _ _ _ (by rw [HFN.out]; omega)] at hs1
        have Hs := Lib.hid hs1.1
        have Hg := Lib.hid (grown_step hs0.2 hs1.2)
        clear hs0 hs1 hlen
        have Hown := Lib.hid hown; clear hown
        go_wp2
        go_roundw
        case rel =>
          refine ⟨j + 1, by omega, by go_num, by go_num, ?_, ?_⟩
          · have := Hs.out
            rw [show (j + 1) * 2 = j * 2 + 1 + 1 by omega]
            simpa [Int.add_assoc] using this
          · have := grown_step hg Hg.out
            simpa [Int.add_assoc] using this
        case measure => simp [intOf]; omega
      · have : j = N := by omega
        subst this
        go_wp2
        go_ret
        refine ⟨rfl, ⟨?_, fun x hx => H.out.2 x hx⟩, hg⟩
        have hd : F.drop (j * 2) = [] := List.drop_eq_nil_of_le (by rw [HFN.out]; omega)
        rw [hd, List.append_nil] at hown
        exact hown

/-- The step i of a list is in order. -/
def OkAt (zs : List (Int × Int)) (i : Nat) (h : i < zs.length) : Prop :=
  (1 ≤ zs[i].1 ∧ zs[i].1 ≤ 1000 ∧ 0 ≤ zs[i].2 ∧ zs[i].2 ≤ 50000) ∧ (0 < i → zs[i - 1].1 < zs[i].1 ∧ zs[i].2 ≤ zs[i - 1].2)

def OkAll (zs : List (Int × Int)) (n : Nat) : Prop := ∀ i, (h : i < zs.length) → i < n → OkAt zs i h

theorem OkAll_step {zs : List (Int × Int)} {n : Nat} (h : OkAll zs n) (hn : n < zs.length) (h1 : OkAt zs n hn) : OkAll zs (n + 1) := by
  intro i hi hlt
  rcases Nat.lt_or_ge i n with h2 | h2
  · exact h i hi h2
  · obtain rfl : i = n := by omega
    exact h1

/-- The list is a load chart. -/
def ChartP (zs : List (Int × Int)) : Prop := OkAll zs zs.length ∧ 1 ≤ zs.length ∧ zs.length ≤ 20

open Classical in
/-- .. as a bool. -/
noncomputable def chartB (zs : List (Int × Int)) : Bool := decide (ChartP zs)

theorem chartB_true {zs : List (Int × Int)} (h : ChartP zs) : chartB zs = true := by simp [chartB, h]

theorem chartB_false {zs : List (Int × Int)} (h : ¬ ChartP zs) : chartB zs = false := by simp [chartB, h]

theorem chartB_iff {zs : List (Int × Int)} : chartB zs = true ↔ ChartP zs := by simp [chartB]

theorem drew_more {w a : World} (h : ∃ q, a = w.drewN q) (n : Nat) : ∃ q, a.drewN n = w.drewN q := by
  obtain ⟨q, rfl⟩ := h
  exact ⟨q + n, World.drewN_drewN _ _ _⟩

theorem specChart_quiet (v : Value) (zs : List (Int × Int)) (w : World) (h : RdP w v zs) :
    Calls Tryd.prog 119 #[v] w fun e w' => e = .returned (.bool (chartB zs)) ∧ ∃ q, w' = w.drewN q := by
  obtain ⟨A, c, rfl, hl, r1⟩ := RdP_slice h
  clear h
  have R := Lib.hid r1; clear r1
  go_enter Tryd.func119, Tryd.ntmps119
  go_wp2_with fail
  go_loopw [3] (fun i wr => ∃ k : Nat, k ≤ zs.length ∧ i = .int .i64 k ∧ OkAll zs k ∧ ∃ q, wr = w.drewN q) (fun i _ => zs.length - (intOf i).toNat)
  case atStart => exact ⟨0, by omega, rfl, fun i _ h => by omega, 0, World.drewN_zero w⟩
  case round =>
    obtain ⟨k, hk, rfl, hall, hq⟩ := hrel
    have hb : Below w.heap.size w wr := by obtain ⟨q, rfl⟩ := hq; exact kept_drewN (Below.refl _ _) _
    have HQ := Lib.hid hq; clear hq
    by_cases hlt : k < zs.length
    · obtain ⟨b, off, rfl, hbl, hc0, hc1⟩ := R.out k hlt
      rw [← kept_cell hb b _ hbl] at hc0 hc1
      have hbad : ¬ OkAt zs k hlt → chartB zs = false := fun hn => chartB_false fun hc => hn (hc.1 k hlt hlt)
      have hgood : OkAt zs k hlt → OkAll zs (k + 1) := OkAll_step hall hlt
      unfold OkAt at hbad hgood
      generalize hx : zs[k].1 = x at *
      generalize hy : zs[k].2 = y at *
      have Hall := Lib.hid hall; clear hall
      have Hbad := Lib.hid hbad; clear hbad
      have Hgood := Lib.hid hgood; clear hgood
      cases i1 : inB x 1 1000
      · go_wp2_with (go_at_call 120; refine (in_any _ _ _ _).mono ?_; rintro e w1 ⟨rfl, rfl⟩)
        go_ret
        exact ⟨by rw [Hbad.out (fun h => inB_false i1 ⟨h.1.1, h.1.2.1⟩)]; rfl, HQ.out⟩
      · have j1 := inB_true i1
        cases i2 : inB y 0 50000
        · go_wp2_with (go_at_call 120; refine (in_any _ _ _ _).mono ?_; rintro e w1 ⟨rfl, rfl⟩)
          go_ret
          exact ⟨by rw [Hbad.out (fun h => inB_false i2 ⟨h.1.2.2.1, h.1.2.2.2⟩)]; rfl, HQ.out⟩
        · have j2 := inB_true i2
          by_cases h0 : k = 0
          · subst h0
            simp only [Nat.zero_mul, Nat.add_zero] at hc0 hc1
            go_wp2_with (go_at_call 120; refine (in_any _ _ _ _).mono ?_; rintro e w1 ⟨rfl, rfl⟩)
            go_quiet (fail)
            go_wp2
            go_roundw
            case rel => exact ⟨1, by omega, by go_num, Hgood.out ⟨by omega, fun h => by omega⟩, drew_more HQ.out _⟩
            case measure => simp [intOf]; omega
          · obtain ⟨m, hm⟩ : ∃ m, k - 1 = m := ⟨k - 1, rfl⟩
            have hkm : (k : Int) - 1 = (m : Int) := by omega
            have hkd : decide (0 < k) = true := by simp; omega
            obtain ⟨b', off', e', _, hd0, hd1⟩ := R.out m (by omega)
            simp only [Option.some.injEq, Addr.mk.injEq, and_true] at e'
            obtain ⟨rfl, rfl⟩ := e'
            rw [← kept_cell hb b _ hbl] at hd0 hd1
            simp only [hm] at Hbad Hgood
            generalize zs[m].1 = x' at *
            generalize zs[m].2 = y' at *
            by_cases h1 : x ≤ x'
            · go_wp2_with (go_at_call 120; refine (in_any _ _ _ _).mono ?_; rintro e w1 ⟨rfl, rfl⟩)
              go_quiet (fail)
              go_wp2
              go_ret
              exact ⟨by rw [Hbad.out (fun h => by omega)]; rfl, drew_more HQ.out _⟩
            · have hd1 : decide (x ≤ x') = false := by simp; omega
              by_cases h2 : y' < y
              · go_wp2_with (go_at_call 120; refine (in_any _ _ _ _).mono ?_; rintro e w1 ⟨rfl, rfl⟩)
                go_quiet (fail)
                go_wp2
                go_ret
                exact ⟨by rw [Hbad.out (fun h => by omega)]; rfl, drew_more HQ.out _⟩
              · go_wp2_with (go_at_call 120; refine (in_any _ _ _ _).mono ?_; rintro e w1 ⟨rfl, rfl⟩)
                go_quiet (fail)
                go_wp2
                go_roundw
                case rel => exact ⟨k + 1, by omega, by go_num, Hgood.out ⟨by omega, fun h => by omega⟩, drew_more HQ.out _⟩
                case measure => simp [intOf]; omega
    · have : k = zs.length := by omega
      subst this
      have E : inB (zs.length : Int) 1 20 = chartB zs := by
        by_cases hc : 1 ≤ zs.length ∧ zs.length ≤ 20
        · rw [chartB_true ⟨hall, hc⟩]
          simp [inB]
          omega
        · rw [chartB_false fun h => hc h.2]
          simp only [inB]
          simp
          omega
      go_wp2_with (go_at_call 120; refine (in_any _ _ _ _).mono ?_; rintro e w1 ⟨rfl, rfl⟩)
      go_ret
      exact ⟨rfl, HQ.out⟩

/-- The step before the step k; ahead of the first one, what no step can fail. -/
def prevP (zs : List (Int × Int)) : Nat → Int × Int
  | 0 => (0, 50000)
  | m + 1 => zs.getD m (0, 50000)

theorem prevP_succ (zs : List (Int × Int)) (k : Nat) (h : k < zs.length) : prevP zs (k + 1) = zs[k] := by simp [prevP, h]

theorem OkAt_prev {zs : List (Int × Int)} {k : Nat} (hall : OkAll zs k) (h : k < zs.length) :
    OkAt zs k h ↔ (prevP zs k).1 < zs[k].1 ∧ zs[k].1 ≤ 1000 ∧ 0 ≤ zs[k].2 ∧ zs[k].2 ≤ (prevP zs k).2 := by
  cases k with
  | zero => simp only [OkAt, prevP]; omega
  | succ m =>
    have h1 := hall m (by omega) (by omega)
    rw [prevP_succ zs m (by omega)]
    simp only [OkAt, Nat.add_sub_cancel] at h1 ⊢
    omega

theorem implChart_any (v : Value) (zs : List (Int × Int)) (w : World) (h : RdP w v zs) :
    Calls Tryd.prog 16 #[v] w fun e w' => e = .returned (.bool (chartB zs)) ∧ Below w.heap.size w w' := by
  obtain ⟨A, c, rfl, hl, r1⟩ := RdP_slice h
  clear h
  have R := Lib.hid r1; clear r1
  by_cases g1 : zs.length < 1
  · have hc : chartB zs = false := chartB_false fun h => by have := h.2; omega
    rw [hc]
    go_enter Tryd.func16, Tryd.ntmps16
    go_wp2
    go_ret
    exact ⟨rfl, Below.refl _ _⟩
  by_cases g2 : 20 < zs.length
  · have hc : chartB zs = false := chartB_false fun h => by have := h.2; omega
    rw [hc]
    go_enter Tryd.func16, Tryd.ntmps16
    go_wp2
    go_ret
    exact ⟨rfl, Below.refl _ _⟩
  go_enter Tryd.func16, Tryd.ntmps16
  go_wp2_with fail
  go_loopw [17] (fun i wr => ∃ k : Nat, k ≤ zs.length ∧ i = .int .i64 k ∧ OkAll zs k ∧ Below w.heap.size w wr ∧ w.heap.size < wr.heap.size ∧ wr.cell? ⟨w.heap.size, 0, none⟩ = some (.int .i64 (prevP zs k).1) ∧ wr.cell? ⟨w.heap.size, 1, none⟩ = some (.int .i64 (prevP zs k).2) ∧ wr.frozen? ⟨w.heap.size, 0, none⟩ = false ∧ wr.frozen? ⟨w.heap.size, 1, none⟩ = false) (fun i _ => zs.length - (intOf i).toNat)
  case atStart => exact ⟨0, by omega, rfl, fun i _ h => by omega, by go_grown, by simp, by simp [prevP], by simp [prevP], by simp, by simp⟩
  case round =>
    obtain ⟨k, hk, rfl, hall, hb, hlw, hp0, hp1, hz0, hz1⟩ := hrel
    by_cases hlt : k < zs.length
    · obtain ⟨b, off, rfl, hbl, hc0, hc1⟩ := R.out k hlt
      rw [← kept_cell hb b _ hbl] at hc0 hc1
      have hiff := OkAt_prev hall hlt
      have hbad : ¬ OkAt zs k hlt → chartB zs = false := fun hn => chartB_false fun hc => hn (hc.1 k hlt hlt)
      have hgood : OkAt zs k hlt → OkAll zs (k + 1) := OkAll_step hall hlt
      have hnext := prevP_succ zs k hlt
      rw [hiff] at hbad hgood
      clear hiff
      rw [show zs[k] = (zs[k].1, zs[k].2) from rfl] at hnext
      generalize zs[k].1 = x at *
      generalize zs[k].2 = y at *
      generalize (prevP zs k).1 = x' at *
      generalize (prevP zs k).2 = y' at *
      have Hall := Lib.hid hall; clear hall
      have Hbad := Lib.hid hbad; clear hbad
      have Hgood := Lib.hid hgood; clear hgood
      have Hnext := Lib.hid hnext; clear hnext
      by_cases h1 : x ≤ x'
      · go_wp2
        go_ret
        exact ⟨by rw [Hbad.out (fun h => by omega)]; rfl, by go_grown⟩
      · have hd1 : decide (x ≤ x') = false := by simp; omega
        by_cases h2 : 1000 < x
        · go_wp2
          go_ret
          exact ⟨by rw [Hbad.out (fun h => by omega)]; rfl, by go_grown⟩
        · by_cases h3 : y < 0
          · go_wp2
            go_ret
            exact ⟨by rw [Hbad.out (fun h => by omega)]; rfl, by go_grown⟩
          · by_cases h4 : y' < y
            · go_wp2
              go_ret
              exact ⟨by rw [Hbad.out (fun h => by omega)]; rfl, by go_grown⟩
            · go_wp2
              go_roundw
              case rel => exact ⟨k + 1, by omega, by go_num, Hgood.out (by omega), by go_grown, by simp; omega, by rw [Hnext.out]; simp [World.cell?_alloc_past, World.cell?_setCell_same', World.cell?_setCell_other, hlw, hp0, hp1], by rw [Hnext.out]; simp [World.cell?_alloc_past, World.cell?_setCell_same', World.cell?_setCell_other, hlw, hp0, hp1], by simp [World.frozen?_alloc_past, hlw, hz0], by simp [World.frozen?_alloc_past, hlw, hz1]⟩
              case measure => simp [intOf]; omega
    · have : k = zs.length := by omega
      subst this
      go_wp2
      go_ret
      exact ⟨by rw [chartB_true ⟨hall, by omega, by omega⟩]; rfl, hb⟩

/-- The step k. -/
def atP (zs : List (Int × Int)) (k : Nat) : Int × Int := zs.getD k (0, 0)

theorem atP_is (zs : List (Int × Int)) (k : Nat) (h : k < zs.length) : atP zs k = zs[k] := by simp [atP, h]

theorem rd_at {w : World} {A : Option Addr} {n c : Nat} {zs : List (Int × Int)} (h : RdP w (.slice A n c) zs) (k : Nat) (hk : k < zs.length) :
    n = zs.length ∧ ∃ b off, A = some ⟨b, off, none⟩ ∧ b < w.heap.size ∧ w.cell? ⟨b, off + k * 2, none⟩ = some (.int .i64 (atP zs k).1) ∧ w.cell? ⟨b, off + k * 2 + 1, none⟩ = some (.int .i64 (atP zs k).2) := by
  obtain ⟨A', c', e, hl, r1⟩ := RdP_slice h
  obtain ⟨b, off, rfl, hb, h0, h1⟩ := r1 k hk
  simp only [Value.slice.injEq] at e
  refine ⟨e.2.1, b, off, e.1, hb, ?_, ?_⟩
  · rw [atP_is zs k hk]; exact h0
  · rw [atP_is zs k hk]; exact h1

/-- The last radius. -/
def lastL (zs : List (Int × Int)) : Int := (atP zs (zs.length - 1)).1

theorem last_any (v : Value) (zs : List (Int × Int)) (w : World) (h : RdP w v zs) (hn : 1 ≤ zs.length) :
    Calls Tryd.prog 61 #[v] w fun e w' => e = .returned (.int .i64 (lastL zs)) ∧ w = w' := by
  obtain ⟨A, c, rfl, hl, _⟩ := RdP_slice h
  obtain ⟨_, b, off, rfl, hbl, hc0, hc1⟩ := rd_at h (zs.length - 1) (by omega)
  unfold lastL
  have hkm : (zs.length : Int) - 1 = ((zs.length - 1 : Nat) : Int) := by omega
  have hk1 : zs.length - 1 < zs.length := by omega
  clear h
  generalize zs.length - 1 = m at *
  generalize (atP zs m).1 = x at *
  go_enter Tryd.func61, Tryd.ntmps61
  go_wp2
  go_ret
  exact ⟨rfl, rfl⟩

theorem specLast_any (v : Value) (zs : List (Int × Int)) (w : World) (h : RdP w v zs) (hn : 1 ≤ zs.length) :
    Calls Tryd.prog 135 #[v] w fun e w' => e = .returned (.int .i64 (lastL zs)) ∧ w = w' := by
  obtain ⟨A, c, rfl, hl, _⟩ := RdP_slice h
  obtain ⟨_, b, off, rfl, hbl, hc0, hc1⟩ := rd_at h (zs.length - 1) (by omega)
  unfold lastL
  have hkm : (zs.length : Int) - 1 = ((zs.length - 1 : Nat) : Int) := by omega
  have hk1 : zs.length - 1 < zs.length := by omega
  clear h
  generalize zs.length - 1 = m at *
  generalize (atP zs m).1 = x at *
  go_enter Tryd.func135, Tryd.ntmps135
  go_wp2
  go_ret
  exact ⟨rfl, rfl⟩

/-- The digits of a number, none of 0. -/
def dd (u : Nat) : List UInt8 := if u = 0 then [] else Lib.decDigits u

theorem dd_step (u : Nat) (h : u ≠ 0) : dd u = dd (u / 10) ++ [UInt8.ofNat (48 + u % 10)] := by
  unfold dd
  rw [if_neg h, Lib.decDigits]
  by_cases h1 : u < 10
  · rw [dif_pos h1, if_pos (by omega), Nat.mod_eq_of_lt h1]
    rfl
  · rw [dif_neg h1, if_neg (by omega)]

theorem dd_len (m : Nat) (h : m ≤ 9223372036854775808) : (dd m).length ≤ 20 := by
  unfold dd
  split
  · simp
  · rw [Lib.decDigits_length]
    exact Lib.nDigits_le20 m (by omega)

/-- The variable holds an error. -/
def ErrVar (w : World) (g : Nat) : Prop := g < w.heap.size ∧ ∃ te pe, w.cell? ⟨g, 0, none⟩ = some (.iface te pe)

theorem ErrVar_kept {W w1 : World} {g : Nat} (h : ErrVar W g) (hb : Below W.heap.size W w1) : ErrVar w1 g := by
  obtain ⟨hg, te, pe, hc⟩ := h
  exact ⟨Nat.lt_of_lt_of_le hg hb.size, te, pe, by rw [kept_cell hb g 0 hg]; exact hc⟩

theorem errVar_of {P : Program} {W : World} {name s : String} {d : DataW Unit} {g t : Nat} {ms : Array (String × TypeId)} (hg : P.globalNamed name = some g) (hty : (P.globals[g]?).map (·.type) = some t) (ht : P.underlying t = some (.interface ms)) (hct : P.cellsOf t = 1)
    (h : Lib.VarReads P W name (.iface s d)) : ErrVar W g := by
  obtain ⟨g', t', cs, fuel, p, hg', ht', hvar, hd⟩ := h
  obtain rfl := Option.some.inj (hg.symm.trans hg')
  obtain rfl := Option.some.inj (hty.symm.trans ht')
  have hlt : g < W.heap.size := by
    simp only [World.var?, hg, Option.bind_some] at hvar
    rcases Nat.lt_or_ge g W.heap.size with hlt | hge
    · exact hlt
    · rw [Array.getElem?_eq_none hge] at hvar; simp at hvar
  refine ⟨hlt, ?_⟩
  have hcell := World.var?_cell hg hvar 0
  cases fuel with
  | zero => simp [DataW.trod] at hd
  | succ fuel =>
    cases hl : cs.toList with
    | nil => simp [DataW.trod, ht, hl] at hd
    | cons v r =>
      cases r with
      | cons _ _ => simp [DataW.trod, ht, hl] at hd
      | nil =>
        cases v <;> simp [DataW.trod, ht, hl] at hd
        next te pe =>
          refine ⟨te, pe, ?_⟩
          rw [hcell, ← Array.getElem?_toList, hl]
          rfl

theorem str_ne {a b : ByteArray} (h : ¬ a = b) : (a.toList == b.toList) = false := by
  rw [ByteArray.toList_eq, ByteArray.toList_eq, beq_eq_false_iff_ne]
  intro he
  apply h
  cases a
  cases b
  simpa [Array.toList_inj] using he

/-- The text of a mark. -/
def markT (k : Nat) : ByteArray := ⟨(109 :: dd k).toArray⟩

theorem cons_str (c : UInt8) (bs : List UInt8) : ByteArray.mk #[c] ++ ByteArray.mk bs.toArray = ByteArray.mk (c :: bs).toArray := by
  rw [show ByteArray.mk #[c] = ByteArray.mk [c].toArray from rfl, ByteArray.mk_append_mk]
  rfl

set_option maxRecDepth 100000 in
theorem markText_any (m : Nat) (h1 : 1 ≤ m) (h2 : m ≤ 1000000000) (w : World) :
    Calls Tryd.prog 140 #[.int .i64 (m : Int)] w fun e w' => e = .returned (.string (markT m)) ∧ Below w.heap.size w w' := by
  have hdl := dd_len m (by omega)
  unfold markT
  go_enter Tryd.func140, Tryd.ntmps140
  go_wp2_with fail
  go_loopw [0, 3] (fun k o wr => ∃ (u : Nat) (bs : List UInt8), u ≤ m ∧ k = .int .i64 (u : Int) ∧ o = .string ⟨bs.toArray⟩ ∧ dd m = dd u ++ bs ∧ Below w.heap.size w wr) (fun k _ _ => (intOf k).toNat)
  case atStart => exact ⟨m, [], Nat.le_refl _, rfl, rfl, by simp, Below.refl _ _⟩
  case round =>
    obtain ⟨u, bs, hu, rfl, rfl, hdd, hb⟩ := hrel
    by_cases h0 : u = 0
    · subst h0
      have hbs : dd m = bs := by simpa [dd] using hdd
      have hbl : bs.length ≤ 20 := by rw [← hbs]; exact hdl
      have HB := Lib.hid hbs; clear hbs hdd
      go_wp2
      go_ret
      exact ⟨by rw [HB.out]; rfl, hb⟩
    · have hst := dd_step u h0
      rw [hst, List.append_assoc] at hdd
      have hlen : bs.length ≤ 20 := by
        have := congrArg List.length hdd
        simp at this
        omega
      have hmod : (u : Int).tmod 10 = ((u % 10 : Nat) : Int) := by rw [Int.tmod_eq_emod_of_nonneg (by omega)]; omega
      have hdiv : (u : Int).tdiv 10 = ((u / 10 : Nat) : Int) := by rw [Int.tdiv_eq_ediv_of_nonneg (by omega)]; omega
      have hd10 : u % 10 < 10 := Nat.mod_lt _ (by omega)
      have hbyte : ((UInt8.ofNat (48 + u % 10)).toNat : Int) = (48 : Int) + ((u % 10 : Nat) : Int) := by
        rw [UInt8.toNat_ofNat_of_lt' (by have : UInt8.size = 256 := rfl; omega)]
        push_cast
        rfl
      have hsz := hb.size
      have hlt10 : u / 10 < u := Nat.div_lt_self (by omega) (by omega)
      have HD := Lib.hid hdd; clear hdd hst
      generalize UInt8.ofNat (48 + u % 10) = c at *
      generalize u / 10 = q at *
      generalize u % 10 = d at *
      have hw8 : IntKind.u8.wrap ((48 : Int) + (d : Int)) = 48 + (d : Int) := IntWalk.u8_in _ (by omega)
      have hcv := run_convert_bytes_back (P := Tryd.prog) (wr.alloc (.cells #[.int .u8 ((48 : Int) + (d : Int))] 5)) 22 9 5 ⟨wr.heap.size, 0, none⟩ 1 [c] Tryd.underlying22 Tryd.underlying5 Tryd.underlying9 (fun j hj => by
        have : j = 0 := by simp at hj; omega
        subst this
        simp [Addr.add, hbyte])
      simp only [List.length_cons, List.length_nil] at hcv
      go_wp2
      go_roundw
      case rel => exact ⟨q, c :: bs, by omega, by go_num, by rw [cons_str], by simpa using HD.out, by go_grown⟩
      case measure => simp [intOf]; omega

/-- A crane's fields. -/
structure Cr where
  nm : ByteArray
  x : Int
  y : Int
  h : Int
  j : Int
  b : Int
  ch : List (Int × Int)

/-- A crane, cell by cell; c: its chart's slice. -/
def encK (p : Cr × Value) : List Value := [.string p.1.nm, .int .i64 p.1.x, .int .i64 p.1.y, .int .i64 p.1.h, .int .i64 p.1.j, .int .i64 p.1.b, p.2]

def wfK (k : Cr) : Prop := k.nm.size ≤ maxLen ∧ (Lit.int .i64 k.x).wf = true ∧ (Lit.int .i64 k.y).wf = true ∧ (Lit.int .i64 k.h).wf = true ∧ (Lit.int .i64 k.j).wf = true ∧ (Lit.int .i64 k.b).wf = true

def flatK (ks : List (Cr × Value)) : List Value := ks.flatMap encK

theorem flatK_len (ks : List (Cr × Value)) : (flatK ks).length = ks.length * 7 := flat_len (enc := encK) (fun _ => rfl) ks

theorem flatK_at (ks : List (Cr × Value)) (k j : Nat) (h : k < ks.length) (hj : j < 7) : (flatK ks)[k * 7 + j]? = (encK ks[k])[j]? := flat_at (enc := encK) (sz := 7) (fun _ => rfl) ks k j h hj

/-- The slice value reads as a list of cranes: their fields and their charts' slices. -/
def RdK (w : World) (v : Value) (ks : List (Cr × Value)) : Prop := RdF w v ks.length 7 (flatK ks) ∧ ∀ p ∈ ks, RdP w p.2 p.1.ch

theorem RdK_kept {W w1 : World} {v : Value} {ks : List (Cr × Value)} (h : RdK W v ks) (hb : Below W.heap.size W w1) : RdK w1 v ks := ⟨RdF_kept h.1 hb, fun p hp => RdP_kept (h.2 p hp) hb⟩

/-- A crane lies at a place. -/
def CrAt (w : World) (b o : Nat) (k : Cr) (c : Value) : Prop :=
  b < w.heap.size ∧ (w.cell? ⟨b, o, none⟩ = some (.string k.nm) ∧ w.cell? ⟨b, o + 1, none⟩ = some (.int .i64 k.x) ∧ w.cell? ⟨b, o + 2, none⟩ = some (.int .i64 k.y) ∧ w.cell? ⟨b, o + 3, none⟩ = some (.int .i64 k.h) ∧ w.cell? ⟨b, o + 4, none⟩ = some (.int .i64 k.j) ∧ w.cell? ⟨b, o + 5, none⟩ = some (.int .i64 k.b) ∧ w.cell? ⟨b, o + 6, none⟩ = some c) ∧ RdP w c k.ch

theorem CrAt_kept {W w1 : World} {b o : Nat} {k : Cr} {c : Value} (h : CrAt W b o k c) (hb : Below W.heap.size W w1) : CrAt w1 b o k c := by
  obtain ⟨hlt, ⟨h0, h1, h2, h3, h4, h5, h6⟩, hr⟩ := h
  refine ⟨Nat.lt_of_lt_of_le hlt hb.size, ⟨?_, ?_, ?_, ?_, ?_, ?_, ?_⟩, RdP_kept hr hb⟩ <;> (rw [kept_cell hb b _ hlt]; assumption)

theorem RdK_at {w : World} {v : Value} {ks : List (Cr × Value)} (h : RdK w v ks) : ∃ A c, v = .slice A ks.length c ∧ ks.length ≤ 9223372036854775807 ∧
    ∀ i, (hi : i < ks.length) → ∃ b off, A = some ⟨b, off, none⟩ ∧ CrAt w b (off + i * 7) ks[i].1 ks[i].2 := by
  obtain ⟨⟨hl, hx, A, c, rfl, hr⟩, hcs⟩ := h
  refine ⟨A, c, rfl, hl, fun i hi => ?_⟩
  obtain ⟨b, off, rfl, hlt, h0⟩ := hr (i * 7) (by omega)
  have at_ : ∀ j, j < 7 → w.cell? ⟨b, off + (i * 7 + j), none⟩ = (encK ks[i])[j]? := by
    intro j hj
    obtain ⟨b', off', e, _, h1⟩ := hr (i * 7 + j) (by omega)
    simp only [Option.some.injEq, Addr.mk.injEq, and_true] at e
    obtain ⟨rfl, rfl⟩ := e
    rw [h1, flatK_at ks i j hi hj]
  refine ⟨b, off, rfl, hlt, ⟨?_, ?_, ?_, ?_, ?_, ?_, ?_⟩, hcs _ (List.getElem_mem hi)⟩
  · exact at_ 0 (by omega)
  · exact at_ 1 (by omega)
  · exact at_ 2 (by omega)
  · exact at_ 3 (by omega)
  · exact at_ 4 (by omega)
  · exact at_ 5 (by omega)
  · exact at_ 6 (by omega)

/-- Cells that read as a slice of structs of two numbers. -/
theorem open_pairsC {H : Type} {enc : TypeId × Value → H} {P : Program} {W : World} {t e : TypeId} {f0 f1 : Field} {base fuel : Nat} {sp : Nat → Bool} {held : Bool} {cs : List Value} {z : DataW H × List MemPlace}
    (ht : P.underlying t = some (.slice e)) (he : P.underlying e = some (.struct #[f0, f1])) (i0 : P.underlying f0.type = some (.int .i64)) (i1 : P.underlying f1.type = some (.int .i64))
    (ce : P.cellsOf e = 2) (o0 : f0.offset = 0) (o1 : f1.offset = 1) (c0 : P.cellsOf f0.type = 1) (c1 : P.cellsOf f1.type = 1)
    (h : DataW.trod enc P W base sp held fuel t cs = some z) :
    ∃ (v : Value) (zs : List (Int × Int)), cs = [v] ∧ RdP W v zs := by
  rcases Deep.open_slice_pairs ht he ce o0 o1 c0 c1 h with ⟨hcs, hx⟩ | ⟨a, len, cap, m, n, V0, V1, D0, D1, P0, P1, hcs, _, hl, hm, hmm, hx, hi⟩
  · exact ⟨_, [], hcs, ⟨by simp, rfl, none, 0, rfl, fun i hi => by simp at hi⟩⟩
  · have hlm : len ≤ m := by rw [hmm]; split <;> omega
    have each : ∀ i, i < len → ∃ q : Int × Int, V0 i = .int .i64 q.1 ∧ V1 i = .int .i64 q.2 := by
      intro i hlt
      obtain ⟨_, _, g0, g1⟩ := hi i (by omega)
      obtain ⟨x, e0, _, w0⟩ := DataW.trod_int i0 g0
      obtain ⟨y, e1, _, w1⟩ := DataW.trod_int i1 g1
      simp at e0 e1
      exact ⟨(x, y), e0, e1⟩
    obtain ⟨q, hq⟩ := Deep.choose_lt each
    obtain ⟨b, off, spot⟩ := a
    refine ⟨_, (List.range len).map q, hcs, ⟨by simp; unfold maxLen at hm; omega, by rw [flatP_len], some ⟨b, off, spot⟩, cap, by simp, fun j hj => ?_⟩⟩
    simp only [List.length_map, List.length_range] at hj
    obtain ⟨h0, h1, _, _⟩ := hi (j / 2) (by omega)
    have hspot : spot = none := by simpa [Addr.add] using World.cell?_spot (hi 0 (by omega)).1
    subst hspot
    rw [add_plain] at h0 h1
    have hat := flatP_at ((List.range len).map q) (j / 2) (by simp; omega)
    simp only [List.getElem_map, List.getElem_range] at hat
    rw [← (hq (j / 2) (by omega)).1, ← (hq (j / 2) (by omega)).2] at hat
    refine ⟨b, off, rfl, World.block_lt_of_cell? _ _ h0, ?_⟩
    rcases Nat.mod_two_eq_zero_or_one j with hp | hp
    · have e : j / 2 * 2 = j := by omega
      rw [e] at hat h0
      rw [hat.1, ← h0]
    · have e : j / 2 * 2 + 1 = j := by omega
      rw [e] at hat h1
      rw [hat.2, ← h1]

set_option maxRecDepth 100000 in
/-- Cells that read as a crane. -/
theorem open_craneC {H : Type} {enc : TypeId × Value → H} {W : World} {base fuel : Nat} {sp : Nat → Bool} {held : Bool} {cs : List Value} {z : DataW H × List MemPlace}
    (h : DataW.trod enc Tryd.prog W base sp held fuel 68 cs = some z) : ∃ (k : Cr) (c : Value), cs = encK (k, c) ∧ RdP W c k.ch ∧ wfK k := by
  obtain ⟨xs, n, _, _, hl, hlen, hf⟩ := DataW.trod_struct Tryd.underlying68 h
  have hl7 : cs.length = 7 := hl.trans (by kernel_rfl)
  have h0 : DataW.trod enc Tryd.prog W base sp held n 9 ((cs.drop 0).take (Tryd.prog.cellsOf 9)) = xs[0]? := hf 0 _ rfl
  have h1 : DataW.trod enc Tryd.prog W base sp held n 65 ((cs.drop 1).take (Tryd.prog.cellsOf 65)) = xs[1]? := hf 1 _ rfl
  have h2 : DataW.trod enc Tryd.prog W base sp held n 2 ((cs.drop 3).take (Tryd.prog.cellsOf 2)) = xs[2]? := hf 2 _ rfl
  have h3 : DataW.trod enc Tryd.prog W base sp held n 2 ((cs.drop 4).take (Tryd.prog.cellsOf 2)) = xs[3]? := hf 3 _ rfl
  have h4 : DataW.trod enc Tryd.prog W base sp held n 2 ((cs.drop 5).take (Tryd.prog.cellsOf 2)) = xs[4]? := hf 4 _ rfl
  have h5 : DataW.trod enc Tryd.prog W base sp held n 66 ((cs.drop 6).take (Tryd.prog.cellsOf 66)) = xs[5]? := hf 5 _ rfl
  have z0 : Tryd.prog.cellsOf 9 = 1 := by kernel_rfl
  have z1 : Tryd.prog.cellsOf 65 = 2 := by kernel_rfl
  have z2 : Tryd.prog.cellsOf 2 = 1 := by kernel_rfl
  have z3 : Tryd.prog.cellsOf 66 = 1 := by kernel_rfl
  match cs, hl7 with
  | [c0, c1, c2, c3, c4, c5, c6], _ =>
    have i0 : xs[0]? = some (xs[0]'(by rw [hlen]; decide)) := List.getElem?_eq_getElem _
    have i1 : xs[1]? = some (xs[1]'(by rw [hlen]; decide)) := List.getElem?_eq_getElem _
    have i2 : xs[2]? = some (xs[2]'(by rw [hlen]; decide)) := List.getElem?_eq_getElem _
    have i3 : xs[3]? = some (xs[3]'(by rw [hlen]; decide)) := List.getElem?_eq_getElem _
    have i4 : xs[4]? = some (xs[4]'(by rw [hlen]; decide)) := List.getElem?_eq_getElem _
    have i5 : xs[5]? = some (xs[5]'(by rw [hlen]; decide)) := List.getElem?_eq_getElem _
    simp only [i0, i1, i2, i3, i4, i5, z0, z1, z2, z3, List.drop_succ_cons, List.drop_zero, List.take_succ_cons, List.take_zero] at h0 h1 h2 h3 h4 h5
    obtain ⟨s, e0, _, ws⟩ := DataW.trod_string Tryd.underlying9 h0
    obtain ⟨y0, y1, m, _, _, p0', p1'⟩ := trod_struct2 Tryd.underlying65 h1
    have p0 : DataW.trod enc Tryd.prog W base sp held m 2 (([c1, c2].drop 0).take (Tryd.prog.cellsOf 2)) = some y0 := p0'
    have p1 : DataW.trod enc Tryd.prog W base sp held m 2 (([c1, c2].drop 1).take (Tryd.prog.cellsOf 2)) = some y1 := p1'
    simp only [z2, List.drop_succ_cons, List.drop_zero, List.take_succ_cons, List.take_zero] at p0 p1
    obtain ⟨ix, e1, _, w1⟩ := DataW.trod_int Tryd.underlying2 p0
    obtain ⟨iy, e2, _, w2⟩ := DataW.trod_int Tryd.underlying2 p1
    obtain ⟨ih, e3, _, w3⟩ := DataW.trod_int Tryd.underlying2 h2
    obtain ⟨ij, e4, _, w4⟩ := DataW.trod_int Tryd.underlying2 h3
    obtain ⟨ib, e5, _, w5⟩ := DataW.trod_int Tryd.underlying2 h4
    obtain ⟨c, zs, e6, hr⟩ := open_pairsC Tryd.underlying66 Tryd.underlying167 Tryd.underlying2 Tryd.underlying2 (by kernel_rfl) rfl rfl (by kernel_rfl) (by kernel_rfl) h5
    simp only [List.cons.injEq, and_true] at e0 e1 e2 e3 e4 e5 e6
    subst e0 e1 e2 e3 e4 e5 e6
    exact ⟨⟨s, ix, iy, ih, ij, ib, zs⟩, _, rfl, hr, ws, w1, w2, w3, w4, w5⟩

/-- A datum that is a list of n elements. -/
def DataLen {H : Type} (d : DataW H) (n : Nat) : Prop := (d = .nil ∧ n = 0) ∨ ∃ es rs, d = .slice es rs ∧ es.length = n

/-- What is known of an argument's cranes. -/
def wfS (ks : List (Cr × Value)) : Prop := (∀ p ∈ ks, wfK p.1) ∧ ks.length ≤ maxLen

set_option maxRecDepth 100000 in
/-- Cells that read as a slice of cranes. -/
theorem open_cranesC {H : Type} {enc : TypeId × Value → H} {W : World} {base fuel : Nat} {sp : Nat → Bool} {held : Bool} {cs : List Value} {z : DataW H × List MemPlace}
    (h : DataW.trod enc Tryd.prog W base sp held fuel 59 cs = some z) : ∃ (v : Value) (ks : List (Cr × Value)), cs = [v] ∧ RdK W v ks ∧ wfS ks ∧ DataLen z.1 ks.length := by
  rcases Deep.open_slice Tryd.underlying59 h with ⟨hcs, hx⟩ | ⟨a, len, cap, m, n, D, Pl, hcs, _, hl, hm, hmm, hx, hi⟩
  · exact ⟨_, [], hcs, ⟨⟨by simp, rfl, none, 0, rfl, fun i hi => by simp at hi⟩, fun p h => by cases h⟩, ⟨(fun p h => by cases h), by simp⟩, Or.inl ⟨by rw [hx], rfl⟩⟩
  · have hlm : len ≤ m := by rw [hmm]; split <;> omega
    have ce : Tryd.prog.cellsOf 68 = 7 := by kernel_rfl
    have each : ∀ i, i < len → ∃ q : Option (Cr × Value), ∃ p, q = some p ∧ W.cells? base (a.add (i * 7)) 7 = some (encK p) ∧ RdP W p.2 p.1.ch ∧ wfK p.1 := by
      intro i hlt
      obtain ⟨cs', g0, g1⟩ := hi i (by omega)
      obtain ⟨k, c, e, hr, wk⟩ := open_craneC g1
      rw [ce, e] at g0
      exact ⟨some (k, c), (k, c), rfl, g0, hr, wk⟩
    obtain ⟨q, hq⟩ := Deep.choose_lt each
    have each2 : ∀ i, i < len → (q i).isSome = true := fun i hi => by obtain ⟨p, e, _⟩ := hq i hi; rw [e]; rfl
    obtain ⟨b, off, spot⟩ := a
    let ks : List (Cr × Value) := (List.range len).attach.map fun i => (q i.1).get (each2 i.1 (List.mem_range.1 i.2))
    have hkl : ks.length = len := by simp [ks]
    have hks : ∀ i (hi : i < ks.length), ∃ p, ks[i] = p ∧ q i = some p := by
      intro i hi
      refine ⟨ks[i], rfl, ?_⟩
      simp [ks]
    refine ⟨_, ks, hcs, ⟨⟨by rw [hkl]; unfold maxLen at hm; omega, by rw [flatK_len], some ⟨b, off, spot⟩, cap, by rw [hkl], fun j hj => ?_⟩, ?_⟩, ⟨?_, by rw [hkl]; omega⟩, Or.inr ⟨_, _, by rw [hx], by rw [hkl]; simp⟩⟩
    · rw [hkl] at hj
      obtain ⟨p, e, hc, _⟩ := hq (j / 7) (by omega)
      obtain ⟨p', e', e2⟩ := hks (j / 7) (by omega)
      rw [e] at e2
      cases e2
      obtain ⟨_, _, hcell⟩ := World.cells?_some hc
      have hspot : spot = none := by
        obtain ⟨p0, _, hc0, _⟩ := hq 0 (by omega)
        obtain ⟨_, _, hcell0⟩ := World.cells?_some hc0
        have := hcell0 0 (by omega)
        rw [show (encK p0)[0]? = some (.string p0.1.nm) from rfl] at this
        simpa [Addr.add] using World.cell?_spot this
      subst hspot
      have h7 := hcell (j % 7) (by omega)
      rw [add_plain, add_plain, ← e'] at h7
      rw [← flatK_at ks (j / 7) (j % 7) (by omega) (by omega), show j / 7 * 7 + j % 7 = j by omega, Nat.add_assoc, show j / 7 * 7 + j % 7 = j by omega] at h7
      refine ⟨b, off, rfl, ?_, h7⟩
      have hx : (flatK ks)[j]? = some ((flatK ks)[j]'(by rw [flatK_len]; omega)) := List.getElem?_eq_getElem _
      rw [hx] at h7
      exact World.block_lt_of_cell? _ _ h7
    · intro p hp
      obtain ⟨i, hi, rfl⟩ := List.mem_iff_getElem.1 hp
      obtain ⟨p, e, e2⟩ := hks i hi
      obtain ⟨p', e', _, hr, _⟩ := hq i (by omega)
      rw [e'] at e2
      cases e2
      rw [e]
      exact hr
    · intro p hp
      obtain ⟨i, hi, rfl⟩ := List.mem_iff_getElem.1 hp
      obtain ⟨p, e, e2⟩ := hks i hi
      obtain ⟨p', e', _, hr, hw⟩ := hq i (by omega)
      rw [e'] at e2
      cases e2
      rw [e]
      exact hw

set_option maxRecDepth 100000 in
theorem open_site {H : Type} {enc : TypeId × Value → H} {W : World} {base : Nat} {v : Value} {d : DataW H} {p : List MemPlace}
    (hv : Value.okWide Tryd.prog W .any base 61 v) (h : DataW.Trod enc Tryd.prog W 0 (fun _ => true) true 61 v d p) :
    ∃ (c : Value) (ks : List (Cr × Value)), v = .agg #[c] ∧ RdK W c ks ∧ wfS ks ∧ ∃ y, d = .agg [y] ∧ DataLen y ks.length := by
  obtain ⟨cs, rfl, hsz⟩ := okWide_struct Tryd.underlying61 hv
  obtain ⟨fuel, hf⟩ := h
  obtain ⟨y0, n, hx, hl, h0'⟩ := trod_struct1 Tryd.underlying61 (show DataW.trod enc Tryd.prog W 0 (fun _ => true) true fuel 61 cs.toList = some (d, p) from by simpa [Value.cells] using hf)
  have h0 : DataW.trod enc Tryd.prog W 0 (fun _ => true) true n 59 ((cs.toList.drop 0).take (Tryd.prog.cellsOf 59)) = some y0 := h0'
  have hl1 : cs.size = 1 := hsz.trans (by kernel_rfl)
  have z0 : Tryd.prog.cellsOf 59 = 1 := by kernel_rfl
  obtain ⟨c, rfl⟩ : ∃ c, cs = #[c] := by
    rcases cs with ⟨l⟩
    match l, hl1 with
    | [c], _ => exact ⟨c, rfl⟩
  simp only [z0, List.drop_zero, List.take_succ_cons, List.take_zero] at h0
  obtain ⟨v, ks, e, hr, hw, hdl⟩ := open_cranesC h0
  simp at e
  subst e
  exact ⟨_, ks, rfl, hr, hw, y0.1, congrArg Prod.fst hx, hdl⟩

/-- What is left of a measure behind a crane; less than 0: too much. -/
def szK (k : Cr) (left : Int) : Int := if (k.nm.size : Int) + (k.ch.length : Int) ≤ left then left - k.nm.size - k.ch.length else -1

theorem szK_any (k : Cr) (c : Value) (left : Int) (h : 0 ≤ left ∧ left ≤ 1000000) (hs : k.nm.size ≤ maxLen) (w : World) (hr : RdP w c k.ch) :
    Calls Tryd.prog 38 #[.agg #[.string k.nm, .int .i64 k.x, .int .i64 k.y, .int .i64 k.h, .int .i64 k.j, .int .i64 k.b, c], .int .i64 left] w fun e w' => e = .returned (.int .i64 (szK k left)) ∧ Below w.heap.size w w' := by
  obtain ⟨A, cp, rfl, hl, _⟩ := RdP_slice hr
  clear hr
  unfold maxLen at hs
  unfold szK
  obtain ⟨s, x, y, hh, j, b, zs⟩ := k
  dsimp only at *
  by_cases h1 : left < (s.size : Int)
  · rw [if_neg (by omega)]
    go_enter Tryd.func38, Tryd.ntmps38
    go_wp2
    go_ret
    exact ⟨rfl, by go_grown⟩
  · by_cases h2 : (s.size : Int) + (zs.length : Int) ≤ left
    · rw [if_pos h2]
      have e : (if (zs.length : Int) ≤ left - s.size then left - s.size - zs.length else -1) = left - s.size - zs.length := if_pos (by omega)
      go_enter Tryd.func38, Tryd.ntmps38
      go_wp2_with (go_at_call 92; refine ((szC_any _ _ _ _ (by omega) (by omega) _)).mono ?_; rintro e w1 ⟨rfl, rfl⟩)
      go_ret
      exact ⟨rfl, by go_grown⟩
    · rw [if_neg h2]
      go_enter Tryd.func38, Tryd.ntmps38
      go_wp2_with (go_at_call 92; refine ((szC_any _ _ _ _ (by omega) (by omega) _)).mono ?_; rintro e w1 ⟨rfl, rfl⟩)
      go_ret
      exact ⟨rfl, by go_grown⟩

theorem CopyC_set {w : World} {lo hi b o : Nat} {v u : Value} {zs : List (Int × Int)} (h : CopyC w lo hi v zs) (hb : b < lo) : CopyC (w.setCell ⟨b, o, none⟩ u) lo hi v zs := by
  obtain ⟨hl, g, e, hr⟩ := h
  exact ⟨hl, g, e, RowF_far hr (grown_set _ _ _) (fun g hg => by simp at hg; omega)⟩

theorem CopyC_lo {w : World} {lo lo' hi hi' : Nat} {v : Value} {zs : List (Int × Int)} (h : CopyC w lo hi v zs) (hl : lo' ≤ lo) (hh : hi ≤ hi') : CopyC w lo' hi' v zs := by
  obtain ⟨hn, g, e, hr⟩ := h
  exact ⟨hn, g, e, RowF_lo hr hl hh⟩

theorem toK_false (k : Cr) (c : Value) (w : World) (hr : RdP w c k.ch) (hn : k.ch.length ≤ 1000000) :
    Calls Tryd.prog 40 #[.agg #[.string k.nm, .int .i64 k.x, .int .i64 k.y, .int .i64 k.h, .int .i64 k.j, .int .i64 k.b, c], .bool false] w fun e w' => ∃ c', e = .returned (.agg #[.string k.nm, .int .i64 k.x, .int .i64 k.y, .int .i64 k.h, .int .i64 k.j, .int .i64 k.b, c']) ∧ CopyC w' w.heap.size w'.heap.size c' k.ch ∧ Below w.heap.size w w' := by
  obtain ⟨A0, cp0, rfl, _, _⟩ := RdP_slice hr
  have H := Lib.hid hr; clear hr
  obtain ⟨s, x, y, hh, j, b, zs⟩ := k
  dsimp only at *
  go_enter Tryd.func40, Tryd.ntmps40
  go_wp2_with fail
  refine (toPoint_any _ _ _).mono ?_
  rintro e w1 ⟨rfl, b1⟩
  refine kept_at b1 (w.heap.size) (by go_size) fun c1_0 z1_0 s1_0 => ?_
  refine kept_at b1 (w.heap.size + 1) (by go_size) fun c1_1 z1_1 s1_1 => ?_
  refine kept_at b1 (w.heap.size + 2) (by go_size) fun c1_2 z1_2 s1_2 => ?_
  replace b1 := kept_trans (a := w) (by go_grown) b1
  have l1 := kept_cell b1
  have zz1 := b1.size
  go_wp2_with fail
  refine (toC_false _ zs _ (RdP_kept H.out (by go_grown)) hn).mono ?_
  rintro e w2 ⟨c', rfl, hc, hb2⟩
  obtain ⟨A1, cp1, rfl, _, _⟩ := RdP_slice (CopyC_rd hc)
  have HC := Lib.hid hc; clear hc
  refine kept_at hb2 (w.heap.size + 1) (by go_size) fun c2_1 z2_1 s2_1 => ?_
  refine kept_at hb2 (w.heap.size + 2) (by go_size) fun c2_2 z2_2 s2_2 => ?_
  have b2 := kept_trans (a := w) (by go_grown) hb2
  go_wp2
  (try simp only [Exit.inBlock, Exit.then])
  refine bodyPost_ret (v := .agg #[.string s, .int .i64 x, .int .i64 y, .int .i64 hh, .int .i64 j, .int .i64 b, .slice A1 zs.length cp1]) ?_ rfl ⟨_, rfl, ?_, ?_⟩
  · rw [results_cell1 rfl]
    go_simp
  · refine CopyC_lo (lo := w1.heap.size) ?_ (by omega) (show w2.heap.size ≤ _ by simp)
    have := HC.out
    simp only [World.size_setCell] at this
    exact CopyC_set (CopyC_set (CopyC_set (CopyC_set (CopyC_set (CopyC_set (CopyC_set (CopyC_set this (by omega)) (by omega)) (by omega)) (by omega)) (by omega)) (by omega)) (by omega)) (by omega)
  · go_grown

theorem toC_bare (v : Value) (zs : List (Int × Int)) (w : World) (h : RdP w v zs) (hn : zs.length ≤ 1000000) :
    Calls Tryd.prog 97 #[v, .bool true] w fun e w' => ∃ v', e = .returned v' ∧ RowF 33 2 w' w.heap.size w'.heap.size v' zs.length (flatP zs) ∧ Below w.heap.size w w' := by
  by_cases hz : zs = []
  · subst hz
    obtain ⟨A, c, rfl, hl, _⟩ := RdP_slice h
    clear h
    go_enter Tryd.func97, Tryd.ntmps97
    go_wp2
    go_ret
    exact ⟨_, rfl, RowF_nil _ _ _ _ _, Below.refl _ _⟩
  · exact (toC_row v zs true w h hn (Or.inr hz)).mono fun e w' ⟨v', he, hc, hb⟩ => ⟨v', he, CopyC_row hc, hb⟩

theorem toK_true (k : Cr) (c : Value) (w : World) (hr : RdP w c k.ch) (hn : k.ch.length ≤ 1000000) :
    Calls Tryd.prog 40 #[.agg #[.string k.nm, .int .i64 k.x, .int .i64 k.y, .int .i64 k.h, .int .i64 k.j, .int .i64 k.b, c], .bool true] w fun e w' => ∃ c', e = .returned (.agg #[.string k.nm, .int .i64 k.x, .int .i64 k.y, .int .i64 k.h, .int .i64 k.j, .int .i64 k.b, c']) ∧ RowF 33 2 w' w.heap.size w'.heap.size c' k.ch.length (flatP k.ch) ∧ Below w.heap.size w w' := by
  obtain ⟨A0, cp0, rfl, _, _⟩ := RdP_slice hr
  have H := Lib.hid hr; clear hr
  obtain ⟨s, x, y, hh, j, b, zs⟩ := k
  dsimp only at *
  go_enter Tryd.func40, Tryd.ntmps40
  go_wp2_with fail
  refine (toPoint_any _ _ _).mono ?_
  rintro e w1 ⟨rfl, b1⟩
  refine kept_at b1 (w.heap.size) (by go_size) fun c1_0 z1_0 s1_0 => ?_
  refine kept_at b1 (w.heap.size + 1) (by go_size) fun c1_1 z1_1 s1_1 => ?_
  refine kept_at b1 (w.heap.size + 2) (by go_size) fun c1_2 z1_2 s1_2 => ?_
  replace b1 := kept_trans (a := w) (by go_grown) b1
  have l1 := kept_cell b1
  have zz1 := b1.size
  go_wp2_with fail
  refine (toC_bare _ zs _ (RdP_kept H.out (by go_grown)) hn).mono ?_
  rintro e w2 ⟨c', rfl, hc, hb2⟩
  obtain ⟨A1, cp1, rfl, _, _⟩ := RdP_slice (RowF_rd hc)
  have HC := Lib.hid hc; clear hc
  refine kept_at hb2 (w.heap.size + 1) (by go_size) fun c2_1 z2_1 s2_1 => ?_
  refine kept_at hb2 (w.heap.size + 2) (by go_size) fun c2_2 z2_2 s2_2 => ?_
  have b2 := kept_trans (a := w) (by go_grown) hb2
  go_wp2
  (try simp only [Exit.inBlock, Exit.then])
  refine bodyPost_ret (v := .agg #[.string s, .int .i64 x, .int .i64 y, .int .i64 hh, .int .i64 j, .int .i64 b, .slice A1 zs.length cp1]) ?_ rfl ⟨_, rfl, ?_, ?_⟩
  · rw [results_cell1 rfl]
    go_simp
  · refine RowF_lo (lo := w1.heap.size) ?_ (by omega) (show w2.heap.size ≤ _ by simp)
    have := HC.out
    simp only [World.size_setCell] at this
    exact RowF_set (RowF_set (RowF_set (RowF_set (RowF_set (RowF_set (RowF_set (RowF_set this (by omega)) (by omega)) (by omega)) (by omega)) (by omega)) (by omega)) (by omega)) (by omega)
  · go_grown

theorem intactK_same (k : Cr) (c1 c2 : Value) (lo1 hi1 lo2 hi2 : Nat) (w : World) (h1 : CopyC w lo1 hi1 c1 k.ch) (h2 : CopyC w lo2 hi2 c2 k.ch) :
    Calls Tryd.prog 42 #[.agg #[.string k.nm, .int .i64 k.x, .int .i64 k.y, .int .i64 k.h, .int .i64 k.j, .int .i64 k.b, c1], .agg #[.string k.nm, .int .i64 k.x, .int .i64 k.y, .int .i64 k.h, .int .i64 k.j, .int .i64 k.b, c2]] w fun e w' => e = .returned (.bool true) ∧ Below w.heap.size w w' := by
  obtain ⟨A1, cp1, rfl, _, _⟩ := RdP_slice (CopyC_rd h1)
  obtain ⟨A2, cp2, rfl, _, _⟩ := RdP_slice (CopyC_rd h2)
  have H1 := Lib.hid h1; clear h1
  have H2 := Lib.hid h2; clear h2
  obtain ⟨s, x, y, hh, j, b, zs⟩ := k
  dsimp only at *
  go_enter Tryd.func42, Tryd.ntmps42
  go_wp2_with fail
  refine (eqPoint_same _ _ _).mono ?_
  rintro e w1 ⟨rfl, b1⟩
  refine kept_at b1 (w.heap.size) (by go_size) fun c1_0 z1_0 s1_0 => ?_
  refine kept_at b1 (w.heap.size + 1) (by go_size) fun c1_1 z1_1 s1_1 => ?_
  replace b1 := kept_trans (a := w) (by go_grown) b1
  have l1 := kept_cell b1
  have zz1 := b1.size
  go_wp2_with fail
  refine (intactC_same _ _ zs _ _ _ _ _ (CopyC_kept H1.out (by go_grown)) (CopyC_kept H2.out (by go_grown))).mono ?_
  rintro e w2 ⟨rfl, hb2⟩
  have b2 := kept_trans (a := w) (by go_grown) hb2
  go_wp2
  go_ret
  exact ⟨rfl, b2⟩

/-- The crane is valid. -/
noncomputable def craneB (k : Cr) : Bool := nameB k.nm && (okP k.x k.y && (inB k.h 1 2000 && (inB k.j 1 1000 && (inB k.b 0 k.j && (chartB k.ch && decide (lastL k.ch ≤ k.j))))))

theorem specCrane_any (b o : Nat) (k : Cr) (c : Value) (w : World) (h : CrAt w b o k c) (hs : k.nm.size ≤ 1000000) :
    Calls Tryd.prog 93 #[.pointer (some ⟨b, o, none⟩)] w fun e w' => e = .returned (.bool (craneB k)) ∧ Below w.heap.size w w' := by
  obtain ⟨hb, ⟨c0, c1, c2, c3, c4, c5, c6⟩, hr⟩ := h
  obtain ⟨A, cp, rfl, hl, _⟩ := RdP_slice hr
  have H := Lib.hid hr; clear hr
  have HN := Lib.hid (fun u => specIsName_any k.nm u hs)
  have HC := Lib.hid (fun u (q : RdP u (.slice A k.ch.length cp) k.ch) => specChart_quiet _ _ u q)
  have HL := Lib.hid (fun u (q : RdP u (.slice A k.ch.length cp) k.ch) (n : 1 ≤ k.ch.length) => specLast_any _ _ u q n)
  have hlen : chartB k.ch = true → 1 ≤ k.ch.length := fun h => (chartB_iff.1 h).2.1
  unfold craneB
  obtain ⟨s, x, y, hh, j, bb, zs⟩ := k
  dsimp only at *
  generalize nameB s = p1 at *
  generalize chartB zs = p6 at *
  generalize lastL zs = lst at *
  cases p1
  · go_enter Tryd.func93, Tryd.ntmps93
    go_wp2_with (go_at_call 134; refine (HN.out _).mono ?_; rintro e w1 ⟨rfl, rfl⟩)
    go_ret
    exact ⟨rfl, by go_grown⟩
  cases p2 : okP x y
  · go_enter Tryd.func93, Tryd.ntmps93
    go_wp2_with (first | (go_at_call 134; refine (HN.out _).mono ?_; rintro e w1 ⟨rfl, rfl⟩) | (go_at_call 104; refine (specOk_any _ _ _).mono ?_; rintro e w1 ⟨rfl, hb⟩; have hs := hb.size; (try simp at hs); (try (refine kept_at hb (w.heap.size) ?_ (fun hc0 hz0 hs0 => ?_); focus go_size)); (try (refine kept_at hb (w.heap.size + 1) ?_ (fun hc1 hz1 hs1 => ?_); focus go_size)); (try (refine kept_at hb (w.heap.size + 2) ?_ (fun hc2 hz2 hs2 => ?_); focus go_size)); (try (refine kept_at hb (w.heap.size + 3) ?_ (fun hc3 hz3 hs3 => ?_); focus go_size)); (try (refine kept_at hb (w.heap.size + 4) ?_ (fun hc4 hz4 hs4 => ?_); focus go_size)); (try (refine kept_at hb (w.heap.size + 5) ?_ (fun hc5 hz5 hs5 => ?_); focus go_size)); replace hb := kept_trans (a := w) (by go_grown) hb; have hcl := kept_cell hb; have hzl := kept_frozen hb))
    go_ret
    exact ⟨rfl, by go_grown⟩
  cases p3 : inB hh 1 2000
  · go_enter Tryd.func93, Tryd.ntmps93
    go_wp2_with (first | (go_at_call 134; refine (HN.out _).mono ?_; rintro e w1 ⟨rfl, rfl⟩) | (go_at_call 104; refine (specOk_any _ _ _).mono ?_; rintro e w1 ⟨rfl, hb⟩; have hs := hb.size; (try simp at hs); (try (refine kept_at hb (w.heap.size) ?_ (fun hc0 hz0 hs0 => ?_); focus go_size)); (try (refine kept_at hb (w.heap.size + 1) ?_ (fun hc1 hz1 hs1 => ?_); focus go_size)); (try (refine kept_at hb (w.heap.size + 2) ?_ (fun hc2 hz2 hs2 => ?_); focus go_size)); (try (refine kept_at hb (w.heap.size + 3) ?_ (fun hc3 hz3 hs3 => ?_); focus go_size)); (try (refine kept_at hb (w.heap.size + 4) ?_ (fun hc4 hz4 hs4 => ?_); focus go_size)); (try (refine kept_at hb (w.heap.size + 5) ?_ (fun hc5 hz5 hs5 => ?_); focus go_size)); replace hb := kept_trans (a := w) (by go_grown) hb; have hcl := kept_cell hb; have hzl := kept_frozen hb) | (go_at_call 120; refine (in_any _ _ _ _).mono ?_; rintro e w1 ⟨rfl, rfl⟩))
    go_ret
    exact ⟨rfl, by go_grown⟩
  cases p4 : inB j 1 1000
  · go_enter Tryd.func93, Tryd.ntmps93
    go_wp2_with (first | (go_at_call 134; refine (HN.out _).mono ?_; rintro e w1 ⟨rfl, rfl⟩) | (go_at_call 104; refine (specOk_any _ _ _).mono ?_; rintro e w1 ⟨rfl, hb⟩; have hs := hb.size; (try simp at hs); (try (refine kept_at hb (w.heap.size) ?_ (fun hc0 hz0 hs0 => ?_); focus go_size)); (try (refine kept_at hb (w.heap.size + 1) ?_ (fun hc1 hz1 hs1 => ?_); focus go_size)); (try (refine kept_at hb (w.heap.size + 2) ?_ (fun hc2 hz2 hs2 => ?_); focus go_size)); (try (refine kept_at hb (w.heap.size + 3) ?_ (fun hc3 hz3 hs3 => ?_); focus go_size)); (try (refine kept_at hb (w.heap.size + 4) ?_ (fun hc4 hz4 hs4 => ?_); focus go_size)); (try (refine kept_at hb (w.heap.size + 5) ?_ (fun hc5 hz5 hs5 => ?_); focus go_size)); replace hb := kept_trans (a := w) (by go_grown) hb; have hcl := kept_cell hb; have hzl := kept_frozen hb) | (go_at_call 120; refine (in_any _ _ _ _).mono ?_; rintro e w1 ⟨rfl, rfl⟩))
    go_ret
    exact ⟨rfl, by go_grown⟩
  have HK : ∀ u, Below w.heap.size w u → u.cell? ⟨b, o + 4, none⟩ = some (.int .i64 j) ∧ u.cell? ⟨b, o + 5, none⟩ = some (.int .i64 bb) ∧ u.cell? ⟨b, o + 6, none⟩ = some (.slice A zs.length cp) ∧ u.cell? ⟨b, o + 3, none⟩ = some (.int .i64 hh) ∧ RdP u (.slice A zs.length cp) zs :=
    fun u q => ⟨by rw [kept_cell q b _ hb]; exact c4, by rw [kept_cell q b _ hb]; exact c5, by rw [kept_cell q b _ hb]; exact c6, by rw [kept_cell q b _ hb]; exact c3, RdP_kept H.out q⟩
  have HK := Lib.hid HK
  go_enter Tryd.func93, Tryd.ntmps93
  go_wp2_with (go_at_call 134; refine (HN.out _).mono ?_; rintro e w1 ⟨rfl, rfl⟩)
  refine (specOk_any _ _ _).mono ?_
  rw [p2]
  rintro e w1 ⟨rfl, b1⟩
  obtain ⟨d4, d5, d6, d3, dr⟩ := HK.out w1 b1
  go_wp2_with (go_at_call 120; refine (in_any _ _ _ _).mono ?_; rintro e w1 ⟨rfl, rfl⟩)
  have HI := fun u => in_any bb 0 j u
  have HB := Lib.hid b1
  cases p5 : inB bb 0 j <;> rw [p5] at HI <;> have HI := Lib.hid HI
  · go_quiet (first | (go_at_call 120; exact Calls.quiet_of_same ((HI.out _).mono fun e w' h => ⟨h.1, h.2.symm⟩)) | (go_at_call 119; exact Calls.quiet_of (HC.out _ (RdP_kept dr (kept_drewN (Below.refl _ _) _)))) | (go_at_call 135; exact Calls.quiet_of_same ((HL.out _ (RdP_kept dr (kept_drewN (Below.refl _ _) _)) hlen).mono fun e w' h => ⟨h.1, h.2.symm⟩)))
    go_wp2
    go_ret
    exact ⟨by simp [p5], kept_drewN HB.out _⟩
  cases p6
  · go_quiet (first | (go_at_call 120; exact Calls.quiet_of_same ((HI.out _).mono fun e w' h => ⟨h.1, h.2.symm⟩)) | (go_at_call 119; exact Calls.quiet_of (HC.out _ (RdP_kept dr (kept_drewN (Below.refl _ _) _)))) | (go_at_call 135; exact Calls.quiet_of_same ((HL.out _ (RdP_kept dr (kept_drewN (Below.refl _ _) _)) hlen).mono fun e w' h => ⟨h.1, h.2.symm⟩)))
    go_wp2
    go_ret
    exact ⟨by simp [p5], kept_drewN HB.out _⟩
  have hlen := hlen rfl
  by_cases p7 : lst ≤ j
  · go_quiet (first | (go_at_call 120; exact Calls.quiet_of_same ((HI.out _).mono fun e w' h => ⟨h.1, h.2.symm⟩)) | (go_at_call 119; exact Calls.quiet_of (HC.out _ (RdP_kept dr (kept_drewN (Below.refl _ _) _)))) | (go_at_call 135; exact Calls.quiet_of_same ((HL.out _ (RdP_kept dr (kept_drewN (Below.refl _ _) _)) hlen).mono fun e w' h => ⟨h.1, h.2.symm⟩)))
    go_wp2
    go_ret
    exact ⟨by simp [p5, p7], kept_drewN HB.out _⟩
  · have p8 : decide (lst ≤ j) = false := by simp [p7]
    go_quiet (first | (go_at_call 120; exact Calls.quiet_of_same ((HI.out _).mono fun e w' h => ⟨h.1, h.2.symm⟩)) | (go_at_call 119; exact Calls.quiet_of (HC.out _ (RdP_kept dr (kept_drewN (Below.refl _ _) _)))) | (go_at_call 135; exact Calls.quiet_of_same ((HL.out _ (RdP_kept dr (kept_drewN (Below.refl _ _) _)) hlen).mono fun e w' h => ⟨h.1, h.2.symm⟩)))
    go_wp2
    go_ret
    exact ⟨by simp [p5, p7], kept_drewN HB.out _⟩

set_option maxHeartbeats 4000000 in
theorem implCrane_in (s : ByteArray) (x y hh j bb : Int) (A : Option Addr) (zs : List (Int × Int)) (cp : Nat) (lst : Int) (w : World) (g1 : 1 ≤ hh ∧ hh ≤ 2000) (g2 : 1 ≤ j ∧ j ≤ 1000) (g3 : 0 ≤ bb ∧ bb ≤ j) (hlen : 1 ≤ zs.length)
    (H : Hid (RdP w (.slice A zs.length cp) zs))
    (HN : Hid (∀ u, Calls Tryd.prog 124 #[.string s] u fun e w' => e = .returned (.bool true) ∧ Below u.heap.size u w'))
    (HP : Hid (∀ u, Calls Tryd.prog 85 #[.agg #[.int .i64 x, .int .i64 y]] u fun e w' => e = .returned (.bool true) ∧ Below u.heap.size u w'))
    (HC : Hid (∀ u, RdP u (.slice A zs.length cp) zs → Calls Tryd.prog 16 #[.slice A zs.length cp] u fun e w' => e = .returned (.bool true) ∧ Below u.heap.size u w'))
    (HL : Hid (∀ u, RdP u (.slice A zs.length cp) zs → 1 ≤ zs.length → Calls Tryd.prog 61 #[.slice A zs.length cp] u fun e w' => e = .returned (.int .i64 lst) ∧ u = w')) :
    Calls Tryd.prog 69 #[.agg #[.string s, .int .i64 x, .int .i64 y, .int .i64 hh, .int .i64 j, .int .i64 bb, .slice A zs.length cp]] w fun e w' => e = .returned (.bool (decide (lst ≤ j))) ∧ Below w.heap.size w w' := by
  go_enter Tryd.func69, Tryd.ntmps69
  go_wp2_with fail
  refine (HN.out _).mono ?_
  rintro e w1 ⟨rfl, b1⟩
  refine kept_at b1 (w.heap.size) (by go_size) fun c1_0 z1_0 s1_0 => ?_
  replace b1 := kept_trans (a := w) (by go_grown) b1
  have l1 := kept_cell b1
  have zz1 := b1.size
  go_wp2_with fail
  refine (HP.out _).mono ?_
  rintro e w2 ⟨rfl, b2⟩
  refine kept_at b2 (w.heap.size) (by go_size) fun c2_0 z2_0 s2_0 => ?_
  replace b2 := kept_trans (a := w) (by go_grown) b2
  have l2 := kept_cell b2
  have zz2 := b2.size
  go_wp2_with fail
  first
    | go_region_with (first | (go_at_call 16; (refine (HC.out _ (RdP_kept H.out (by go_grown))).mono ?_; rintro e w3 ⟨rfl, b3⟩; refine kept_at b3 w.heap.size (by go_size) fun c3_0 z3_0 s3_0 => ?_; have b4 := kept_trans (a := w) (by go_grown) b3)) | (go_at_call 61; (refine (HL.out _ (RdP_kept H.out (by go_grown)) hlen).mono ?_; rintro e w5 ⟨rfl, rfl⟩)))
    | fail
  all_goals
    go_wp2
    go_ret
    exact ⟨rfl, by go_grown⟩

set_option maxHeartbeats 4000000 in
theorem implCrane_any (k : Cr) (c : Value) (w : World) (hr : RdP w c k.ch) (hs : k.nm.size ≤ 1000000) :
    Calls Tryd.prog 69 #[.agg #[.string k.nm, .int .i64 k.x, .int .i64 k.y, .int .i64 k.h, .int .i64 k.j, .int .i64 k.b, c]] w fun e w' => e = .returned (.bool (craneB k)) ∧ Below w.heap.size w w' := by
  obtain ⟨A, cp, rfl, hl, _⟩ := RdP_slice hr
  have H := Lib.hid hr; clear hr
  have HN := Lib.hid (fun u => implIsName_any k.nm u hs)
  have HC := Lib.hid (fun u (q : RdP u (.slice A k.ch.length cp) k.ch) => implChart_any _ _ u q)
  have HL := Lib.hid (fun u (q : RdP u (.slice A k.ch.length cp) k.ch) (n : 1 ≤ k.ch.length) => last_any _ _ u q n)
  have hlen : chartB k.ch = true → 1 ≤ k.ch.length := fun h => (chartB_iff.1 h).2.1
  unfold craneB
  obtain ⟨s, x, y, hh, j, bb, zs⟩ := k
  dsimp only at *
  generalize nameB s = p1 at *
  generalize chartB zs = p6 at *
  generalize lastL zs = lst at *
  cases p1
  · go_enter Tryd.func69, Tryd.ntmps69
    go_wp2_with fail
    refine (HN.out _).mono ?_
    rintro e w1 ⟨rfl, b1⟩
    refine kept_at b1 (w.heap.size) (by go_size) fun c1_0 z1_0 s1_0 => ?_
    replace b1 := kept_trans (a := w) (by go_grown) b1
    have l1 := kept_cell b1
    have zz1 := b1.size
    go_wp2
    go_ret
    exact ⟨rfl, b1⟩
  have HP := fun u => validPlace_any x y u
  cases p2 : okP x y <;> rw [p2] at HP <;> have HP := Lib.hid HP
  · go_enter Tryd.func69, Tryd.ntmps69
    go_wp2_with fail
    refine (HN.out _).mono ?_
    rintro e w1 ⟨rfl, b1⟩
    refine kept_at b1 (w.heap.size) (by go_size) fun c1_0 z1_0 s1_0 => ?_
    replace b1 := kept_trans (a := w) (by go_grown) b1
    have l1 := kept_cell b1
    have zz1 := b1.size
    go_wp2_with fail
    refine (HP.out _).mono ?_
    rintro e w2 ⟨rfl, b2⟩
    refine kept_at b2 (w.heap.size) (by go_size) fun c2_0 z2_0 s2_0 => ?_
    replace b2 := kept_trans (a := w) (by go_grown) b2
    have l2 := kept_cell b2
    have zz2 := b2.size
    go_wp2
    go_ret
    exact ⟨rfl, b2⟩
  rcases (show (¬ 1 ≤ hh) ∨ (1 ≤ hh ∧ ¬ hh ≤ 2000) ∨ (1 ≤ hh ∧ hh ≤ 2000 ∧ ¬ 1 ≤ j) ∨ (1 ≤ hh ∧ hh ≤ 2000 ∧ 1 ≤ j ∧ ¬ j ≤ 1000) ∨ (1 ≤ hh ∧ hh ≤ 2000 ∧ 1 ≤ j ∧ j ≤ 1000 ∧ ¬ 0 ≤ bb) ∨ (1 ≤ hh ∧ hh ≤ 2000 ∧ 1 ≤ j ∧ j ≤ 1000 ∧ 0 ≤ bb ∧ ¬ bb ≤ j) ∨ (1 ≤ hh ∧ hh ≤ 2000 ∧ 1 ≤ j ∧ j ≤ 1000 ∧ 0 ≤ bb ∧ bb ≤ j) from by omega) with g | g | g | g | g | g | g
  case inr.inr.inr.inr.inr.inr =>
    obtain ⟨g1, g2, g3, g4, g5, g6⟩ := g
    have E : (true && (true && (inB hh 1 2000 && (inB j 1 1000 && (inB bb 0 j && (p6 && decide (lst ≤ j))))))) = (p6 && decide (lst ≤ j)) := by simp [inB, g1, g2, g3, g4, g5, g6]
    rw [E]
    clear E
    cases p6
    · go_enter Tryd.func69, Tryd.ntmps69
      go_wp2_with fail
      refine (HN.out _).mono ?_
      rintro e w1 ⟨rfl, b1⟩
      refine kept_at b1 (w.heap.size) (by go_size) fun c1_0 z1_0 s1_0 => ?_
      replace b1 := kept_trans (a := w) (by go_grown) b1
      have l1 := kept_cell b1
      have zz1 := b1.size
      go_wp2_with fail
      refine (HP.out _).mono ?_
      rintro e w2 ⟨rfl, b2⟩
      refine kept_at b2 (w.heap.size) (by go_size) fun c2_0 z2_0 s2_0 => ?_
      replace b2 := kept_trans (a := w) (by go_grown) b2
      have l2 := kept_cell b2
      have zz2 := b2.size
      go_wp2_with fail
      first
        | go_region_with ((go_at_call 16; refine (HC.out _ (RdP_kept H.out (by go_grown))).mono ?_; rintro e w3 ⟨rfl, b3⟩))
        | fail
      all_goals
        go_wp2
        go_ret
        exact ⟨rfl, kept_trans (a := w) (by go_grown) b3⟩
    · rw [Bool.true_and]
      exact implCrane_in s x y hh j bb A zs cp lst w ⟨g1, g2⟩ ⟨g3, g4⟩ ⟨g5, g6⟩ (hlen rfl) H HN HP HC HL
  all_goals
    have E : (true && (true && (inB hh 1 2000 && (inB j 1 1000 && (inB bb 0 j && (p6 && decide (lst ≤ j))))))) = false := by simp [inB, g]
    rw [E]
    clear E
    go_enter Tryd.func69, Tryd.ntmps69
    go_wp2_with fail
    refine (HN.out _).mono ?_
    rintro e w1 ⟨rfl, b1⟩
    refine kept_at b1 (w.heap.size) (by go_size) fun c1_0 z1_0 s1_0 => ?_
    replace b1 := kept_trans (a := w) (by go_grown) b1
    have l1 := kept_cell b1
    have zz1 := b1.size
    go_wp2_with fail
    refine (HP.out _).mono ?_
    rintro e w2 ⟨rfl, b2⟩
    refine kept_at b2 (w.heap.size) (by go_size) fun c2_0 z2_0 s2_0 => ?_
    replace b2 := kept_trans (a := w) (by go_grown) b2
    have l2 := kept_cell b2
    have zz2 := b2.size
    go_wp2
    go_ret
    exact ⟨rfl, b2⟩

theorem craneB_true {k : Cr} (h : craneB k = true) : okP k.x k.y = true ∧ (1 ≤ k.h ∧ k.h ≤ 2000) ∧ (1 ≤ k.j ∧ k.j ≤ 1000) ∧ (0 ≤ k.b ∧ k.b ≤ k.j) ∧ ChartP k.ch ∧ lastL k.ch ≤ k.j ∧ nameB k.nm = true := by
  simp only [craneB, Bool.and_eq_true, decide_eq_true_eq] at h
  obtain ⟨h1, h2, h3, h4, h5, h6, h7⟩ := h
  exact ⟨h2, inB_true h3, inB_true h4, inB_true h5, chartB_iff.1 h6, h7, h1⟩

/-- The measure of a list of cranes, beside its length. -/
def totK : List (Cr × Value) → Nat
  | [] => 0
  | p :: ks => p.1.nm.size + p.1.ch.length + totK ks

theorem totK_step (ks : List (Cr × Value)) (i : Nat) (h : i < ks.length) : totK (ks.drop i) = ks[i].1.nm.size + ks[i].1.ch.length + totK (ks.drop (i + 1)) := by
  rw [List.drop_eq_getElem_cons h]
  rfl

theorem szKs_any (v : Value) (ks : List (Cr × Value)) (left : Int) (w : World) (h : RdK w v ks) (hl : 0 ≤ left ∧ left ≤ 1000000) (hw : ∀ p ∈ ks, wfK p.1) :
    Calls Tryd.prog 89 #[v, .int .i64 left] w fun e w' => e = .returned (.int .i64 (if (ks.length : Int) + totK ks ≤ left then left - ks.length - totK ks else -1)) ∧ Below w.heap.size w w' := by
  obtain ⟨A, c, rfl, hln, r⟩ := RdK_at h
  clear h
  by_cases h1 : left < (ks.length : Int)
  · rw [if_neg (by omega)]
    go_enter Tryd.func89, Tryd.ntmps89
    go_wp2
    go_ret
    exact ⟨rfl, Below.refl _ _⟩
  have R := Lib.hid r; clear r
  have HW := Lib.hid hw; clear hw
  have HS := Lib.hid (fun i (hi : i < ks.length) => totK_step ks i hi)
  have hd0 : totK (ks.drop 0) = totK ks := by simp
  have hdn : totK (ks.drop ks.length) = 0 := by simp [totK]
  have HD0 := Lib.hid hd0; clear hd0
  have HDN := Lib.hid hdn; clear hdn
  go_enter Tryd.func89, Tryd.ntmps89
  go_wp2_with fail
  go_loopw [1, 5] (fun q i wr => ∃ (j : Nat) (l : Int), j ≤ ks.length ∧ i = .int .i64 j ∧ q = .int .i64 l ∧ 0 ≤ l ∧ l ≤ 1000000 ∧ l - totK (ks.drop j) = left - ks.length - totK ks ∧ Below w.heap.size w wr) (fun _ i _ => ks.length - (intOf i).toNat)
  case atStart => exact ⟨0, left - ks.length, by omega, rfl, by simp [IntWalk.i64_in, IntWalk.wrap64_in, *] <;> omega, by omega, by omega, by rw [HD0.out], Below.refl _ _⟩
  case round =>
    obtain ⟨j, l, hj, rfl, rfl, h0, h1, heq, hb⟩ := hrel
    by_cases hlt : j < ks.length
    · obtain ⟨b, off, rfl, hk⟩ := R.out j hlt
      have hs := HS.out j hlt
      have hwk := (HW.out ks[j] (List.getElem_mem hlt)).1
      have hk := CrAt_kept hk hb
      generalize ks[j].1 = k at *
      generalize ks[j].2 = cv at *
      obtain ⟨hlb, ⟨c0, c1, c2, c3, c4, c5, c6⟩, hr⟩ := hk
      obtain ⟨A2, cp2, rfl, _, _⟩ := RdP_slice hr
      have HZ := Lib.hid (szK_any k (.slice A2 k.ch.length cp2) l ⟨h0, h1⟩ hwk wr hr)
      clear hr
      have hszk : szK k l = if (k.nm.size : Int) + (k.ch.length : Int) ≤ l then l - k.nm.size - k.ch.length else -1 := rfl
      generalize szK k l = z at *
      by_cases hz : (k.nm.size : Int) + (k.ch.length : Int) ≤ l
      · rw [if_pos hz] at hszk
        have hz0 : ¬ z < 0 := by omega
        go_wp2_with fail
        refine HZ.out.mono ?_
        rintro e w1 ⟨rfl, hb1⟩
        go_wp2
        go_roundw
        case rel => exact ⟨j + 1, _, by omega, by go_num, rfl, by omega, by omega, by omega, kept_trans hb hb1⟩
        case measure => simp [intOf]; omega
      · rw [if_neg hz] at hszk
        subst hszk
        go_wp2_with fail
        refine HZ.out.mono ?_
        rintro e w1 ⟨rfl, hb1⟩
        go_wp2
        go_ret
        exact ⟨by first | rfl | rw [if_neg (by omega)], kept_trans hb hb1⟩
    · have : j = ks.length := by omega
      subst this
      rw [HDN.out] at heq
      go_wp2
      go_ret
      have hE : (if (ks.length : Int) + (totK ks : Nat) ≤ left then left - (ks.length : Int) - (totK ks : Nat) else -1) = l := by rw [if_pos (by omega)]; omega
      exact ⟨by first | (rw [hE]; rfl) | (rw [show left - (ks.length : Int) - (totK ks : Nat) = l by omega]; rfl), hb⟩

def fillK : Cr := ⟨⟨#[126, 115, 112, 97, 114, 101, 126]⟩, -7000000000000000101, -7000000000000000101, -7000000000000000101, -7000000000000000101, -7000000000000000101, [fillP]⟩

theorem fillPoint_any (w : World) :
    Calls Tryd.prog 156 #[] w fun e w' => e = .returned (.agg #[.int .i64 (-7000000000000000101), .int .i64 (-7000000000000000101)]) ∧ Below w.heap.size w w' := by
  go_enter Tryd.func156, Tryd.ntmps156
  go_wp2
  go_returns
  exact ⟨rfl, by go_grown⟩

set_option maxHeartbeats 4000000 in
theorem fillK_any (w : World) :
    Calls Tryd.prog 133 #[] w fun e w' => ∃ c', e = .returned (.agg #[.string ⟨#[126, 115, 112, 97, 114, 101, 126]⟩, .int .i64 (-7000000000000000101), .int .i64 (-7000000000000000101), .int .i64 (-7000000000000000101), .int .i64 (-7000000000000000101), .int .i64 (-7000000000000000101), c']) ∧ RowF 33 2 w' w.heap.size w'.heap.size c' 1 (flatP [fillP]) ∧ Below w.heap.size w w' := by
  have HR := Lib.hid (fun (u : World) => World.ownsRow_lit (base := w.heap.size) u (e := 33) (size := 2) #[.int .i64 (-7000000000000000101), .int .i64 (-7000000000000000101)] 1)
  have hq := fun u => fillStep_any u
  simp only [fillP] at hq
  have HQ := Lib.hid hq; clear hq
  go_enter Tryd.func133, Tryd.ntmps133
  go_wp2_with fail
  refine (fillPoint_any _).mono ?_
  rintro e w1 ⟨rfl, b1⟩
  refine kept_at b1 (w.heap.size) (by go_size) fun c1_0 z1_0 s1_0 => ?_
  replace b1 := kept_trans (a := w) (by go_grown) b1
  have l1 := kept_cell b1
  have zz1 := b1.size
  go_wp2_with fail
  refine (HQ.out _).mono ?_
  rintro e w2 ⟨rfl, b2⟩
  refine kept_at b2 (w.heap.size) (by go_size) fun c2_0 z2_0 s2_0 => ?_
  replace b2 := kept_trans (a := w) (by go_grown) b2
  have l2 := kept_cell b2
  have zz2 := b2.size
  clear HQ
  go_simp
  go_step
  go_step
  go_simp
  go_step
  go_step
  go_simp
  go_step
  go_step
  go_simp
  repeat go_step
  (try simp only [Exit.inBlock, Exit.then])
  refine bodyPost_ret (v := .agg #[.string ⟨#[126, 115, 112, 97, 114, 101, 126]⟩, .int .i64 (-7000000000000000101), .int .i64 (-7000000000000000101), .int .i64 (-7000000000000000101), .int .i64 (-7000000000000000101), .int .i64 (-7000000000000000101), .slice (some ⟨w2.heap.size, 0, none⟩) 1 1]) ?_ rfl ⟨_, rfl, ?_, ?_⟩
  · rw [results_cell1 rfl]
    go_simp
  · suffices h : ∀ X : World, X.heap.size = w2.heap.size → RowF 33 2 (X.alloc (.cells #[.int .i64 (-7000000000000000101), .int .i64 (-7000000000000000101)] 33)) w.heap.size (X.alloc (.cells #[.int .i64 (-7000000000000000101), .int .i64 (-7000000000000000101)] 33)).heap.size (.slice (some ⟨w2.heap.size, 0, none⟩) 1 1) 1 (flatP [fillP]) from h _ (by simp)
    intro X hX
    have h := HR.out X (by omega) (by unfold maxLen; omega) (by simp)
    rw [hX] at h
    refine ⟨by simpa [flatP, encP, fillP] using h, fun g hg => ?_⟩
    simp [Value.ownBlock] at hg
    subst hg
    simp
    omega
  · go_grown

def zeroK : Cr × Value := (⟨⟨#[]⟩, 0, 0, 0, 0, 0, []⟩, .slice none 0 0)

/-- The block of a slice. -/
def blkOf : Value → Nat
  | .slice (some a) _ _ => a.block
  | _ => 0

theorem info_crane : (Tryd.prog.info? 44).map (fun i => (i.zero, i.size, i.bytes)) = some (some (.agg #[.string ⟨#[]⟩, .int .i64 0, .int .i64 0, .int .i64 0, .int .i64 0, .int .i64 0, .slice none 0 0]), 7, 80) := by kernel_rfl

theorem make_cranes (n : Nat) (h : n ≤ 4000000) (w : World) :
    (Instr.makeSlice 37 (.int .i64 (n : Int)) (.int .i64 (n : Int))).run Tryd.prog w = .ok (.slice (some ⟨w.heap.size, 0, none⟩) n n) (w.alloc (.cells (madeCells #[.string ⟨#[]⟩, .int .i64 0, .int .i64 0, .int .i64 0, .int .i64 0, .int .i64 0, .slice none 0 0] (n * 7)) 44)) := by
  obtain ⟨i, hi, hz, hs, hb⟩ := info_parts info_crane
  have hb' : (i.bytes : Int) * (n : Int) ≤ 281474976710656 := by rw [hb]; omega
  have hr := run_make (P := Tryd.prog) w 37 44 i (.agg #[.string ⟨#[]⟩, .int .i64 0, .int .i64 0, .int .i64 0, .int .i64 0, .int .i64 0, .slice none 0 0]) Tryd.underlying37 hi hz .i64 .i64 n n (by omega) (Int.le_refl _) hb' (by omega)
  simp only [Int.toNat_natCast, hs] at hr
  exact hr

theorem madeK_flat (n : Nat) : (madeCells #[.string ⟨#[]⟩, .int .i64 0, .int .i64 0, .int .i64 0, .int .i64 0, .int .i64 0, .slice none 0 0] (n * 7)).toList = flatK (List.replicate n zeroK) := by
  apply List.ext_getElem?
  intro j
  by_cases hj : j < n * 7
  · have h := flatK_at (List.replicate n zeroK) (j / 7) (j % 7) (by simp; omega) (by omega)
    rw [show j / 7 * 7 + j % 7 = j by omega, List.getElem_replicate] at h
    rw [h]
    have hm := Nat.mod_lt j (show 0 < 7 by omega)
    rcases (show j % 7 = 0 ∨ j % 7 = 1 ∨ j % 7 = 2 ∨ j % 7 = 3 ∨ j % 7 = 4 ∨ j % 7 = 5 ∨ j % 7 = 6 by omega) with hp | hp | hp | hp | hp | hp | hp <;> simp [madeCells, hj, hp, encK, zeroK]
  · rw [List.getElem?_eq_none (by rw [Array.length_toList, size_madeCells]; omega), List.getElem?_eq_none (by rw [flatK_len]; simp; omega)]

theorem flatK_set (L : List (Cr × Value)) (j : Nat) (p : Cr × Value) :
    ((((((((flatK L).set (j * 7) (.string p.1.nm)).set (j * 7 + 1) (.int .i64 p.1.x)).set (j * 7 + 2) (.int .i64 p.1.y)).set (j * 7 + 3) (.int .i64 p.1.h)).set (j * 7 + 4) (.int .i64 p.1.j)).set (j * 7 + 5) (.int .i64 p.1.b)).set (j * 7 + 6) p.2) = flatK (L.set j p) := by
  induction L generalizing j with
  | nil => simp [flatK]
  | cons z L ih =>
    cases j with
    | zero => simp [flatK, encK]
    | succ j =>
      have := ih j
      simp only [flatK, encK, List.flatMap_cons, List.cons_append, List.nil_append, Nat.succ_mul, List.set_cons_succ] at this ⊢
      rw [← this]

/-- A crane is stored in a row, cell by cell. -/
def setK7 (w : World) (g o : Nat) (p : Cr × Value) : World :=
  (((((((w.setCell ⟨g, o, none⟩ (.string p.1.nm)).setCell ⟨g, o + 1, none⟩ (.int .i64 p.1.x)).setCell ⟨g, o + 2, none⟩ (.int .i64 p.1.y)).setCell ⟨g, o + 3, none⟩ (.int .i64 p.1.h)).setCell ⟨g, o + 4, none⟩ (.int .i64 p.1.j)).setCell ⟨g, o + 5, none⟩ (.int .i64 p.1.b)).setCell ⟨g, o + 6, none⟩ p.2)

theorem row_setK7 {w : World} {base g n cap : Nat} {L : List (Cr × Value)} (h : w.ownsRow base 44 7 (.slice (some ⟨g, 0, none⟩) n cap) n (flatK L)) (j : Nat) (p : Cr × Value) :
    (setK7 w g (j * 7) p).ownsRow base 44 7 (.slice (some ⟨g, 0, none⟩) n cap) n (flatK (L.set j p)) ∧ w.grownBy (setK7 w g (j * 7) p) (some g) := by
  have h0 := h.stored (j * 7) (.string p.1.nm)
  have h1 := h0.1.stored (j * 7 + 1) (.int .i64 p.1.x)
  have h2 := h1.1.stored (j * 7 + 2) (.int .i64 p.1.y)
  have h3 := h2.1.stored (j * 7 + 3) (.int .i64 p.1.h)
  have h4 := h3.1.stored (j * 7 + 4) (.int .i64 p.1.j)
  have h5 := h4.1.stored (j * 7 + 5) (.int .i64 p.1.b)
  have h6 := h5.1.stored (j * 7 + 6) p.2
  rw [flatK_set] at h6
  exact ⟨h6.1, grown_step h0.2 (grown_step h1.2 (grown_step h2.2 (grown_step h3.2 (grown_step h4.2 (grown_step h5.2 h6.2)))))⟩

theorem row_cellsK {w : World} {base g n cap : Nat} {L : List (Cr × Value)} (h : w.ownsRow base 44 7 (.slice (some ⟨g, 0, none⟩) n cap) n (flatK L)) (j : Nat) (hj : j < n) :
    ∃ u0 u1 u2 u3 u4 u5 u6, w.cell? ⟨g, j * 7, none⟩ = some u0 ∧ w.cell? ⟨g, j * 7 + 1, none⟩ = some u1 ∧ w.cell? ⟨g, j * 7 + 2, none⟩ = some u2 ∧ w.cell? ⟨g, j * 7 + 3, none⟩ = some u3 ∧ w.cell? ⟨g, j * 7 + 4, none⟩ = some u4 ∧ w.cell? ⟨g, j * 7 + 5, none⟩ = some u5 ∧ w.cell? ⟨g, j * 7 + 6, none⟩ = some u6 := by
  have hl : (flatK L).length = n * 7 := h.1
  have at_ : ∀ o, o < n * 7 → ∃ u, w.cell? ⟨g, o, none⟩ = some u := fun o ho => ⟨_, by rw [h.cellAt o ho]; exact List.getElem?_eq_getElem (by omega)⟩
  obtain ⟨u0, h0⟩ := at_ (j * 7) (by omega)
  obtain ⟨u1, h1⟩ := at_ (j * 7 + 1) (by omega)
  obtain ⟨u2, h2⟩ := at_ (j * 7 + 2) (by omega)
  obtain ⟨u3, h3⟩ := at_ (j * 7 + 3) (by omega)
  obtain ⟨u4, h4⟩ := at_ (j * 7 + 4) (by omega)
  obtain ⟨u5, h5⟩ := at_ (j * 7 + 5) (by omega)
  obtain ⟨u6, h6⟩ := at_ (j * 7 + 6) (by omega)
  exact ⟨u0, u1, u2, u3, u4, u5, u6, h0, h1, h2, h3, h4, h5, h6⟩

/-- A copy of a list of cranes that the law made; Q: what is known of each chart, ρ: of two of them. -/
def SiteQ (Q : World → Nat → Nat → Cr → Value → Prop) (ρ : Value → Value → Prop) (w : World) (lo hi : Nat) (v : Value) (ks : List Cr) : Prop :=
  ks.length ≤ 1000000 ∧ ∃ (g : Nat) (T S : List (Cr × Value)), v = .slice (some ⟨g, 0, none⟩) ks.length (T ++ S).length ∧ lo ≤ g ∧ T.map (·.1) = ks ∧ S.map (·.1) = List.replicate (roomL ks.length) fillK ∧
    RowF 44 7 w lo hi (.slice (some ⟨g, 0, none⟩) (T ++ S).length (T ++ S).length) (T ++ S).length (flatK (T ++ S)) ∧ (∀ p ∈ T, Q w (g + 1) hi p.1 p.2) ∧ (∀ p ∈ S, RowF 33 2 w (g + 1) hi p.2 1 (flatP [fillP])) ∧ T.Pairwise (fun p q => ρ p.2 q.2)

theorem set_mid {α : Type} (T : List α) (z p : α) (m : Nat) : (T ++ List.replicate (m + 1) z).set T.length p = (T ++ [p]) ++ List.replicate m z := by
  rw [List.set_append_right _ _ (Nat.le_refl _), Nat.sub_self, List.replicate_succ, List.set_cons_zero, List.append_assoc]
  rfl

/-- What a chart's predicate must bear. -/
structure ChartQ (Q : World → Nat → Nat → Cr → Value → Prop) : Prop where
  set : ∀ {w : World} {lo hi : Nat} {k : Cr} {c : Value} (b o : Nat) (u : Value), Q w lo hi k c → b < lo → Q (w.setCell ⟨b, o, none⟩ u) lo hi k c
  kept : ∀ {W w1 : World} {lo hi : Nat} {k : Cr} {c : Value}, Q W lo hi k c → Below W.heap.size W w1 → Q w1 lo hi k c
  wide : ∀ {w : World} {lo lo' hi hi' : Nat} {k : Cr} {c : Value}, Q w lo hi k c → lo' ≤ lo → hi ≤ hi' → Q w lo' hi' k c
  form : ∀ {w : World} {lo hi : Nat} {k : Cr} {c : Value}, Q w lo hi k c → ∃ A n cp, c = .slice A n cp

theorem ChartQ_setK7 {Q : World → Nat → Nat → Cr → Value → Prop} (q : ChartQ Q) {w : World} {lo hi g o : Nat} {k : Cr} {c : Value} {p : Cr × Value} (h : Q w lo hi k c) (hb : g < lo) : Q (setK7 w g o p) lo hi k c :=
  q.set _ _ _ (q.set _ _ _ (q.set _ _ _ (q.set _ _ _ (q.set _ _ _ (q.set _ _ _ (q.set _ _ _ h hb) hb) hb) hb) hb) hb) hb

/-- The chart of a filler. -/
def fillQ (w : World) (lo hi : Nat) (_ : Cr) (c : Value) : Prop := RowF 33 2 w lo hi c 1 (flatP [fillP])

theorem fillQ_ok : ChartQ fillQ where
  set := fun b o u h hb => RowF_set h hb
  kept := fun h hb => RowF_kept h hb
  wide := fun h hl hh => RowF_lo h hl hh
  form := fun h => by
    rcases RowF_form h with ⟨h1, _, _⟩ | ⟨g, cap, e, _⟩
    · cases h1
    · exact ⟨_, _, _, e⟩

set_option maxHeartbeats 1000000 in
set_option maxRecDepth 100000 in
theorem toKs_gen (bare : Bool) (Q : World → Nat → Nat → Cr → Value → Prop) (ρ : Value → Value → Prop) (q : ChartQ Q)
    (qρ : ∀ (w w' : World) (lo hi lo' hi' : Nat) (k k' : Cr) (c c' : Value), Q w lo hi k c → Q w' lo' hi' k' c' → hi ≤ lo' → ρ c c')
    (qto : ∀ (k : Cr) (c : Value) (u : World), RdP u c k.ch → k.ch.length ≤ 1000000 → Calls Tryd.prog 40 #[.agg #[.string k.nm, .int .i64 k.x, .int .i64 k.y, .int .i64 k.h, .int .i64 k.j, .int .i64 k.b, c], .bool bare] u fun e w' => ∃ c', e = .returned (.agg #[.string k.nm, .int .i64 k.x, .int .i64 k.y, .int .i64 k.h, .int .i64 k.j, .int .i64 k.b, c']) ∧ Q w' u.heap.size w'.heap.size k c' ∧ Below u.heap.size u w')
    (v : Value) (ks : List (Cr × Value)) (w : World) (h : RdK w v ks) (hn : ks.length ≤ 1000000) (hbare : bare = false ∨ ks ≠ []) (hch : ∀ p ∈ ks, p.1.ch.length ≤ 1000000) :
    Calls Tryd.prog 90 #[v, .bool bare] w fun e w' => ∃ v', e = .returned v' ∧ SiteQ Q ρ w' w.heap.size w'.heap.size v' (ks.map (·.1)) ∧ Below w.heap.size w w' := by
  obtain ⟨A, c, rfl, hl, r1⟩ := RdK_at h
  clear h
  have R := Lib.hid r1; clear r1
  have hr := roomL_le ks.length
  obtain ⟨N, hN⟩ : ∃ N, N = ks.length + roomL ks.length := ⟨_, rfl⟩
  have hmk : ∀ w : World, (Instr.makeSlice 37 (.int .i64 ((ks.length : Int) + (roomL ks.length : Int))) (.int .i64 ((ks.length : Int) + (roomL ks.length : Int)))).run Tryd.prog w = .ok (.slice (some ⟨w.heap.size, 0, none⟩) N N) (w.alloc (.cells (madeCells #[.string ⟨#[]⟩, .int .i64 0, .int .i64 0, .int .i64 0, .int .i64 0, .int .i64 0, .slice none 0 0] (N * 7)) 44)) := by
    intro w
    have := make_cranes N (by omega) w
    rwa [show ((N : Nat) : Int) = (ks.length : Int) + (roomL ks.length : Int) by omega] at this
  have hcap : N ≤ maxLen := by unfold maxLen; omega
  have hrow0 : ∀ wa : World, w.heap.size ≤ wa.heap.size → (wa.alloc (.cells (madeCells #[.string ⟨#[]⟩, .int .i64 0, .int .i64 0, .int .i64 0, .int .i64 0, .int .i64 0, .slice none 0 0] (N * 7)) 44)).ownsRow w.heap.size 44 7 (.slice (some ⟨wa.heap.size, 0, none⟩) N N) N (flatK ([] ++ List.replicate N zeroK)) := by
    intro wa hwa
    have := World.ownsRow_lit wa (e := 44) (size := 7) (madeCells #[.string ⟨#[]⟩, .int .i64 0, .int .i64 0, .int .i64 0, .int .i64 0, .int .i64 0, .slice none 0 0] (N * 7)) N hwa hcap (size_madeCells _ _)
    rw [madeK_flat] at this
    simpa using this
  have Hrow := Lib.hid hrow0; clear hrow0
  have hb0 : bare = true → ((ks.length : Int) == 0) = false := by
    intro hb
    have : ks.length ≠ 0 := fun h => by
      rcases hbare with h1 | h1
      · rw [hb] at h1; cases h1
      · exact h1 (List.eq_nil_of_length_eq_zero h)
    simpa using this
  clear hbare
  have HN := Lib.hid hN
  have hNb : N ≤ 2000002 ∧ ks.length ≤ N ∧ 0 < N := by
    refine ⟨by omega, by omega, ?_⟩
    rcases Nat.eq_zero_or_pos ks.length with h0 | h0
    · rw [h0] at hN; simp [roomL] at hN; omega
    · omega
  clear hN
  have HQ := Lib.hid q; clear q
  have HQT := Lib.hid qto; clear qto
  have HQR := Lib.hid qρ; clear qρ
  have HCH := Lib.hid hch; clear hch
  cases bare
  all_goals
    have hbn := hb0
    simp only [forall_const, reduceCtorEq, false_implies, Bool.false_eq_true] at hbn
    clear hb0
    go_enter Tryd.func90, Tryd.ntmps90
    go_wp2_with (go_at_call 132; refine (room_any _ (by omega) _).mono ?_; rintro e w1 ⟨rfl, rfl⟩)
    go_loopw [6] (fun i wr => ∃ (j : Nat) (T : List (Cr × Value)), j ≤ ks.length ∧ i = .int .i64 j ∧ T.length = j ∧ T.map (·.1) = (ks.take j).map (·.1) ∧ wr.ownsRow w.heap.size 44 7 (.slice (some ⟨w.heap.size, 0, none⟩) N N) N (flatK (T ++ List.replicate (N - j) zeroK)) ∧ (∀ p ∈ T, Q wr (w.heap.size + 1) wr.heap.size p.1 p.2) ∧ T.Pairwise (fun p q => ρ p.2 q.2) ∧ w.heap.size < wr.heap.size ∧ Below w.heap.size w wr) (fun i _ => ks.length - (intOf i).toNat)
    case atStart => exact ⟨0, [], by omega, rfl, rfl, by simp, Hrow.out w (Nat.le_refl _), (fun p hp => by cases hp), List.Pairwise.nil, by simp, by go_grown⟩
    case round =>
      obtain ⟨j, T, hj, rfl, hTl, hTm, hown, hT, hTp, hlw, hb⟩ := hrel
      have hsz := hb.size
      by_cases hlt : j < ks.length
      · obtain ⟨b, off, rfl, hk⟩ := R.out j hlt
        have hkch := HCH.out ks[j] (List.getElem_mem hlt)
        have hk := CrAt_kept hk hb
        have htk : (ks.take (j + 1)).map (·.1) = (ks.take j).map (·.1) ++ [ks[j].1] := by rw [← List.take_append_getElem hlt, List.map_append]; rfl
        generalize ks[j].1 = k at *
        generalize ks[j].2 = cv at *
        obtain ⟨hlb, ⟨c0, c1, c2, c3, c4, c5, c6⟩, hrc⟩ := hk
        obtain ⟨A2, cp2, rfl, _, _⟩ := RdP_slice hrc
        have HRC := Lib.hid hrc; clear hrc
        have HT := Lib.hid hT; clear hT
        have HTP := Lib.hid hTp; clear hTp
        have HTM := Lib.hid hTm; clear hTm
        have HTK := Lib.hid htk; clear htk
        have HOWN := Lib.hid hown; clear hown
        go_wp2_with fail
        refine (HQT.out k _ wr HRC.out hkch).mono ?_
        rintro e w1 ⟨c', rfl, hq, hb1⟩
        obtain ⟨A3, n3, cp3, rfl⟩ := HQ.out.form hq
        have hown1 := own_kept HOWN.out hb1
        obtain ⟨x0, x1, x2, x3, x4, x5, x6, g0, g1, g2, g3, g4, g5, g6⟩ := row_cellsK hown1 j (by omega)
        have z0 := hown1.frozenAt (j * 7)
        have z1 := hown1.frozenAt (j * 7 + 1)
        have z2 := hown1.frozenAt (j * 7 + 2)
        have z3 := hown1.frozenAt (j * 7 + 3)
        have z4 := hown1.frozenAt (j * 7 + 4)
        have z5 := hown1.frozenAt (j * 7 + 5)
        have z6 := hown1.frozenAt (j * 7 + 6)
        have hst := row_setK7 hown1 j (k, Value.slice A3 n3 cp3)
        rw [show N - j = (N - (j + 1)) + 1 by omega, ← hTl, set_mid, hTl] at hst
        have hcq := fun lo hi k' c' (h : Q w1 lo hi k' c') (hb : w.heap.size < lo) => ChartQ_setK7 HQ.out (o := j * 7) (p := (k, Value.slice A3 n3 cp3)) h hb
        unfold setK7 at hst hcq
        dsimp only at hst hcq
        have HST := Lib.hid hst; clear hst hown1
        have HCQ := Lib.hid hcq; clear hcq
        have HQN := Lib.hid hq; clear hq
        have hsz1 := hb1.size
        have HB := Lib.hid (kept_trans hb hb1)
        have HB1 := Lib.hid hb1
        go_wp2
        go_roundw
        case rel =>
          refine ⟨j + 1, T ++ [(k, Value.slice A3 n3 cp3)], by omega, by go_num, by simp [hTl], by rw [HTK.out, List.map_append, HTM.out]; rfl, HST.out.1, ?_, ?_, by simp; omega, grown_below HB.out HST.out.2 (fun g hg => by simp at hg; omega)⟩
          · intro p hp
            refine HQ.out.wide (HCQ.out (w.heap.size + 1) w1.heap.size _ _ ?_ (Nat.lt_succ_self _)) (Nat.le_refl _) (by simp)
            rcases List.mem_append.1 hp with hp | hp
            · exact HQ.out.wide (HQ.out.kept (HT.out p hp) HB1.out) (Nat.le_refl _) hsz1
            · rw [List.mem_singleton.1 hp]
              exact HQ.out.wide HQN.out (by omega) (Nat.le_refl _)
          · refine List.pairwise_append.2 ⟨HTP.out, List.pairwise_singleton _ _, fun p hp p' hp' => ?_⟩
            rw [List.mem_singleton.1 hp']
            exact HQR.out _ _ _ _ _ _ _ _ _ _ (HT.out p hp) HQN.out (Nat.le_refl _)
        case measure => simp [intOf]; omega
      · have : j = ks.length := by omega
        subst this
        have hTm2 : T.map (·.1) = ks.map (·.1) := by rw [hTm, List.take_length]
        have hrep : N - ks.length = roomL ks.length := by have := HN.out; omega
        have HTM := Lib.hid hTm2; clear hTm hTm2
        have HT0 := Lib.hid hT; clear hT
        have HTP := Lib.hid hTp; clear hTp
        have HREP := Lib.hid hrep
        go_wp2_with fail
        go_loopw [7] (fun i wr => ∃ (M : Nat) (S : List (Cr × Value)), M ≤ N ∧ i = .int .i64 (M : Int) ∧ ks.length + S.length = M ∧ S.map (·.1) = List.replicate S.length fillK ∧ wr.ownsRow w.heap.size 44 7 (.slice (some ⟨w.heap.size, 0, none⟩) N N) N (flatK ((T ++ S) ++ List.replicate (N - M) zeroK)) ∧ (∀ p ∈ T, Q wr (w.heap.size + 1) wr.heap.size p.1 p.2) ∧ (∀ p ∈ S, fillQ wr (w.heap.size + 1) wr.heap.size p.1 p.2) ∧ w.heap.size < wr.heap.size ∧ Below w.heap.size w wr) (fun i _ => N - (intOf i).toNat)
        case atStart => exact ⟨ks.length, [], by omega, rfl, by simp, rfl, by simpa using hown, HT0.out, (fun p hp => by cases hp), hlw, hb⟩
        case round =>
          obtain ⟨M, S, hm, rfl, hSl, hSm, hown, hT, hS, hlw, hb⟩ := hrel
          have hsz := hb.size
          by_cases hlt : M < N
          · have HT := Lib.hid hT; clear hT
            have HSS := Lib.hid hS; clear hS
            have HSM := Lib.hid hSm; clear hSm
            have HOWN := Lib.hid hown; clear hown
            go_wp2_with fail
            refine (fillK_any wr).mono ?_
            rintro e w1 ⟨c', rfl, hq, hb1⟩
            obtain ⟨A3, n3, cp3, rfl⟩ := fillQ_ok.form (k := fillK) hq
            have hown1 := own_kept HOWN.out hb1
            obtain ⟨x0, x1, x2, x3, x4, x5, x6, g0, g1, g2, g3, g4, g5, g6⟩ := row_cellsK hown1 M (by omega)
            have z0 := hown1.frozenAt (M * 7)
            have z1 := hown1.frozenAt (M * 7 + 1)
            have z2 := hown1.frozenAt (M * 7 + 2)
            have z3 := hown1.frozenAt (M * 7 + 3)
            have z4 := hown1.frozenAt (M * 7 + 4)
            have z5 := hown1.frozenAt (M * 7 + 5)
            have z6 := hown1.frozenAt (M * 7 + 6)
            have hst := row_setK7 hown1 M (fillK, .slice A3 n3 cp3)
            have hTS : M = (T ++ S).length := by simp [hTl]; omega
            have hset := set_mid (T ++ S) zeroK (fillK, Value.slice A3 n3 cp3) (N - (M + 1))
            rw [← hTS] at hset
            rw [show N - M = (N - (M + 1)) + 1 by omega, hset] at hst
            have hcq := fun lo hi k' c' (h : Q w1 lo hi k' c') (hb : w.heap.size < lo) => ChartQ_setK7 HQ.out (o := M * 7) (p := (fillK, Value.slice A3 n3 cp3)) h hb
            have hcf := fun lo hi k' c' (h : fillQ w1 lo hi k' c') (hb : w.heap.size < lo) => ChartQ_setK7 fillQ_ok (o := M * 7) (p := (fillK, Value.slice A3 n3 cp3)) h hb
            clear hset
            unfold setK7 at hst hcq hcf
            dsimp only at hst hcq hcf
            have hwf : (Value.agg #[.string ⟨#[126, 115, 112, 97, 114, 101, 126]⟩, .int .i64 (-7000000000000000101), .int .i64 (-7000000000000000101), .int .i64 (-7000000000000000101), .int .i64 (-7000000000000000101), .int .i64 (-7000000000000000101), .slice A3 n3 cp3]) = .agg #[.string fillK.nm, .int .i64 fillK.x, .int .i64 fillK.y, .int .i64 fillK.h, .int .i64 fillK.j, .int .i64 fillK.b, .slice A3 n3 cp3] := rfl
            rw [hwf]
            clear hwf
            have hfm : fillK = (⟨fillK.nm, fillK.x, fillK.y, fillK.h, fillK.j, fillK.b, fillK.ch⟩ : Cr) := rfl
            have HFM := Lib.hid hfm; clear hfm
            have HST := Lib.hid hst; clear hst hown1
            have HCQ := Lib.hid hcq; clear hcq
            have HCF := Lib.hid hcf; clear hcf
            have HQN := Lib.hid hq; clear hq
            have hsz1 := hb1.size
            have HB := Lib.hid (kept_trans hb hb1)
            have HB1 := Lib.hid hb1
            have HSL := Lib.hid hSl
            have HOW2 := Lib.hid hTl
            clear hTS hSl hTl
            go_wp2
            go_roundw
            case rel =>
              have hSl := HSL.out
              refine ⟨M + 1, S ++ [(fillK, Value.slice A3 n3 cp3)], by omega, by go_num, by simp; omega, ?_, ?_, ?_, ?_, by simp; omega, grown_below HB.out HST.out.2 (fun g hg => by simp at hg; omega)⟩
              · rw [List.map_append, HSM.out, List.length_append, List.length_singleton, List.replicate_succ']; rfl
              · rw [← List.append_assoc]; exact HST.out.1
              · intro p hp
                exact HQ.out.wide (HCQ.out (w.heap.size + 1) w1.heap.size _ _ (HQ.out.wide (HQ.out.kept (HT.out p hp) HB1.out) (Nat.le_refl _) hsz1) (Nat.lt_succ_self _)) (Nat.le_refl _) (by simp)
              · intro p hp
                refine fillQ_ok.wide (k := p.1) (HCF.out (w.heap.size + 1) w1.heap.size p.1 _ ?_ (Nat.lt_succ_self _)) (Nat.le_refl _) (by simp)
                rcases List.mem_append.1 hp with hp | hp
                · exact fillQ_ok.wide (k := p.1) (fillQ_ok.kept (k := p.1) (HSS.out p hp) HB1.out) (Nat.le_refl _) hsz1
                · rw [List.mem_singleton.1 hp]
                  exact fillQ_ok.wide (k := fillK) HQN.out (by omega) (Nat.le_refl _)
            case measure => simp [intOf]; omega
          · have : M = N := by omega
            subst this
            have hSl2 : S.length = roomL ks.length := by have := HN.out; omega
            have hTS : (T ++ S).length = M := by simp [hTl, hSl2]; exact HN.out.symm
            have HT := Lib.hid hT; clear hT
            have HSS := Lib.hid hS; clear hS
            have HSM := Lib.hid hSm; clear hSm
            have HOWN := Lib.hid hown; clear hown
            have HTS := Lib.hid hTS; clear hTS
            have HSL := Lib.hid hSl2; clear hSl2 hSl hrep
            have HTL := Lib.hid hTl; clear hTl
            go_wp2
            go_ret
            have hTS := HTS.out
            have hSl2 := HSL.out
            refine ⟨_, rfl, ⟨by simpa using hn, w.heap.size, T, S, ?_, Nat.le_refl _, HTM.out, ?_, ?_, HT.out, fun p hp => HSS.out p hp, HTP.out⟩, hb⟩
            · rw [hTS, List.length_map]; rfl
            · rw [List.length_map, HSM.out, hSl2]
            · have h := HOWN.out
              rw [Nat.sub_self, List.replicate_zero, List.append_nil] at h
              rw [hTS]
              exact ⟨h, fun g hg => by simp [Value.ownBlock] at hg; subst hg; exact ⟨Nat.le_refl _, hlw⟩⟩

def copyQ (w : World) (lo hi : Nat) (k : Cr) (c : Value) : Prop := CopyC w lo hi c k.ch

theorem copyQ_ok : ChartQ copyQ where
  set := fun b o u h hb => CopyC_set h hb
  kept := fun h hb => CopyC_kept h hb
  wide := fun h hl hh => CopyC_lo h hl hh
  form := fun h => by obtain ⟨_, g, e, _⟩ := h; exact ⟨_, _, _, e⟩

def rowQ (w : World) (lo hi : Nat) (k : Cr) (c : Value) : Prop := RowF 33 2 w lo hi c k.ch.length (flatP k.ch)

theorem rowQ_ok : ChartQ rowQ where
  set := fun b o u h hb => RowF_set h hb
  kept := fun h hb => RowF_kept h hb
  wide := fun h hl hh => RowF_lo h hl hh
  form := fun h => by obtain ⟨A, c, e, _⟩ := RdP_slice (RowF_rd h); exact ⟨_, _, _, e⟩

def blkLt (c c' : Value) : Prop := blkOf c < blkOf c'

theorem copyQ_blk {w : World} {lo hi : Nat} {k : Cr} {c : Value} (h : copyQ w lo hi k c) : lo ≤ blkOf c ∧ blkOf c < hi := by
  obtain ⟨_, g, rfl, hr⟩ := h
  exact hr.2 g rfl

theorem SiteQ_kept {Q : World → Nat → Nat → Cr → Value → Prop} {ρ : Value → Value → Prop} (q : ChartQ Q) {W w1 : World} {lo hi : Nat} {v : Value} {ks : List Cr} (h : SiteQ Q ρ W lo hi v ks) (hb : Below W.heap.size W w1) : SiteQ Q ρ w1 lo hi v ks := by
  obtain ⟨hn, g, T, S, hv, hg, hT, hS, hr, hq, hf, hp⟩ := h
  exact ⟨hn, g, T, S, hv, hg, hT, hS, RowF_kept hr hb, fun p hp => q.kept (hq p hp) hb, fun p hp => RowF_kept (hf p hp) hb, hp⟩

theorem SiteQ_set {Q : World → Nat → Nat → Cr → Value → Prop} {ρ : Value → Value → Prop} (q : ChartQ Q) {w : World} {lo hi : Nat} {v : Value} {ks : List Cr} (b o : Nat) (u : Value) (h : SiteQ Q ρ w lo hi v ks) (hb : b < lo) : SiteQ Q ρ (w.setCell ⟨b, o, none⟩ u) lo hi v ks := by
  obtain ⟨hn, g, T, S, hv, hg, hT, hS, hr, hq, hf, hp⟩ := h
  exact ⟨hn, g, T, S, hv, hg, hT, hS, RowF_set hr hb, fun p hp => q.set b o u (hq p hp) (by omega), fun p hp => RowF_set (hf p hp) (by omega), hp⟩

theorem SiteQ_wide {Q : World → Nat → Nat → Cr → Value → Prop} {ρ : Value → Value → Prop} (q : ChartQ Q) {w : World} {lo lo' hi hi' : Nat} {v : Value} {ks : List Cr} (h : SiteQ Q ρ w lo hi v ks) (hl : lo' ≤ lo) (hh : hi ≤ hi') : SiteQ Q ρ w lo' hi' v ks := by
  obtain ⟨hn, g, T, S, hv, hg, hT, hS, hr, hq, hf, hp⟩ := h
  exact ⟨hn, g, T, S, hv, by omega, hT, hS, RowF_lo hr hl hh, fun p hp => q.wide (hq p hp) (Nat.le_refl _) hh, fun p hp => RowF_lo (hf p hp) (Nat.le_refl _) hh, hp⟩

theorem flatK_take (T S : List (Cr × Value)) : (flatK (T ++ S)).take (T.length * 7) = flatK T := by
  rw [show flatK (T ++ S) = flatK T ++ flatK S by simp [flatK], ← flatK_len, List.take_left]

theorem SiteQ_rd {Q : World → Nat → Nat → Cr → Value → Prop} {ρ : Value → Value → Prop} (qrd : ∀ (w : World) (lo hi : Nat) (k : Cr) (c : Value), Q w lo hi k c → RdP w c k.ch) {w : World} {lo hi : Nat} {v : Value} {ks : List Cr} (h : SiteQ Q ρ w lo hi v ks) : ∃ T : List (Cr × Value), RdK w v T ∧ T.map (·.1) = ks := by
  obtain ⟨hn, g, T, S, rfl, hg, hT, hS, hr, hq, hf, hp⟩ := h
  have hTl : T.length = ks.length := by rw [← hT]; simp
  refine ⟨T, ⟨?_, fun p hp => qrd _ _ _ _ _ (hq p hp)⟩, hT⟩
  have := RowF_short hr (n := T.length) (by simp)
  rw [flatK_take, hTl] at this
  rw [hTl]
  exact RowF_rd this

/-- A site's cranes, copied by the law with room behind them. -/
def SiteC (w : World) (lo hi : Nat) (v : Value) (ks : List Cr) : Prop := SiteQ copyQ blkLt w lo hi v ks

theorem SiteC_rd {w : World} {lo hi : Nat} {v : Value} {ks : List Cr} (h : SiteC w lo hi v ks) : ∃ T : List (Cr × Value), RdK w v T ∧ T.map (·.1) = ks := SiteQ_rd (fun _ _ _ _ _ h => CopyC_rd h) h

theorem SiteC_kept {W w1 : World} {lo hi : Nat} {v : Value} {ks : List Cr} (h : SiteC W lo hi v ks) (hb : Below W.heap.size W w1) : SiteC w1 lo hi v ks := SiteQ_kept copyQ_ok h hb

theorem toKs_false (v : Value) (ks : List (Cr × Value)) (w : World) (h : RdK w v ks) (hn : ks.length ≤ 1000000) (hch : ∀ p ∈ ks, p.1.ch.length ≤ 1000000) :
    Calls Tryd.prog 90 #[v, .bool false] w fun e w' => ∃ v', e = .returned v' ∧ SiteC w' w.heap.size w'.heap.size v' (ks.map (·.1)) ∧ Below w.heap.size w w' :=
  toKs_gen false copyQ blkLt copyQ_ok (fun w w' lo hi lo' hi' k k' c c' h h' hl => by have := copyQ_blk h; have := copyQ_blk h'; unfold blkLt; omega)
    (fun k c u q l => toK_false k c u q l) v ks w h hn (Or.inl rfl) hch

theorem toKs_true (v : Value) (ks : List (Cr × Value)) (w : World) (h : RdK w v ks) (hn : ks.length ≤ 1000000) (hch : ∀ p ∈ ks, p.1.ch.length ≤ 1000000) :
    Calls Tryd.prog 90 #[v, .bool true] w fun e w' => ∃ v', e = .returned v' ∧ (v' = .slice none 0 0 ∧ ks = [] ∨ SiteQ rowQ (fun _ _ => True) w' w.heap.size w'.heap.size v' (ks.map (·.1))) ∧ Below w.heap.size w w' := by
  by_cases hz : ks = []
  · subst hz
    obtain ⟨A, c, rfl, _, _⟩ := RdK_at h
    clear h
    go_enter Tryd.func90, Tryd.ntmps90
    go_wp2
    go_ret
    exact ⟨_, rfl, Or.inl (by simp), Below.refl _ _⟩
  · exact (toKs_gen true rowQ (fun _ _ => True) rowQ_ok (fun _ _ _ _ _ _ _ _ _ _ _ _ _ => trivial) (fun k c u q l => toK_true k c u q l) v ks w h hn (Or.inr hz) hch).mono fun e w' ⟨v', he, hs, hb⟩ => ⟨v', he, Or.inr hs, hb⟩

set_option maxHeartbeats 1000000 in
theorem toS_false (c : Value) (ks : List (Cr × Value)) (w : World) (h : RdK w c ks) (hn : ks.length ≤ 1000000) (hch : ∀ p ∈ ks, p.1.ch.length ≤ 1000000) :
    Calls Tryd.prog 35 #[.agg #[c], .bool false] w fun e w' => ∃ c', e = .returned (.agg #[c']) ∧ SiteC w' w.heap.size w'.heap.size c' (ks.map (·.1)) ∧ Below w.heap.size w w' := by
  obtain ⟨A0, cp0, rfl, _, _⟩ := RdK_at h
  have H := Lib.hid h; clear h
  have HQ := Lib.hid (fun u q => toKs_false (.slice A0 ks.length cp0) ks u q hn hch)
  generalize ks.map (·.1) = ms at *
  go_enter Tryd.func35, Tryd.ntmps35
  go_wp2_with fail
  refine (HQ.out _ (RdK_kept H.out (by go_grown))).mono ?_
  rintro e w1 ⟨c', rfl, hc, hb1⟩
  obtain ⟨g, T, S, hv, hrest⟩ := hc.2
  have hc := hc
  rw [hv] at hc ⊢
  clear hv hrest
  have HC := Lib.hid hc; clear hc
  refine kept_at hb1 (w.heap.size + 1) (by go_size) fun c1_1 z1_1 s1_1 => ?_
  refine kept_at hb1 (w.heap.size + 2) (by go_size) fun c1_2 z1_2 s1_2 => ?_
  have b1 := kept_trans (a := w) (by go_grown) hb1
  go_wp2
  (try simp only [Exit.inBlock, Exit.then])
  refine bodyPost_ret (v := .agg #[.slice (some ⟨g, 0, none⟩) ms.length (T ++ S).length]) ?_ rfl ⟨_, rfl, ?_, ?_⟩
  · rw [results_cell1 rfl]
    go_simp
  · have h := HC.out
    simp only [World.size_alloc] at h
    refine SiteQ_wide copyQ_ok (lo := w.heap.size + 1 + 1 + 1) (hi := w1.heap.size) (SiteQ_set copyQ_ok _ _ _ (SiteQ_set copyQ_ok _ _ _ h (by omega)) (by omega)) (by omega) (by simp)
  · go_grown

set_option maxHeartbeats 1000000 in
theorem toS_true (c : Value) (ks : List (Cr × Value)) (w : World) (h : RdK w c ks) (hn : ks.length ≤ 1000000) (hch : ∀ p ∈ ks, p.1.ch.length ≤ 1000000) :
    Calls Tryd.prog 35 #[.agg #[c], .bool true] w fun e w' => ∃ c' T, e = .returned (.agg #[c']) ∧ RdK w' c' T ∧ (∃ A cp, c' = .slice A T.length cp ∧ T.length ≤ cp) ∧ T.map (·.1) = ks.map (·.1) ∧ Below w.heap.size w w' := by
  obtain ⟨A0, cp0, rfl, _, _⟩ := RdK_at h
  have H := Lib.hid h; clear h
  have HQ := Lib.hid (fun u q => toKs_true (.slice A0 ks.length cp0) ks u q hn hch)
  go_enter Tryd.func35, Tryd.ntmps35
  go_wp2_with fail
  refine (HQ.out _ (RdK_kept H.out (by go_grown))).mono ?_
  rintro e w1 ⟨c', rfl, hc, hb1⟩
  have hf : ∃ A n cp, c' = .slice A n cp := by
    rcases hc with ⟨rfl, _⟩ | hc
    · exact ⟨_, _, _, rfl⟩
    · obtain ⟨g, T, S, hv, _⟩ := hc.2
      exact ⟨_, _, _, hv⟩
  obtain ⟨A1, n1, cp1, rfl⟩ := hf
  have HC := Lib.hid hc; clear hc
  refine kept_at hb1 (w.heap.size + 1) (by go_size) fun c1_1 z1_1 s1_1 => ?_
  refine kept_at hb1 (w.heap.size + 2) (by go_size) fun c1_2 z1_2 s1_2 => ?_
  have b1 := kept_trans (a := w) (by go_grown) hb1
  go_wp2
  (try simp only [Exit.inBlock, Exit.then])
  rcases HC.out with ⟨h1, h2⟩ | h
  · refine bodyPost_ret (v := .agg #[.slice A1 n1 cp1]) ?_ rfl ⟨_, [], rfl, ?_, ⟨none, 0, h1, Nat.le_refl _⟩, by rw [h2], ?_⟩
    · rw [results_cell1 rfl]
      go_simp
    · rw [h1]
      exact ⟨⟨by simp, rfl, none, 0, rfl, fun i hi => by simp at hi⟩, fun p hp => by cases hp⟩
    · go_grown
  · simp only [World.size_alloc] at h
    have h2 := SiteQ_set rowQ_ok (w.heap.size + 1) 0 (.slice A1 n1 cp1) (SiteQ_set rowQ_ok (w.heap.size + 1 + 1) 0 (.slice A1 n1 cp1) h (by omega)) (by omega)
    have hcap : ∃ A cp, Value.slice A1 n1 cp1 = .slice A (ks.map (·.1)).length cp ∧ (ks.map (·.1)).length ≤ cp := by
      obtain ⟨_, g, T0, S0, hv, _, hT0, _⟩ := h2
      exact ⟨_, _, hv, by rw [← hT0]; simp⟩
    obtain ⟨T, hT, hm⟩ := SiteQ_rd (fun _ _ _ _ _ h => RowF_rd h) h2
    have hTl : T.length = (ks.map (·.1)).length := by rw [← hm]; simp
    rw [← hTl] at hcap
    refine bodyPost_ret (v := .agg #[.slice A1 n1 cp1]) ?_ rfl ⟨_, T, rfl, hT, hcap, hm, ?_⟩
    · rw [results_cell1 rfl]
      go_simp
    · go_grown

theorem eqK_same (k : Cr) (c1 c2 : Value) (w : World) (h1 : RdP w c1 k.ch) (h2 : RdP w c2 k.ch) :
    Calls Tryd.prog 138 #[.agg #[.string k.nm, .int .i64 k.x, .int .i64 k.y, .int .i64 k.h, .int .i64 k.j, .int .i64 k.b, c1], .agg #[.string k.nm, .int .i64 k.x, .int .i64 k.y, .int .i64 k.h, .int .i64 k.j, .int .i64 k.b, c2]] w fun e w' => e = .returned (.bool true) ∧ Below w.heap.size w w' := by
  obtain ⟨A1, cp1, rfl, _, _⟩ := RdP_slice h1
  obtain ⟨A2, cp2, rfl, _, _⟩ := RdP_slice h2
  have H1 := Lib.hid h1; clear h1
  have H2 := Lib.hid h2; clear h2
  obtain ⟨s, x, y, hh, j, b, zs⟩ := k
  dsimp only at *
  go_enter Tryd.func138, Tryd.ntmps138
  go_wp2_with fail
  refine (eqPoint_same _ _ _).mono ?_
  rintro e w1 ⟨rfl, b1⟩
  refine kept_at b1 (w.heap.size) (by go_size) fun c1_0 z1_0 s1_0 => ?_
  refine kept_at b1 (w.heap.size + 1) (by go_size) fun c1_1 z1_1 s1_1 => ?_
  replace b1 := kept_trans (a := w) (by go_grown) b1
  have l1 := kept_cell b1
  have zz1 := b1.size
  go_wp2_with fail
  refine (eqC_same _ _ zs _ (RdP_kept H1.out (by go_grown)) (RdP_kept H2.out (by go_grown))).mono ?_
  rintro e w2 ⟨rfl, hb2⟩
  have b2 := kept_trans (a := w) (by go_grown) hb2
  go_wp2
  go_ret
  exact ⟨rfl, b2⟩

set_option maxHeartbeats 1000000 in
theorem eqKs_same (v1 v2 : Value) (k1 k2 : List (Cr × Value)) (w : World) (h1 : RdK w v1 k1) (h2 : RdK w v2 k2) (hm : k1.map (·.1) = k2.map (·.1)) :
    Calls Tryd.prog 98 #[v1, v2] w fun e w' => e = .returned (.bool true) ∧ Below w.heap.size w w' := by
  obtain ⟨A1, cp1, rfl, hl1, r1⟩ := RdK_at h1
  obtain ⟨A2, cp2, rfl, hl2, r2⟩ := RdK_at h2
  clear h1 h2
  have hlen : k1.length = k2.length := by have := congrArg List.length hm; simpa using this
  have hel : ∀ i (h1 : i < k1.length) (h2 : i < k2.length), k1[i].1 = k2[i].1 := by
    intro i h1 h2
    have := congrArg (·[i]?) hm
    simpa [h1, h2] using this
  have R1 := Lib.hid r1; clear r1
  have R2 := Lib.hid r2; clear r2
  have HEL := Lib.hid hel; clear hel hm
  rw [← hlen]
  have HLEN := Lib.hid hlen
  clear hlen hl2
  go_enter Tryd.func98, Tryd.ntmps98
  go_wp2_with fail
  go_loopw [5] (fun i wr => ∃ j : Nat, j ≤ k1.length ∧ i = .int .i64 j ∧ Below w.heap.size w wr) (fun i _ => k1.length - (intOf i).toNat)
  case atStart => exact ⟨0, by omega, rfl, Below.refl _ _⟩
  case round =>
    obtain ⟨j, hj, rfl, hb⟩ := hrel
    by_cases hlt : j < k1.length
    · obtain ⟨b, off, rfl, hk⟩ := R1.out j hlt
      obtain ⟨b2, off2, rfl, hk2⟩ := R2.out j (by have := HLEN.out; omega)
      rw [← HEL.out j hlt (by have := HLEN.out; omega)] at hk2
      have hk := CrAt_kept hk hb
      have hk2 := CrAt_kept hk2 hb
      generalize k1[j].1 = k at *
      generalize k1[j].2 = cv at *
      generalize k2[j].2 = cv2 at *
      obtain ⟨hlb, ⟨c0, c1, c2, c3, c4, c5, c6⟩, hrc⟩ := hk
      obtain ⟨hlb2, ⟨d0, d1, d2, d3, d4, d5, d6⟩, hrd⟩ := hk2
      obtain ⟨A3, cp3, rfl, _, _⟩ := RdP_slice hrc
      obtain ⟨A4, cp4, rfl, _, _⟩ := RdP_slice hrd
      have HE := Lib.hid (fun (m : Nat) => eqK_same k _ _ (wr.drewN m) (RdP_kept hrc (kept_drewN (Below.refl _ _) m)) (RdP_kept hrd (kept_drewN (Below.refl _ _) m)))
      clear hrc hrd
      go_wp2_with fail
      go_cut [26] (fun s26 w' => s26 = .bool false ∧ Below w.heap.size w w')
      case first =>
        go_region_with ((go_at_call 138; refine (HE.out 1).mono ?_; rintro e w1 ⟨rfl, hb1⟩; have b1 := kept_trans (a := w) (kept_drewN hb 1) hb1))
        all_goals
          go_wp2_with fail
          go_meet
          case rel => exact ⟨rfl, b1⟩
      case rest =>
      obtain ⟨rfl, hbc⟩ := hcut
      go_wp2
      go_roundw
      case rel => exact ⟨j + 1, by omega, by go_num, hbc⟩
      case measure => simp [intOf]; omega
    · have : j = k1.length := by omega
      subst this
      go_wp2
      go_ret
      exact ⟨rfl, hb⟩

theorem RdK_tail {w : World} {lo hi g c N : Nat} {T S : List (Cr × Value)} (h : RowF 44 7 w lo hi (.slice (some ⟨g, 0, none⟩) N N) N (flatK (T ++ S))) (hc : ∀ p ∈ S, RdP w p.2 p.1.ch) (hl : S.length ≤ 9223372036854775807) :
    RdK w (.slice (some ⟨g, T.length * 7, none⟩) S.length c) S := by
  have hN : (flatK (T ++ S)).length = N * 7 := h.1.1
  rw [flatK_len, List.length_append] at hN
  refine ⟨⟨hl, flatK_len S, some ⟨g, T.length * 7, none⟩, c, rfl, fun i hi => ⟨g, T.length * 7, rfl, (h.1.lt g rfl).2, ?_⟩⟩, hc⟩
  rw [h.1.cellAt (T.length * 7 + i) (by omega), show flatK (T ++ S) = flatK T ++ flatK S by simp [flatK], List.getElem?_append_right (by rw [flatK_len]; omega), flatK_len]
  congr 1
  omega

theorem SiteC_open {w : World} {lo hi : Nat} {v : Value} {ks : List Cr} (h : SiteC w lo hi v ks) : ∃ (g : Nat) (T S : List (Cr × Value)), v = .slice (some ⟨g, 0, none⟩) ks.length (ks.length + roomL ks.length) ∧ ks.length ≤ 1000000 ∧ T.length = ks.length ∧ S.length = roomL ks.length ∧ g < w.heap.size ∧
    (∀ i (h1 : i < T.length) (h2 : i < ks.length), T[i].1 = ks[i] ∧ CopyC w (g + 1) hi T[i].2 ks[i].ch ∧ CrAt w g (i * 7) ks[i] T[i].2) ∧ S.map (·.1) = List.replicate (roomL ks.length) fillK ∧ (∀ c, RdK w (.slice (some ⟨g, ks.length * 7, none⟩) S.length c) S) := by
  obtain ⟨T', hR, hT'⟩ := SiteC_rd h
  obtain ⟨hn, g, T, S, rfl, hg, hT, hS, hr, hq, hf, hp⟩ := h
  have hTl : T.length = ks.length := by rw [← hT]; simp
  have hSl : S.length = roomL ks.length := by have := congrArg List.length hS; simpa using this
  have hlt : g < w.heap.size := (hr.1.lt g rfl).2
  have hsl : (T ++ S).length = ks.length + roomL ks.length := by simp [hTl, hSl]
  have hrm := roomL_le ks.length
  refine ⟨g, T, S, by rw [hsl], hn, hTl, hSl, hlt, fun i h1 h2 => ?_, hS, fun c => ?_⟩
  · have e : T[i].1 = ks[i] := by
      have := congrArg (·[i]?) hT
      simpa [h1, h2] using this
    have hc := hq T[i] (List.getElem_mem h1)
    have hc' : CopyC w (g + 1) hi T[i].2 ks[i].ch := by rw [← e]; exact hc
    refine ⟨e, hc', hlt, ?_, CopyC_rd hc'⟩
    have at_ : ∀ j, j < 7 → w.cell? ⟨g, i * 7 + j, none⟩ = (encK T[i])[j]? := by
      intro j hj
      rw [hr.1.cellAt (i * 7 + j) (by rw [hsl]; omega), flatK_at (T ++ S) i j (by rw [List.length_append]; omega) hj, List.getElem_append_left h1]
    rw [← e]
    exact ⟨at_ 0 (by omega), at_ 1 (by omega), at_ 2 (by omega), at_ 3 (by omega), at_ 4 (by omega), at_ 5 (by omega), at_ 6 (by omega)⟩
  · rw [← hTl]
    refine RdK_tail hr (fun p hp => ?_) (by omega)
    have e : p.1 = fillK := by
      have : p.1 ∈ S.map (·.1) := List.mem_map.2 ⟨p, hp, rfl⟩
      rw [hS] at this
      exact (List.mem_replicate.1 this).2
    rw [e]
    exact RowF_rd (hf p hp)

set_option maxHeartbeats 2000000 in
theorem intactKs_same (v1 v2 : Value) (ks : List Cr) (lo1 hi1 lo2 hi2 : Nat) (w : World) (h1 : SiteC w lo1 hi1 v1 ks) (h2 : SiteC w lo2 hi2 v2 ks) :
    Calls Tryd.prog 91 #[v1, v2] w fun e w' => e = .returned (.bool true) ∧ Below w.heap.size w w' := by
  have H1 := Lib.hid h1
  have H2 := Lib.hid h2
  obtain ⟨g1, T1, S1, rfl, hn, _, _, _, _, _, _⟩ := SiteC_open h1
  obtain ⟨g2, T2, S2, rfl, _, _, _, _, _, _, _⟩ := SiteC_open h2
  clear h1 h2
  have hr := roomL_le ks.length
  have HE := Lib.hid (fun (u : World) (q1 : SiteC u lo1 hi1 (.slice (some ⟨g1, 0, none⟩) ks.length (ks.length + roomL ks.length)) ks) (q2 : SiteC u lo2 hi2 (.slice (some ⟨g2, 0, none⟩) ks.length (ks.length + roomL ks.length)) ks) => (by
    obtain ⟨g1', T1, S1, e1, _, _, hS1, _, _, hm1, hR1⟩ := SiteC_open q1
    obtain ⟨g2', T2, S2, e2, _, _, hS2, _, _, hm2, hR2⟩ := SiteC_open q2
    cases e1
    cases e2
    have hA : ∀ (g : Nat) (S : List (Cr × Value)), S.length = roomL ks.length → RdK u (.slice (some ⟨g, ks.length * 7, none⟩) S.length (roomL ks.length)) S → RdK u (.slice (if roomL ks.length = 0 then some ⟨g, 0, none⟩ else some ⟨g, ks.length * 7, none⟩) (roomL ks.length) (roomL ks.length)) S := by
      intro g S hS h
      by_cases h0 : roomL ks.length = 0
      · have hS0 := List.eq_nil_of_length_eq_zero (hS.trans h0)
        subst hS0
        rw [if_pos h0, h0]
        exact ⟨⟨by simp, rfl, _, _, rfl, fun i hi => by simp at hi⟩, fun p hp => by cases hp⟩
      · rw [if_neg h0]
        rw [hS] at h
        exact h
    exact eqKs_same _ _ S1 S2 u (hA g1 S1 hS1 (hR1 (roomL ks.length))) (hA g2 S2 hS2 (hR2 (roomL ks.length))) (hm1.trans hm2.symm) : Calls Tryd.prog 98 #[.slice (if roomL ks.length = 0 then some ⟨g1, 0, none⟩ else some ⟨g1, ks.length * 7, none⟩) (roomL ks.length) (roomL ks.length), .slice (if roomL ks.length = 0 then some ⟨g2, 0, none⟩ else some ⟨g2, ks.length * 7, none⟩) (roomL ks.length) (roomL ks.length)] u fun e w' => e = .returned (.bool true) ∧ Below u.heap.size u w'))
  have HX := Lib.hid (fun (u : World) (q1 : SiteC u lo1 hi1 (.slice (some ⟨g1, 0, none⟩) ks.length (ks.length + roomL ks.length)) ks) (q2 : SiteC u lo2 hi2 (.slice (some ⟨g2, 0, none⟩) ks.length (ks.length + roomL ks.length)) ks) (i : Nat) (hi : i < ks.length) => (by
    obtain ⟨g1', T1, S1, e1, _, hl1, _, _, ha1, _, _⟩ := SiteC_open q1
    obtain ⟨g2', T2, S2, e2, _, hl2, _, _, ha2, _, _⟩ := SiteC_open q2
    cases e1
    cases e2
    obtain ⟨_, hc1, hk1⟩ := ha1 i (by omega) hi
    obtain ⟨_, hc2, hk2⟩ := ha2 i (by omega) hi
    exact ⟨_, _, hc1, hk1, hc2, hk2⟩ : ∃ c1 c2, CopyC u (g1 + 1) hi1 c1 ks[i].ch ∧ CrAt u g1 (i * 7) ks[i] c1 ∧ CopyC u (g2 + 1) hi2 c2 ks[i].ch ∧ CrAt u g2 (i * 7) ks[i] c2))
  go_enter Tryd.func91, Tryd.ntmps91
  go_wp2_with (go_at_call 132; refine (room_any _ (by omega) _).mono ?_; rintro e w1 ⟨rfl, rfl⟩)
  go_loopw [6] (fun i wr => ∃ j : Nat, j ≤ ks.length ∧ i = .int .i64 j ∧ Below w.heap.size w wr) (fun i _ => ks.length - (intOf i).toNat)
  case atStart => exact ⟨0, by omega, rfl, Below.refl _ _⟩
  case round =>
    obtain ⟨j, hj, rfl, hb⟩ := hrel
    by_cases hlt : j < ks.length
    · obtain ⟨cv, cv2, hcv, ⟨hlb, ⟨c0, c1, c2, c3, c4, c5, c6⟩, hrc⟩, hcv2, ⟨hlb2, ⟨d0, d1, d2, d3, d4, d5, d6⟩, hrd⟩⟩ := HX.out wr (SiteC_kept H1.out hb) (SiteC_kept H2.out hb) j hlt
      generalize ks[j] = k at *
      obtain ⟨A3, cp3, rfl, _, _⟩ := RdP_slice hrc
      obtain ⟨A4, cp4, rfl, _, _⟩ := RdP_slice hrd
      have HI := Lib.hid (fun (m : Nat) => intactK_same k _ _ _ _ _ _ (wr.drewN m) (CopyC_kept hcv (kept_drewN (Below.refl _ _) m)) (CopyC_kept hcv2 (kept_drewN (Below.refl _ _) m)))
      clear hrc hrd hcv hcv2
      go_wp2_with fail
      go_cut [33] (fun s33 w' => s33 = .bool false ∧ Below w.heap.size w w')
      case first =>
        go_region_with ((go_at_call 42; refine (HI.out 1).mono ?_; rintro e w1 ⟨rfl, hb1⟩; have b1 := kept_trans (a := w) (kept_drewN hb 1) hb1))
        all_goals
          go_wp2_with fail
          go_meet
          case rel => exact ⟨rfl, b1⟩
      case rest =>
      obtain ⟨rfl, hbc⟩ := hcut
      go_wp2
      go_roundw
      case rel => exact ⟨j + 1, by omega, by go_num, hbc⟩
      case measure => simp [intOf]; omega
    · have : j = ks.length := by omega
      subst this
      have hee := fun (m : Nat) => HE.out (wr.drewN m) (SiteC_kept H1.out (kept_drewN hb m)) (SiteC_kept H2.out (kept_drewN hb m))
      have hx1 : ¬ (ks.length + roomL ks.length < ks.length) := by omega
      have hx3 : (ks.length : Int) ≤ (ks.length : Int) + (roomL ks.length : Int) := by omega
      have hx4 : (0 : Int) ≤ (ks.length : Int) + (roomL ks.length : Int) := by omega
      have hx5 : ((ks.length : Int) + (roomL ks.length : Int)).toNat = ks.length + roomL ks.length := by omega
      have hx6 : ks.length ≤ ks.length + roomL ks.length := by omega
      have hx7 : ks.length + roomL ks.length - ks.length = roomL ks.length := by omega
      by_cases h0 : roomL ks.length = 0
      case pos =>
        simp only [h0, if_true] at hee
        have HEE := Lib.hid hee; clear hee
        go_wp2_with fail
        go_region_with ((go_at_call 98; refine (HEE.out 1).mono ?_; rintro e w1 ⟨rfl, hb1⟩; have b1 := kept_trans (a := w) (kept_drewN hb 1) hb1))
        all_goals
          go_wp2
          go_ret
          exact ⟨rfl, b1⟩
      case neg =>
        simp only [if_neg h0] at hee
        have HEE := Lib.hid hee; clear hee
        go_wp2_with fail
        go_region_with ((go_at_call 98; refine (HEE.out 1).mono ?_; rintro e w1 ⟨rfl, hb1⟩; have b1 := kept_trans (a := w) (kept_drewN hb 1) hb1))
        all_goals
          go_wp2
          go_ret
          exact ⟨rfl, b1⟩

/-- The square of the distance of two points. -/
def sqD (x y u v : Int) : Int := (x - u) * (x - u) + (y - v) * (y - v)

theorem far_any (x y u v n : Int) (hp : okP x y = true) (hq : okP u v = true) (hn : 0 ≤ n ∧ n ≤ 2000) (w : World) :
    Calls Tryd.prog 83 #[.agg #[.int .i64 x, .int .i64 y], .agg #[.int .i64 u, .int .i64 v], .int .i64 n] w fun e w' => e = .returned (.bool (decide (n * n < sqD x y u v))) ∧ Below w.heap.size w w' := by
  have g1 := okP_true hp
  have g2 := okP_true hq
  have hQ := fun W => l02Square_any x y u v (by omega) (by omega) (by omega) (by omega) W
  rw [sq_wrap (x - u) (y - v) (by omega) (by omega)] at hQ
  have hb := sq_bd n 2000 (by omega) hn.2
  have hw : IntKind.i64.wrap (n * n) = n * n := IntWalk.i64_in _ (by omega)
  unfold sqD
  generalize (x - u) * (x - u) + (y - v) * (y - v) = D at *
  have HQ := Lib.hid hQ; clear hQ g1 g2 hp hq
  go_enter Tryd.func83, Tryd.ntmps83
  go_wp2_with (go_at_call 130; refine (HQ.out _).mono ?_; rintro e w1 ⟨rfl, hb⟩; have hs := hb.size; (try simp at hs); (try (refine kept_at hb (w.heap.size) ?_ (fun hc0 hz0 hs0 => ?_); focus go_size)); (try (refine kept_at hb (w.heap.size + 1) ?_ (fun hc1 hz1 hs1 => ?_); focus go_size)); (try (refine kept_at hb (w.heap.size + 2) ?_ (fun hc2 hz2 hs2 => ?_); focus go_size)); (try (refine kept_at hb (w.heap.size + 3) ?_ (fun hc3 hz3 hs3 => ?_); focus go_size)); (try (refine kept_at hb (w.heap.size + 4) ?_ (fun hc4 hz4 hs4 => ?_); focus go_size)); (try (refine kept_at hb (w.heap.size + 5) ?_ (fun hc5 hz5 hs5 => ?_); focus go_size)); replace hb := kept_trans (a := w) (by go_grown) hb; have hcl := kept_cell hb; have hzl := kept_frozen hb)
  go_ret
  exact ⟨by simp [hw, IntWalk.wrap64_in (n * n) (by omega)], by go_grown⟩

theorem near_any (x y u v n : Int) (hp : okP x y = true) (hq : okP u v = true) (hn : 0 ≤ n ∧ n ≤ 2000) (w : World) :
    Calls Tryd.prog 81 #[.agg #[.int .i64 x, .int .i64 y], .agg #[.int .i64 u, .int .i64 v], .int .i64 n] w fun e w' => e = .returned (.bool (decide (sqD x y u v ≤ n * n))) ∧ Below w.heap.size w w' := by
  have g1 := okP_true hp
  have g2 := okP_true hq
  have E := sq_wrap (u - x) (v - y) (by omega) (by omega)
  have hb := sq_bd n 2000 (by omega) hn.2
  have hw : IntKind.i64.wrap (n * n) = n * n := IntWalk.i64_in _ (by omega)
  have hM := fun W => minus_any u v x y (by omega) (by omega) (by omega) (by omega) W
  have hS := fun W => scalar_any (u - x) (v - y) (u - x) (v - y) W
  rw [E] at hS
  unfold sqD
  rw [sq_sym x u, sq_sym y v]
  generalize (u - x) * (u - x) + (v - y) * (v - y) = D at *
  generalize u - x = a at *
  generalize v - y = c at *
  have HM := Lib.hid hM; clear hM
  have HS := Lib.hid hS; clear hS g1 g2 hp hq E
  go_enter Tryd.func81, Tryd.ntmps81
  go_wp2_with (first | (go_at_call 128; refine (HM.out _).mono ?_; rintro e w1 ⟨rfl, hb⟩; have hs := hb.size; (try simp at hs); (try (refine kept_at hb (w.heap.size) ?_ (fun hc0 hz0 hs0 => ?_); focus go_size)); (try (refine kept_at hb (w.heap.size + 1) ?_ (fun hc1 hz1 hs1 => ?_); focus go_size)); (try (refine kept_at hb (w.heap.size + 2) ?_ (fun hc2 hz2 hs2 => ?_); focus go_size)); (try (refine kept_at hb (w.heap.size + 3) ?_ (fun hc3 hz3 hs3 => ?_); focus go_size)); (try (refine kept_at hb (w.heap.size + 4) ?_ (fun hc4 hz4 hs4 => ?_); focus go_size)); (try (refine kept_at hb (w.heap.size + 5) ?_ (fun hc5 hz5 hs5 => ?_); focus go_size)); replace hb := kept_trans (a := w) (by go_grown) hb; have hcl := kept_cell hb; have hzl := kept_frozen hb) | (go_at_call 129; refine (HS.out _).mono ?_; rintro e w1 ⟨rfl, hb⟩; have hs := hb.size; (try simp at hs); (try (refine kept_at hb (w.heap.size) ?_ (fun hc0 hz0 hs0 => ?_); focus go_size)); (try (refine kept_at hb (w.heap.size + 1) ?_ (fun hc1 hz1 hs1 => ?_); focus go_size)); (try (refine kept_at hb (w.heap.size + 2) ?_ (fun hc2 hz2 hs2 => ?_); focus go_size)); (try (refine kept_at hb (w.heap.size + 3) ?_ (fun hc3 hz3 hs3 => ?_); focus go_size)); (try (refine kept_at hb (w.heap.size + 4) ?_ (fun hc4 hz4 hs4 => ?_); focus go_size)); (try (refine kept_at hb (w.heap.size + 5) ?_ (fun hc5 hz5 hs5 => ?_); focus go_size)); replace hb := kept_trans (a := w) (by go_grown) hb; have hcl := kept_cell hb; have hzl := kept_frozen hb))
  go_ret
  exact ⟨by simp [hw, IntWalk.wrap64_in (n * n) (by omega)], by go_grown⟩

/-- The place of the first crane with a name; behind the last one if there is none. -/
def idxK (ks : List (Cr × Value)) (s : ByteArray) : Nat := ks.findIdx fun p => decide (p.1.nm = s)

theorem idxK_is {ks : List (Cr × Value)} {s : ByteArray} {k : Nat} (h : k < ks.length) (hk : ks[k].1.nm = s) (hb : ∀ j (hj : j < ks.length), j < k → ¬ ks[j].1.nm = s) : idxK ks s = k := by
  unfold idxK
  rw [List.findIdx_eq h]
  exact ⟨by simp [hk], fun j hj => by simpa using hb j (by omega) hj⟩

theorem idxK_none {ks : List (Cr × Value)} {s : ByteArray} (hb : ∀ j (hj : j < ks.length), ¬ ks[j].1.nm = s) : idxK ks s = ks.length := by
  unfold idxK
  rw [List.findIdx_eq_length]
  intro p hp
  obtain ⟨i, hi, rfl⟩ := List.mem_iff_getElem.1 hp
  simpa using hb i hi

theorem indexNamed_any (v : Value) (ks : List (Cr × Value)) (s : ByteArray) (w : World) (h : RdK w v ks) :
    Calls Tryd.prog 75 #[v, .string s] w fun e w' => e = .returned (.int .i64 (if idxK ks s < ks.length then (idxK ks s : Int) else -1)) ∧ w = w' := by
  obtain ⟨A, c, rfl, hl, r⟩ := RdK_at h
  clear h
  have R := Lib.hid r; clear r
  have HIS := Lib.hid (fun k (h : k < ks.length) => @idxK_is ks s k h)
  have HNO := Lib.hid (@idxK_none ks s)
  generalize hG : (if idxK ks s < ks.length then (idxK ks s : Int) else -1) = G
  have HG := Lib.hid hG; clear hG
  go_enter Tryd.func75, Tryd.ntmps75
  go_wp2_with fail
  go_loop [8] (fun i => ∃ k : Nat, k ≤ ks.length ∧ i = .int .i64 (k : Int) ∧ ∀ j (hj : j < ks.length), j < k → ¬ ks[j].1.nm = s) (fun i => ks.length - (intOf i).toNat)
  case atStart => exact ⟨0, by omega, rfl, fun j _ h => by omega⟩
  case round =>
    obtain ⟨k, hk, rfl, hall⟩ := hrel
    by_cases hlt : k < ks.length
    · obtain ⟨b, off, rfl, hkk⟩ := R.out k hlt
      obtain ⟨_, ⟨c0, _, _, _, _, _, _⟩, _⟩ := hkk
      by_cases he : ks[k].1.nm = s
      · have hi := HIS.out k hlt he hall
        have hE : G = (k : Int) := by rw [← HG.out, hi, if_pos hlt]
        rw [he] at c0
        have HE := Lib.hid hE; clear hE hi hall he
        go_wp2
        go_ret
        exact ⟨by rw [HE.out]; rfl, rfl⟩
      · have hne := str_ne he
        have hall2 : ∀ j (hj : j < ks.length), j < k + 1 → ¬ ks[j].1.nm = s := fun j hj hlt2 => by
          rcases Nat.lt_or_ge j k with h1 | h1
          · exact hall j hj h1
          · have : j = k := by omega
            subst this
            exact he
        have HA := Lib.hid hall2; clear hall2 hall
        generalize ks[k].1.nm = t at *
        clear he
        go_wp2
        go_round
        case rel => exact ⟨k + 1, by omega, by go_num, HA.out⟩
        case measure => simp [intOf]; omega
    · have : k = ks.length := by omega
      subst this
      have hi := HNO.out (fun j hj => hall j hj hj)
      have hE : G = -1 := by rw [← HG.out, hi, if_neg (by omega)]
      have HE := Lib.hid hE; clear hE hi hall
      go_wp2
      go_ret
      exact ⟨by rw [HE.out]; rfl, rfl⟩

/-- One of the cranes stands at most 10 from the crane k. -/
def nearK (ks : List (Cr × Value)) (k : Cr) : Bool := ks.any fun p => decide (sqD p.1.x p.1.y k.x k.y ≤ 100)

/-- Why the crane k can not be added: 0: it can, 1: its name is taken, 2: the site is full, 3: another crane stands too near. -/
def roomN (ks : List (Cr × Value)) (k : Cr) : Nat := if idxK ks k.nm < ks.length then 1 else if 6 ≤ ks.length then 2 else if nearK ks k then 3 else 0

/-- What the three variables hold. -/
def errAt (w : World) (r1 r2 r3 : Value) : Prop :=
  (0 < w.heap.size ∧ w.cell? ⟨0, 0, none⟩ = some r1) ∧ (1 < w.heap.size ∧ w.cell? ⟨1, 0, none⟩ = some r2) ∧ 2 < w.heap.size ∧ w.cell? ⟨2, 0, none⟩ = some r3

theorem errAt_kept {W w1 : World} {r1 r2 r3 : Value} (h : errAt W r1 r2 r3) (hb : Below W.heap.size W w1) : errAt w1 r1 r2 r3 := by
  obtain ⟨⟨g1, c1⟩, ⟨g2, c2⟩, g3, c3⟩ := h
  have hs := hb.size
  exact ⟨⟨by omega, by rw [kept_cell hb _ 0 g1]; exact c1⟩, ⟨by omega, by rw [kept_cell hb _ 0 g2]; exact c2⟩, by omega, by rw [kept_cell hb _ 0 g3]; exact c3⟩

def roomV (r1 r2 r3 : Value) : Nat → Value
  | 0 => .nilIface
  | 1 => r1
  | 2 => r2
  | _ => r3

theorem near_step (ks : List (Cr × Value)) (k : Cr) (i : Nat) (h : i < ks.length) : nearK (ks.take (i + 1)) k = (nearK (ks.take i) k || decide (sqD ks[i].1.x ks[i].1.y k.x k.y ≤ 100)) := by
  rw [nearK, ← List.take_append_getElem h, List.any_append]
  simp [nearK]

theorem near_hit (ks : List (Cr × Value)) (k : Cr) (i : Nat) (h : i < ks.length) (hd : sqD ks[i].1.x ks[i].1.y k.x k.y ≤ 100) : nearK ks k = true := by
  rw [nearK, List.any_eq_true]
  exact ⟨ks[i], List.getElem_mem h, by simpa using hd⟩

set_option maxHeartbeats 2000000 in
theorem roomFor_any (v : Value) (ks : List (Cr × Value)) (b o : Nat) (k : Cr) (c : Value) (r1 r2 r3 : Value) (w : World) (h : RdK w v ks) (hk : CrAt w b o k c) (hok : ∀ p ∈ ks, okP p.1.x p.1.y = true) (hkp : okP k.x k.y = true) (he : errAt w r1 r2 r3) :
    Calls Tryd.prog 70 #[v, .pointer (some ⟨b, o, none⟩)] w fun e w' => e = .returned (roomV r1 r2 r3 (roomN ks k)) ∧ Below w.heap.size w w' := by
  have HX := Lib.hid (indexNamed_any v ks k.nm w h)
  have HE := Lib.hid he
  obtain ⟨⟨g1, e1⟩, ⟨g2, e2⟩, g3, e3⟩ := he
  obtain ⟨A, cp, rfl, hl, r⟩ := RdK_at h
  obtain ⟨hlb, ⟨c0, c1, c2, c3, c4, c5, c6⟩, hrc⟩ := hk
  clear h hrc c3 c4 c5 c6
  have R := Lib.hid r; clear r
  have HOK := Lib.hid hok; clear hok
  by_cases h1 : idxK ks k.nm < ks.length
  · have hN : roomN ks k = 1 := by rw [roomN, if_pos h1]
    rw [hN, if_pos h1] at *
    generalize idxK ks k.nm = m at *
    clear hN
    go_enter Tryd.func70, Tryd.ntmps70
    go_wp2_with fail
    refine HX.out.mono ?_
    rintro e w1 ⟨rfl, rfl⟩
    go_wp2
    go_ret
    exact ⟨rfl, Below.refl _ _⟩
  by_cases h2 : 6 ≤ ks.length
  · have hN : roomN ks k = 2 := by rw [roomN, if_neg h1, if_pos h2]
    rw [hN, if_neg h1] at *
    clear hN h1
    go_enter Tryd.func70, Tryd.ntmps70
    go_wp2_with fail
    refine HX.out.mono ?_
    rintro e w1 ⟨rfl, rfl⟩
    go_wp2
    go_ret
    exact ⟨rfl, Below.refl _ _⟩
  have hN : roomN ks k = if nearK ks k then 3 else 0 := by rw [roomN, if_neg h1, if_neg h2]
  rw [hN, if_neg h1] at *
  clear hN h1
  have HS := Lib.hid (fun i (hi : i < ks.length) => near_step ks k i hi)
  have HH := Lib.hid (fun i (hi : i < ks.length) => near_hit ks k i hi)
  generalize hG : (if nearK ks k = true then 3 else 0) = G
  have HG := Lib.hid hG; clear hG
  go_enter Tryd.func70, Tryd.ntmps70
  go_wp2_with fail
  refine HX.out.mono ?_
  rintro e w1 ⟨rfl, rfl⟩
  go_wp2_with fail
  go_loopw [20] (fun i wr => ∃ j : Nat, j ≤ ks.length ∧ i = .int .i64 (j : Int) ∧ nearK (ks.take j) k = false ∧ Below w.heap.size w wr) (fun i _ => ks.length - (intOf i).toNat)
  case atStart => exact ⟨0, by omega, rfl, rfl, Below.refl _ _⟩
  case round =>
    obtain ⟨j, hj, rfl, hnf, hb⟩ := hrel
    have hsz := hb.size
    by_cases hlt : j < ks.length
    · obtain ⟨b2, off, rfl, hkk⟩ := R.out j hlt
      have hokj := HOK.out ks[j] (List.getElem_mem hlt)
      have hst := HS.out j hlt
      have hht := HH.out j hlt
      obtain ⟨hlb2, ⟨d0, d1, d2, d3, d4, d5, d6⟩, hrd⟩ := CrAt_kept hkk hb
      clear hrd hkk d0 d3 d4 d5 d6
      generalize ks[j].1 = kj at *
      have f1 : wr.cell? ⟨b, o + 1, none⟩ = some (.int .i64 k.x) := by rw [kept_cell hb b _ hlb]; exact c1
      have f2 : wr.cell? ⟨b, o + 2, none⟩ = some (.int .i64 k.y) := by rw [kept_cell hb b _ hlb]; exact c2
      have hna := fun m => near_any kj.x kj.y k.x k.y 10 hokj hkp (by omega) (wr.drewN m)
      rw [hnf, Bool.false_or] at hst
      cases hd : decide (sqD kj.x kj.y k.x k.y ≤ 10 * 10)
      · rw [hd] at hna
        have hd2 : decide (sqD kj.x kj.y k.x k.y ≤ 100) = false := hd
        rw [hd2] at hst
        have HST := Lib.hid hst; clear hst hht
        have HNA := Lib.hid hna; clear hna hd hd2
        go_wp2_with fail
        go_cut [32] (fun s32 w' => s32 = .bool false ∧ Below w.heap.size w w')
        case first =>
          go_region_with ((go_at_call 81; refine (HNA.out 1).mono ?_; rintro e w2 ⟨rfl, hb2⟩; have b2' := kept_trans (a := w) (kept_drewN hb 1) hb2))
          all_goals
            go_wp2_with fail
            go_meet
            case rel => exact ⟨rfl, b2'⟩
        case rest =>
        obtain ⟨rfl, hbc⟩ := hcut
        go_wp2
        go_roundw
        case rel => exact ⟨j + 1, by omega, by go_num, HST.out, hbc⟩
        case measure => simp [intOf]; omega
      · rw [hd] at hna
        have hd2 := of_decide_eq_true hd
        have hnk : nearK ks k = true := hht (by omega)
        have hg : G = 3 := by rw [← HG.out, if_pos hnk]
        have HNK := Lib.hid hg; clear hg hnk hht hst
        have HNA := Lib.hid hna; clear hna hd hd2
        go_wp2_with fail
        go_cut [32] (fun s32 w' => s32 = .bool true ∧ Below w.heap.size w w')
        case first =>
          go_region_with ((go_at_call 81; refine (HNA.out 1).mono ?_; rintro e w2 ⟨rfl, hb2⟩; have b2' := kept_trans (a := w) (kept_drewN hb 1) hb2))
          all_goals
            go_wp2_with fail
            go_meet
            case rel => exact ⟨rfl, b2'⟩
        case rest =>
        obtain ⟨rfl, hbc⟩ := hcut
        obtain ⟨_, _, _, e3'⟩ := errAt_kept HE.out hbc
        go_wp2
        go_ret
        exact ⟨by rw [HNK.out]; rfl, hbc⟩
    · have : j = ks.length := by omega
      subst this
      rw [List.take_length] at hnf
      have hg : G = 0 := by rw [← HG.out, hnf]; rfl
      have HNF := Lib.hid hg; clear hg hnf
      go_wp2
      go_ret
      exact ⟨by rw [HNF.out]; rfl, hb⟩

/-- The first n cranes of a site are valid, have different names and stand more than 10 apart. -/
def siteOk (ks : List (Cr × Value)) (n : Nat) : Prop := ∀ i (hi : i < ks.length), i < n → craneB ks[i].1 = true ∧ ∀ j (hj : j < ks.length), j < i → ¬ ks[j].1.nm = ks[i].1.nm ∧ 100 < sqD ks[j].1.x ks[j].1.y ks[i].1.x ks[i].1.y

def SiteP (ks : List (Cr × Value)) : Prop := siteOk ks ks.length ∧ 1 ≤ ks.length ∧ ks.length ≤ 6

open Classical in
/-- The site is valid. -/
noncomputable def siteB (ks : List (Cr × Value)) : Bool := decide (SiteP ks)

theorem siteB_true {ks : List (Cr × Value)} (h : SiteP ks) : siteB ks = true := by simp [siteB, h]

theorem siteB_false {ks : List (Cr × Value)} (h : ¬ SiteP ks) : siteB ks = false := by simp [siteB, h]

theorem siteOk_step {ks : List (Cr × Value)} {n : Nat} (h : siteOk ks n) (hn : n < ks.length) (h1 : craneB ks[n].1 = true) (h2 : ∀ j (hj : j < ks.length), j < n → ¬ ks[j].1.nm = ks[n].1.nm ∧ 100 < sqD ks[j].1.x ks[j].1.y ks[n].1.x ks[n].1.y) : siteOk ks (n + 1) := by
  intro i hi hlt
  rcases Nat.lt_or_ge i n with h3 | h3
  · exact h i hi h3
  · obtain rfl : i = n := by omega
    exact ⟨h1, h2⟩

theorem room_zero (ks : List (Cr × Value)) (i : Nat) (hi : i < ks.length) :
    roomN (ks.take i) ks[i].1 = 0 ↔ (∀ j (hj : j < ks.length), j < i → ¬ ks[j].1.nm = ks[i].1.nm ∧ 100 < sqD ks[j].1.x ks[j].1.y ks[i].1.x ks[i].1.y) ∧ i < 6 := by
  have hlen : (ks.take i).length = i := by simp; omega
  have hidx : idxK (ks.take i) ks[i].1.nm < (ks.take i).length ↔ ∃ j, ∃ (hj : j < ks.length), j < i ∧ ks[j].1.nm = ks[i].1.nm := by
    unfold idxK
    rw [List.findIdx_lt_length]
    constructor
    · rintro ⟨p, hp, he⟩
      obtain ⟨j, hj, rfl⟩ := List.mem_iff_getElem.1 hp
      rw [hlen] at hj
      refine ⟨j, by omega, hj, ?_⟩
      simpa using he
    · rintro ⟨j, hj, hji, he⟩
      exact ⟨ks[j], List.mem_iff_getElem.2 ⟨j, by rw [hlen]; exact hji, by simp⟩, by simpa using he⟩
  have hnear : nearK (ks.take i) ks[i].1 = true ↔ ∃ j, ∃ (hj : j < ks.length), j < i ∧ sqD ks[j].1.x ks[j].1.y ks[i].1.x ks[i].1.y ≤ 100 := by
    rw [nearK, List.any_eq_true]
    constructor
    · rintro ⟨p, hp, he⟩
      obtain ⟨j, hj, rfl⟩ := List.mem_iff_getElem.1 hp
      rw [hlen] at hj
      refine ⟨j, by omega, hj, ?_⟩
      simpa using he
    · rintro ⟨j, hj, hji, he⟩
      exact ⟨ks[j], List.mem_iff_getElem.2 ⟨j, by rw [hlen]; exact hji, by simp⟩, by simpa using he⟩
  unfold roomN
  rw [hlen] at hidx ⊢
  constructor
  · intro h
    split at h
    · cases h
    · next h1 =>
      split at h
      · cases h
      · next h2 =>
        split at h
        · cases h
        · next h3 =>
          refine ⟨fun j hj hji => ⟨fun he => h1 (hidx.2 ⟨j, hj, hji, he⟩), ?_⟩, by omega⟩
          by_cases h4 : sqD ks[j].1.x ks[j].1.y ks[i].1.x ks[i].1.y ≤ 100
          · exact absurd (hnear.2 ⟨j, hj, hji, h4⟩) h3
          · omega
  · rintro ⟨h, h6⟩
    rw [if_neg (fun hq => by obtain ⟨j, hj, hji, he⟩ := hidx.1 hq; exact (h j hj hji).1 he), if_neg (by omega), if_neg (fun hq => by obtain ⟨j, hj, hji, he⟩ := hnear.1 hq; have := (h j hj hji).2; omega)]

theorem RdK_take {w : World} {A : Option Addr} {c : Nat} {ks : List (Cr × Value)} (h : RdK w (.slice A ks.length c) ks) (i : Nat) (hi : i ≤ ks.length) : RdK w (.slice A i c) (ks.take i) := by
  obtain ⟨⟨hl, hx, A', c', e, hr⟩, hcs⟩ := h
  cases e
  have hlen : (ks.take i).length = i := by simp; omega
  refine ⟨⟨by omega, flatK_len _, A, c, by rw [hlen], fun k hk => ?_⟩, fun p hp => hcs p (List.mem_of_mem_take hp)⟩
  rw [hlen] at hk
  obtain ⟨b, off, e, hlt, hc⟩ := hr k (by omega)
  refine ⟨b, off, e, hlt, ?_⟩
  rw [hc, ← flatK_take (ks.take i) (ks.drop i), List.take_append_drop, hlen, List.getElem?_take, if_pos hk]

set_option maxHeartbeats 2000000 in
theorem implSite_any (A : Option Addr) (c : Nat) (ks : List (Cr × Value)) (r1 r2 r3 : Value) (w : World) (h : RdK w (.slice A ks.length c) ks) (hc : ks.length ≤ c) (hn : ∀ p ∈ ks, p.1.nm.size ≤ 1000000) (he : errAt w r1 r2 r3)
    (hi1 : ∃ t p, r1 = .iface t p) (hi2 : ∃ t p, r2 = .iface t p) (hi3 : ∃ t p, r3 = .iface t p) :
    Calls Tryd.prog 36 #[.agg #[.slice A ks.length c]] w fun e w' => e = .returned (.bool (siteB ks)) ∧ Below w.heap.size w w' := by
  have HE := Lib.hid he; clear he
  have hV : ∀ n, n ≠ 0 → ∃ t p, roomV r1 r2 r3 n = .iface t p := by
    intro n hn
    match n, hn with
    | 1, _ => exact hi1
    | 2, _ => exact hi2
    | n + 3, _ => exact hi3
  have HV := Lib.hid hV; clear hV hi1 hi2 hi3
  obtain ⟨A', c', e, hl, r⟩ := RdK_at h
  cases e
  have H := Lib.hid h; clear h
  have R := Lib.hid r; clear r
  have HN := Lib.hid hn; clear hn
  have HZ := Lib.hid (fun i (hi : i < ks.length) => room_zero ks i hi)
  have hbad : ∀ i (hi : i < ks.length), ¬ (craneB ks[i].1 = true ∧ roomN (ks.take i) ks[i].1 = 0) → siteB ks = false := by
    intro i hi hno
    refine siteB_false fun hs => hno ?_
    have := hs.1 i hi hi
    exact ⟨this.1, (room_zero ks i hi).2 ⟨this.2, by have := hs.2; omega⟩⟩
  have HBAD := Lib.hid hbad; clear hbad
  generalize hG : siteB ks = G at *
  have HG := Lib.hid hG; clear hG
  go_enter Tryd.func36, Tryd.ntmps36
  go_wp2_with fail
  go_loopw [8] (fun i wr => ∃ j : Nat, j ≤ ks.length ∧ i = .int .i64 (j : Int) ∧ siteOk ks j ∧ j ≤ 6 ∧ wr.cell? ⟨w.heap.size, 0, none⟩ = some (.slice A ks.length c) ∧ w.heap.size < wr.heap.size ∧ Below w.heap.size w wr) (fun i _ => ks.length - (intOf i).toNat)
  case atStart => exact ⟨0, by omega, rfl, fun i _ h => by omega, by omega, by simp, by simp, by go_grown⟩
  case round =>
    obtain ⟨j, hj, rfl, hok, hj6, hbox, hlw, hb⟩ := hrel
    have hsz := hb.size
    by_cases hlt : j < ks.length
    · obtain ⟨b, off, rfl, hkk⟩ := R.out j hlt
      have hkk := CrAt_kept hkk hb
      have HKK := Lib.hid hkk
      have hz := HZ.out j hlt
      have hbd := HBAD.out j hlt
      have hnm := HN.out ks[j] (List.getElem_mem hlt)
      have hstep := @siteOk_step ks j hok hlt
      have hokp : ∀ p ∈ ks.take j, okP p.1.x p.1.y = true := by
        intro p hp
        obtain ⟨i, hi, rfl⟩ := List.mem_iff_getElem.1 hp
        have hi2 : i < j := by simpa using (by simp at hi; omega : i < j)
        rw [List.getElem_take]
        exact (craneB_true (hok i (by omega) hi2).1).1
      obtain ⟨hlb, ⟨c0, c1, c2, c3, c4, c5, c6⟩, hrc⟩ := hkk
      generalize ks[j].1 = k at *
      generalize ks[j].2 = cv at *
      obtain ⟨A2, cp2, rfl, _, _⟩ := RdP_slice hrc
      have HC := Lib.hid (implCrane_any k _ wr hrc hnm)
      clear hrc
      cases hcr : craneB k
      · have hg := hbd (by rw [hcr]; simp)
        rw [hcr] at HC
        have HGG := Lib.hid hg; clear hg hbd hz hstep hokp
        go_wp2_with fail
        refine HC.out.mono ?_
        rintro e w1 ⟨rfl, hb1⟩
        go_wp2
        go_ret
        exact ⟨by rw [HGG.out]; rfl, kept_trans hb hb1⟩
      · rw [hcr] at HC
        have hkp := (craneB_true hcr).1
        have HRF := Lib.hid (fun u (q : RdK u (.slice (some ⟨b, off, none⟩) j c) (ks.take j)) (q2 : CrAt u b (off + j * 7) k (.slice A2 k.ch.length cp2)) (q3 : errAt u r1 r2 r3) => roomFor_any _ (ks.take j) _ _ k _ r1 r2 r3 u q q2 hokp hkp q3)
        generalize hm : roomN (ks.take j) k = m at *
        have hjc : j ≤ c := by omega
        by_cases h0 : m = 0
        · subst h0
          have hz1 := hz.1 rfl
          have hst := hstep hcr hz1.1
          have HST := Lib.hid hst; clear hst hstep hz hbd hokp
          go_wp2_with fail
          refine HC.out.mono ?_
          rintro e w1 ⟨rfl, hb1⟩
          have b1 := kept_trans hb hb1
          have hbox1 : w1.cell? ⟨w.heap.size, 0, none⟩ = some (.slice (some ⟨b, off, none⟩) ks.length c) := by rw [kept_cell hb1 _ 0 hlw]; exact hbox
          go_wp2_with fail
          refine (HRF.out w1 (RdK_take (RdK_kept H.out b1) j hj) (CrAt_kept HKK.out hb1) (errAt_kept HE.out b1)).mono ?_
          rintro e w2 ⟨rfl, hb2⟩
          have b2 := kept_trans b1 hb2
          have hlw1 := Nat.lt_of_lt_of_le hlw hb1.size
          have hbox2 : w2.cell? ⟨w.heap.size, 0, none⟩ = some (.slice (some ⟨b, off, none⟩) ks.length c) := by rw [kept_cell hb2 _ 0 hlw1]; exact hbox1
          have hlw2 := Nat.lt_of_lt_of_le hlw1 hb2.size
          simp only [roomV]
          go_wp2
          go_roundw
          case rel => exact ⟨j + 1, by omega, by go_num, HST.out, by omega, hbox2, hlw2, b2⟩
          case measure => simp [intOf]; omega
        · have hg := hbd (fun hq => h0 hq.2)
          obtain ⟨te, pe, hre⟩ := HV.out m h0
          rw [hre] at HRF
          have HGG := Lib.hid hg; clear hg hbd hz hstep hokp hre
          go_wp2_with fail
          refine HC.out.mono ?_
          rintro e w1 ⟨rfl, hb1⟩
          have b1 := kept_trans hb hb1
          have hbox1 : w1.cell? ⟨w.heap.size, 0, none⟩ = some (.slice (some ⟨b, off, none⟩) ks.length c) := by rw [kept_cell hb1 _ 0 hlw]; exact hbox
          go_wp2_with fail
          refine (HRF.out w1 (RdK_take (RdK_kept H.out b1) j hj) (CrAt_kept HKK.out hb1) (errAt_kept HE.out b1)).mono ?_
          rintro e w2 ⟨rfl, hb2⟩
          have b2 := kept_trans b1 hb2
          go_wp2
          go_ret
          exact ⟨by rw [HGG.out]; rfl, b2⟩
    · have : j = ks.length := by omega
      subst this
      have hE : G = decide (0 < ks.length) := by
        rw [← HG.out]
        by_cases h0 : 0 < ks.length
        · rw [siteB_true ⟨hok, by omega, hj6⟩]; simp [h0]
        · rw [siteB_false (fun h => by have := h.2; omega)]; simp [h0]
      have HEE := Lib.hid hE; clear hE hok
      go_wp2
      go_ret
      exact ⟨by rw [HEE.out]; simp, hb⟩

set_option maxHeartbeats 4000000 in
theorem specSite_any (b0 o0 : Nat) (A : Option Addr) (c : Nat) (ks : List (Cr × Value)) (w : World) (h : RdK w (.slice A ks.length c) ks) (hlt0 : b0 < w.heap.size) (hv : w.cell? ⟨b0, o0, none⟩ = some (.slice A ks.length c)) (hn : ∀ p ∈ ks, p.1.nm.size ≤ 1000000) :
    Calls Tryd.prog 74 #[.pointer (some ⟨b0, o0, none⟩)] w fun e w' => e = .returned (.bool (siteB ks)) ∧ Below w.heap.size w w' := by
  obtain ⟨A', c', e, hl, r⟩ := RdK_at h
  cases e
  clear h
  have R := Lib.hid r; clear r
  have HN := Lib.hid hn; clear hn
  have hbad1 : ∀ i (hi : i < ks.length), ¬ craneB ks[i].1 = true → siteB ks = false := fun i hi hno => siteB_false fun hs => hno (hs.1 i hi hi).1
  have hbad2 : ∀ i (hi : i < ks.length) j (hj : j < ks.length), j < i → ¬ (¬ ks[j].1.nm = ks[i].1.nm ∧ 100 < sqD ks[j].1.x ks[j].1.y ks[i].1.x ks[i].1.y) → siteB ks = false := fun i hi j hj hji hno => siteB_false fun hs => hno ((hs.1 i hi hi).2 j hj hji)
  have hend : siteOk ks ks.length → siteB ks = inB (ks.length : Int) 1 6 := by
    intro hok
    by_cases h6 : 1 ≤ ks.length ∧ ks.length ≤ 6
    · rw [siteB_true ⟨hok, h6⟩]; simp [inB]; omega
    · rw [siteB_false (fun hs => h6 hs.2)]; simp [inB]; omega
  have HB1 := Lib.hid hbad1; clear hbad1
  have HB2 := Lib.hid hbad2; clear hbad2
  have HEND := Lib.hid hend; clear hend
  generalize hG : siteB ks = G at *
  clear hG
  go_enter Tryd.func74, Tryd.ntmps74
  go_wp2_with fail
  go_loopw [3] (fun i wr => ∃ n : Nat, n ≤ ks.length ∧ i = .int .i64 (n : Int) ∧ siteOk ks n ∧ Below w.heap.size w wr) (fun i _ => ks.length - (intOf i).toNat)
  case atStart => exact ⟨0, by omega, rfl, fun i _ h => by omega, Below.refl _ _⟩
  case round =>
    obtain ⟨n, hnl, rfl, hok, hb⟩ := hrel
    have hbox : _ := hv
    rw [← kept_cell hb b0 _ hlt0] at hbox
    by_cases hlt : n < ks.length
    · obtain ⟨b, off, rfl, hkk⟩ := R.out n hlt
      have hHC := specCrane_any b (off + n * 7) ks[n].1 ks[n].2 wr (CrAt_kept hkk hb) (HN.out ks[n] (List.getElem_mem hlt))
      cases hcr : craneB ks[n].1
      · have hg := HB1.out n hlt (by rw [hcr]; simp)
        rw [hcr] at hHC
        have HC := Lib.hid hHC; clear hHC hok
        go_wp2_with fail
        refine HC.out.mono ?_
        rintro e w1 ⟨rfl, hb1⟩
        go_wp2
        go_ret
        exact ⟨by rw [hg]; rfl, kept_trans hb hb1⟩
      · rw [hcr] at hHC
        have HC := Lib.hid hHC; clear hHC
        have HOK := Lib.hid hok; clear hok
        have hkp := (craneB_true hcr).1
        go_wp2_with fail
        refine HC.out.mono ?_
        rintro e w1 ⟨rfl, hb1⟩
        have b1 := kept_trans hb hb1
        go_wp2_with fail
        go_loopw [4] (fun i wr => ∃ m : Nat, m ≤ n ∧ i = .int .i64 (m : Int) ∧ (∀ j (hj : j < ks.length), j < m → ¬ ks[j].1.nm = ks[n].1.nm ∧ 100 < sqD ks[j].1.x ks[j].1.y ks[n].1.x ks[n].1.y) ∧ Below w.heap.size w wr) (fun i _ => n - (intOf i).toNat)
        case atStart => exact ⟨0, by omega, rfl, fun j _ h => by omega, b1⟩
        case round =>
          obtain ⟨m, hm, rfl, hall, hb⟩ := hrel
          have hbox2 : _ := hv
          rw [← kept_cell hb b0 _ hlt0] at hbox2
          by_cases hm2 : m < n
          · have hml : m < ks.length := by omega
            obtain ⟨b', off', e', hkm⟩ := R.out m hml
            cases e'
            have hg2 := HB2.out n hlt m hml hm2
            have hokm := (craneB_true (HOK.out m hml hm2).1).1
            have hstep : (¬ ks[m].1.nm = ks[n].1.nm ∧ 100 < sqD ks[m].1.x ks[m].1.y ks[n].1.x ks[n].1.y) → ∀ j (hj : j < ks.length), j < m + 1 → ¬ ks[j].1.nm = ks[n].1.nm ∧ 100 < sqD ks[j].1.x ks[j].1.y ks[n].1.x ks[n].1.y := by
              intro hx j hj hjm
              rcases Nat.lt_or_ge j m with h3 | h3
              · exact hall j hj h3
              · obtain rfl : j = m := by omega
                exact hx
            have HALL := Lib.hid hall; clear hall
            obtain ⟨hlbw, ⟨c0, c1, c2, c3, c4, c5, c6⟩, _⟩ := CrAt_kept hkm hb
            have hb0w : b0 < wr.heap.size := Nat.lt_of_lt_of_le hlt0 hb.size
            obtain ⟨_, ⟨d0, d1, d2, d3, d4, d5, d6⟩, _⟩ := CrAt_kept hkk hb
            clear c3 c4 c5 c6 d3 d4 d5 d6
            have hfar := fun u => far_any ks[m].1.x ks[m].1.y ks[n].1.x ks[n].1.y 10 hokm hkp (by omega) u
            have HSTEP := Lib.hid hstep; clear hstep
            have HKM := Lib.hid hkm; clear hkm
            have HKP := Lib.hid hkp
            have HC0 := Lib.hid hkk
            by_cases hnm : ks[m].1.nm = ks[n].1.nm
            · have hg := hg2 (fun hx => hx.1 hnm)
              rw [hnm] at c0
              clear hfar hg2 hnm hokm hkp hcr
              generalize ks[m].1 = km at *
              generalize ks[n].1 = kn at *
              go_wp2_with fail
              go_quiet (fail)
              go_wp2
              go_ret
              exact ⟨by rw [hg]; rfl, kept_drewN hb _⟩
            · have hne := str_ne hnm
              by_cases hd : 100 < sqD ks[m].1.x ks[m].1.y ks[n].1.x ks[n].1.y
              · have hdd : decide (10 * 10 < sqD ks[m].1.x ks[m].1.y ks[n].1.x ks[n].1.y) = true := by simp; omega
                rw [hdd] at hfar
                have HNX := Lib.hid (HSTEP.out ⟨hnm, hd⟩)
                have HF := Lib.hid hfar; clear hfar hdd hd hnm hg2 hokm hkp hcr
                generalize ks[m].1 = km at *
                generalize ks[n].1 = kn at *
                go_wp2_with fail
                go_region_held3 (fun w' => w'.cell? ⟨b0, o0, none⟩ = some (.slice (some ⟨b, off, none⟩) ks.length c) ∧ w'.cell? ⟨b, off + m * 7, none⟩ = some (.string km.nm) ∧ w'.cell? ⟨b, off + m * 7 + 1, none⟩ = some (.int .i64 km.x) ∧ w'.cell? ⟨b, off + m * 7 + 2, none⟩ = some (.int .i64 km.y) ∧ w'.cell? ⟨b, off + n * 7, none⟩ = some (.string kn.nm) ∧ w'.cell? ⟨b, off + n * 7 + 1, none⟩ = some (.int .i64 kn.x) ∧ w'.cell? ⟨b, off + n * 7 + 2, none⟩ = some (.int .i64 kn.y) ∧ Below w.heap.size w w') (first | (refine ⟨?_, ?_, ?_, ?_, ?_, ?_, ?_, ?_⟩ <;> first | (go_grown; done) | (go_keep; done)) | (exact ⟨(kept_cell hb1 b0 _ hb0w).trans hbox2, (kept_cell hb1 b _ hlbw).trans c0, (kept_cell hb1 b _ hlbw).trans c1, (kept_cell hb1 b _ hlbw).trans c2, (kept_cell hb1 b _ hlbw).trans d0, (kept_cell hb1 b _ hlbw).trans d1, (kept_cell hb1 b _ hlbw).trans d2, hbw⟩))
                  ((go_at_call 83; refine (HF.out _).mono ?_; rintro e w1 ⟨rfl, hb1⟩; have hcl := kept_cell hb1; have hbw := kept_trans (a := w) (kept_drewN hb 1) hb1))
                go_wp2
                go_roundw
                case rel => exact ⟨m + 1, by omega, by go_num, HNX.out, by assumption⟩
                case measure => simp [intOf]; omega
              · have hdd : decide (10 * 10 < sqD ks[m].1.x ks[m].1.y ks[n].1.x ks[n].1.y) = false := by simp; omega
                rw [hdd] at hfar
                have hg := hg2 (fun hx => hd hx.2)
                have HF := Lib.hid hfar; clear hfar hdd hd hnm hg2 hokm hkp hcr
                generalize ks[m].1 = km at *
                generalize ks[n].1 = kn at *
                go_wp2_with fail
                go_region_held3 (fun w' => w'.cell? ⟨b0, o0, none⟩ = some (.slice (some ⟨b, off, none⟩) ks.length c) ∧ w'.cell? ⟨b, off + m * 7, none⟩ = some (.string km.nm) ∧ w'.cell? ⟨b, off + m * 7 + 1, none⟩ = some (.int .i64 km.x) ∧ w'.cell? ⟨b, off + m * 7 + 2, none⟩ = some (.int .i64 km.y) ∧ w'.cell? ⟨b, off + n * 7, none⟩ = some (.string kn.nm) ∧ w'.cell? ⟨b, off + n * 7 + 1, none⟩ = some (.int .i64 kn.x) ∧ w'.cell? ⟨b, off + n * 7 + 2, none⟩ = some (.int .i64 kn.y) ∧ Below w.heap.size w w') (first | (refine ⟨?_, ?_, ?_, ?_, ?_, ?_, ?_, ?_⟩ <;> first | (go_grown; done) | (go_keep; done)) | (exact ⟨(kept_cell hb1 b0 _ hb0w).trans hbox2, (kept_cell hb1 b _ hlbw).trans c0, (kept_cell hb1 b _ hlbw).trans c1, (kept_cell hb1 b _ hlbw).trans c2, (kept_cell hb1 b _ hlbw).trans d0, (kept_cell hb1 b _ hlbw).trans d1, (kept_cell hb1 b _ hlbw).trans d2, hbw⟩))
                  ((go_at_call 83; refine (HF.out _).mono ?_; rintro e w1 ⟨rfl, hb1⟩; have hcl := kept_cell hb1; have hbw := kept_trans (a := w) (kept_drewN hb 1) hb1))
                go_wp2
                go_ret
                exact ⟨by rw [hg]; rfl, by assumption⟩
          · have : m = n := by omega
            subst this
            have hst := siteOk_step HOK.out hlt hcr hall
            have HST := Lib.hid hst; clear hst hall
            go_wp2
            go_roundw
            case rel => exact ⟨m + 1, by omega, by go_num, HST.out, hb⟩
            case measure => simp [intOf]; omega
    · have : n = ks.length := by omega
      subst this
      have hE := HEND.out hok
      clear hok
      go_wp2_with (go_at_call 120; refine (in_any _ _ _ _).mono ?_; rintro e w1 ⟨rfl, rfl⟩)
      go_ret
      exact ⟨by rw [hE]; rfl, hb⟩

theorem totK_mem {ks : List (Cr × Value)} {p : Cr × Value} (h : p ∈ ks) : p.1.nm.size + p.1.ch.length ≤ totK ks := by
  induction ks with
  | nil => cases h
  | cons q ks ih =>
    simp only [totK]
    rcases List.mem_cons.1 h with rfl | h
    · omega
    · have := ih h
      omega

theorem szS_any (c : Value) (ks : List (Cr × Value)) (left : Int) (w : World) (h : RdK w c ks) (hl : 0 ≤ left ∧ left ≤ 1000000) (hw : ∀ p ∈ ks, wfK p.1) :
    Calls Tryd.prog 34 #[.agg #[c], .int .i64 left] w fun e w' => e = .returned (.int .i64 (if (ks.length : Int) + totK ks ≤ left then left - ks.length - totK ks else -1)) ∧ Below w.heap.size w w' := by
  obtain ⟨A, cp, rfl, _, _⟩ := RdK_at h
  have H := Lib.hid h; clear h
  have HQ := Lib.hid (fun u q => szKs_any (.slice A ks.length cp) ks left u q hl hw)
  by_cases h1 : (ks.length : Int) + totK ks ≤ left
  all_goals
    simp only [h1, if_true, if_false] at HQ ⊢
    have hle : 0 ≤ left - (ks.length : Int) - (totK ks : Nat) ∨ True := Or.inr trivial
    generalize (totK ks : Int) = tk at *
    go_enter Tryd.func34, Tryd.ntmps34
    go_wp2_with fail
    refine (HQ.out _ (RdK_kept H.out (by go_grown))).mono ?_
    rintro e w1 ⟨rfl, hb1⟩
    have b1 := kept_trans (a := w) (by go_grown) hb1
    go_wp2
    go_ret
    exact ⟨rfl, b1⟩

theorem intactS_same (ks : List Cr) (c1 c2 : Value) (lo1 hi1 lo2 hi2 : Nat) (w : World) (h1 : SiteC w lo1 hi1 c1 ks) (h2 : SiteC w lo2 hi2 c2 ks) :
    Calls Tryd.prog 37 #[.agg #[c1], .agg #[c2]] w fun e w' => e = .returned (.bool true) ∧ Below w.heap.size w w' := by
  obtain ⟨T1, r1, _⟩ := SiteC_rd h1
  obtain ⟨T2, r2, _⟩ := SiteC_rd h2
  obtain ⟨A1, cp1, rfl, _, _⟩ := RdK_at r1
  obtain ⟨A2, cp2, rfl, _, _⟩ := RdK_at r2
  clear r1 r2
  have H1 := Lib.hid h1; clear h1
  have H2 := Lib.hid h2; clear h2
  go_enter Tryd.func37, Tryd.ntmps37
  go_wp2_with fail
  refine (intactKs_same _ _ ks _ _ _ _ _ (SiteC_kept H1.out (by go_grown)) (SiteC_kept H2.out (by go_grown))).mono ?_
  rintro e w1 ⟨rfl, hb1⟩
  have b1 := kept_trans (a := w) (by go_grown) hb1
  go_wp2
  go_ret
  exact ⟨rfl, b1⟩

theorem map_at {T ks : List (Cr × Value)} (h : T.map (·.1) = ks.map (·.1)) : T.length = ks.length ∧ ∀ i (h1 : i < T.length) (h2 : i < ks.length), T[i].1 = ks[i].1 := by
  refine ⟨by have := congrArg List.length h; simpa using this, fun i h1 h2 => ?_⟩
  have := congrArg (·[i]?) h
  simpa [h1, h2] using this

theorem siteP_map {T ks : List (Cr × Value)} (h : T.map (·.1) = ks.map (·.1)) (hp : SiteP T) : SiteP ks := by
  obtain ⟨hl, he⟩ := map_at h
  obtain ⟨h1, h2, h3⟩ := hp
  refine ⟨fun i hi hn => ?_, by omega, by omega⟩
  have g := h1 i (by omega) (by omega)
  rw [he i (by omega) hi] at g
  refine ⟨g.1, fun j hj hji => ?_⟩
  have := g.2 j (by omega) hji
  rw [he j (by omega) hj] at this
  exact this

theorem siteB_map {T ks : List (Cr × Value)} (h : T.map (·.1) = ks.map (·.1)) : siteB T = siteB ks := by
  unfold siteB
  congr 1
  exact propext ⟨siteP_map h, siteP_map h.symm⟩

theorem names_map {T ks : List (Cr × Value)} (h : T.map (·.1) = ks.map (·.1)) (hn : ∀ p ∈ ks, p.1.nm.size ≤ 1000000) : ∀ p ∈ T, p.1.nm.size ≤ 1000000 := by
  intro p hp
  have : p.1 ∈ T.map (·.1) := List.mem_map.2 ⟨p, hp, rfl⟩
  rw [h] at this
  obtain ⟨q, hq, e⟩ := List.mem_map.1 this
  rw [← e]
  exact hn q hq

/-- The three variables hold errors. -/
def Ers (w : World) : Prop := ErrVar w 0 ∧ ErrVar w 1 ∧ ErrVar w 2

theorem Ers_kept {W w1 : World} (h : Ers W) (hb : Below W.heap.size W w1) : Ers w1 := ⟨ErrVar_kept h.1 hb, ErrVar_kept h.2.1 hb, ErrVar_kept h.2.2 hb⟩

theorem implVS_any (c : Value) (T ks : List (Cr × Value)) (w : World) (h : RdK w c T) (hcap : ∃ A cp, c = .slice A T.length cp ∧ T.length ≤ cp) (hm : T.map (·.1) = ks.map (·.1)) (hn : ∀ p ∈ ks, p.1.nm.size ≤ 1000000) (he : Ers w) :
    Calls Tryd.prog 36 #[.agg #[c]] w fun e w' => e = .returned (.bool (siteB ks)) ∧ Below w.heap.size w w' := by
  rw [← siteB_map hm]
  obtain ⟨A, cp, rfl, hc⟩ := hcap
  obtain ⟨⟨g1, t1, p1, c1⟩, ⟨g2, t2, p2, c2⟩, g3, t3, p3, c3⟩ := he
  exact implSite_any A cp T _ _ _ w h hc (names_map hm hn) ⟨⟨g1, c1⟩, ⟨g2, c2⟩, g3, c3⟩ ⟨_, _, rfl⟩ ⟨_, _, rfl⟩ ⟨_, _, rfl⟩

theorem SiteC_use {w : World} {lo hi : Nat} {v : Value} {ks : List Cr} (h : SiteC w lo hi v ks) : ∃ T : List (Cr × Value), RdK w v T ∧ (∃ A cp, v = .slice A T.length cp ∧ T.length ≤ cp) ∧ T.map (·.1) = ks := by
  obtain ⟨T, hR, hT⟩ := SiteC_rd h
  obtain ⟨g, _, _, e, _, _, _, _⟩ := SiteC_open h
  have hl : T.length = ks.length := by rw [← hT]; simp
  exact ⟨T, hR, ⟨_, _, by rw [e, hl], by omega⟩, hT⟩

/-- Nothing that lay before is otherwise, but in the blocks from lo up to hi. -/
structure Within (lo hi : Nat) (w w' : World) : Prop where
  os : w'.os = w.os
  tape : w'.tape = w.tape
  output : w'.output = w.output
  size : w.heap.size ≤ w'.heap.size
  block : ∀ k, k < w.heap.size → (k < lo ∨ hi ≤ k) → w'.heap[k]? = w.heap[k]?

theorem Within_refl (lo hi : Nat) (w : World) : Within lo hi w w := ⟨rfl, rfl, rfl, Nat.le_refl _, fun _ _ _ => rfl⟩

theorem Within_trans {lo hi : Nat} {a b c : World} (h : Within lo hi a b) (k : Within lo hi b c) : Within lo hi a c :=
  ⟨k.os.trans h.os, k.tape.trans h.tape, k.output.trans h.output, Nat.le_trans h.size k.size, fun i hi hn => (k.block i (Nat.lt_of_lt_of_le hi h.size) hn).trans (h.block i hi hn)⟩

theorem Within_below {lo hi : Nat} {a b : World} (h : Below a.heap.size a b) : Within lo hi a b := ⟨h.os, h.tape, h.output, h.size, fun i hi _ => h.block i hi⟩

theorem Within_grown {lo hi : Nat} {a b : World} {row : Option Nat} (h : a.grownBy b row) (hr : ∀ g, row = some g → lo ≤ g ∧ g < hi) : Within lo hi a b :=
  ⟨h.os, h.tape, h.output, h.size, fun i hi' hn => h.block i hi' (fun e => by have := hr i e.symm; omega)⟩

/-- What lay before a point is as it was. -/
theorem Below_within {lo hi B : Nat} {a b c : World} (h : Below B a b) (k : Within lo hi b c) (hB : B ≤ lo) (hs : B ≤ a.heap.size) : Below B a c :=
  ⟨k.os.trans h.os, k.tape.trans h.tape, k.output.trans h.output, Nat.le_trans h.size k.size, fun i hi => (k.block i (by have := h.size; omega) (by omega)).trans (h.block i hi)⟩

theorem own_within {W w1 : World} {lo hi base : Nat} {e : TypeId} {size : Nat} {v : Value} {n : Nat} {xs : List Value} (h : W.ownsRow base e size v n xs) (k : Within lo hi W w1) (hd : ∀ g, v.ownBlock = some g → g < lo ∨ hi ≤ g) : w1.ownsRow base e size v n xs := by
  refine ⟨h.1, ?_⟩
  rcases h.2 with h2 | ⟨g, cap, cur, hv, hg, hh, r⟩
  · exact Or.inl h2
  · refine Or.inr ⟨g, cap, cur, hv, hg, ?_, r⟩
    rw [k.block g (h.lt g (by rw [hv]; rfl)).2 (hd g (by rw [hv]; rfl))]
    exact hh

theorem RowI_within {W w1 : World} {lo hi lo' hi' : Nat} {v : Value} {zs : List Int} (h : RowI W lo' hi' v zs) (k : Within lo hi W w1) (hd : hi' ≤ lo ∨ hi ≤ lo') : RowI w1 lo' hi' v zs :=
  ⟨own_within h.1 k (fun g hg => by have := h.2 g hg; omega), h.2⟩

theorem CopyC_far {W w1 : World} {lo hi : Nat} {v : Value} {zs : List (Int × Int)} {row : Option Nat} (h : CopyC W lo hi v zs) (hg : W.grownBy w1 row) (hr : row ≠ some (blkOf v)) : CopyC w1 lo hi v zs := by
  obtain ⟨hl, g, rfl, hr'⟩ := h
  refine ⟨hl, g, rfl, hr'.1.kept hg (Or.inr fun e => hr ?_), hr'.2⟩
  rw [← e]
  rfl

/-- How many steps the charts of cranes have. -/
def chS : List Cr → Nat
  | [] => 0
  | k :: ks => k.ch.length + chS ks

theorem chS_step (ks : List Cr) (i : Nat) (h : i < ks.length) : chS (ks.drop i) = ks[i].ch.length + chS (ks.drop (i + 1)) := by
  rw [List.drop_eq_getElem_cons h]
  rfl

theorem chS_tot (ks : List (Cr × Value)) : chS (ks.map (·.1)) ≤ totK ks := by
  induction ks with
  | nil => simp [chS, totK]
  | cons p ks ih =>
    simp only [List.map_cons, chS, totK]
    omega

theorem chS_mem {ks : List Cr} {k : Cr} (h : k ∈ ks) : k.ch.length ≤ chS ks := by
  induction ks with
  | nil => cases h
  | cons q ks ih =>
    simp only [chS]
    rcases List.mem_cons.1 h with rfl | h
    · omega
    · have := ih h
      omega

/-- Six cells of a crane are stored anew. -/
abbrev set6 (w : World) (g o : Nat) (u0 u1 u2 u3 u4 u5 : Value) : World := (((((w.setCell ⟨g, o, none⟩ u0).setCell ⟨g, o + 1, none⟩ u1).setCell ⟨g, o + 2, none⟩ u2).setCell ⟨g, o + 3, none⟩ u3).setCell ⟨g, o + 4, none⟩ u4).setCell ⟨g, o + 5, none⟩ u5

theorem set6_own {w : World} {lo e g n cap : Nat} {xs : List Value} (h : w.ownsRow lo e 7 (.slice (some ⟨g, 0, none⟩) n cap) n xs) (o : Nat) (u0 u1 u2 u3 u4 u5 : Value) :
    ∃ xs', (set6 w g o u0 u1 u2 u3 u4 u5).ownsRow lo e 7 (.slice (some ⟨g, 0, none⟩) n cap) n xs' ∧ (∀ i, i < o ∨ o + 6 ≤ i → xs'[i]? = xs[i]?) ∧ w.grownBy (set6 w g o u0 u1 u2 u3 u4 u5) (some g) := by
  have s0 := h.stored o u0
  have s1 := s0.1.stored (o + 1) u1
  have s2 := s1.1.stored (o + 2) u2
  have s3 := s2.1.stored (o + 3) u3
  have s4 := s3.1.stored (o + 4) u4
  have s5 := s4.1.stored (o + 5) u5
  refine ⟨_, s5.1, fun i hi => ?_, grown_step (grown_step (grown_step (grown_step (grown_step s0.2 s1.2) s2.2) s3.2) s4.2) s5.2⟩
  rw [List.getElem?_set_ne (by omega), List.getElem?_set_ne (by omega), List.getElem?_set_ne (by omega), List.getElem?_set_ne (by omega), List.getElem?_set_ne (by omega), List.getElem?_set_ne (by omega)]

theorem set6_copy {w : World} {lo hi g o : Nat} {u0 u1 u2 u3 u4 u5 v : Value} {zs : List (Int × Int)} (h : CopyC w lo hi v zs) (hb : g < lo) : CopyC (set6 w g o u0 u1 u2 u3 u4 u5) lo hi v zs :=
  CopyC_set (CopyC_set (CopyC_set (CopyC_set (CopyC_set (CopyC_set h hb) hb) hb) hb) hb) hb

/-- What holds ahead of each round of marking. -/
def MarkI (ks : List Cr) (T : List (Cr × Value)) (g cap lo hi : Nat) (w : World) (j m : Nat) (wr : World) : Prop :=
  (1 ≤ m ∧ m + 6 * (ks.length - j) + 2 * chS (ks.drop j) ≤ 9000000) ∧ (∃ xs, wr.ownsRow lo 44 7 (.slice (some ⟨g, 0, none⟩) ks.length cap) ks.length xs ∧ ∀ i (h : i < T.length), xs[i * 7 + 6]? = some T[i].2) ∧
  (∀ i (h1 : i < T.length) (h2 : i < ks.length), j ≤ i → CopyC wr (g + 1) hi T[i].2 ks[i].ch) ∧ Within lo hi w wr

theorem MarkI_step {ks : List Cr} {T : List (Cr × Value)} {g cap lo hi : Nat} {w : World} {j m : Nat} {wr w1 w2 : World} {u0 u1 u2 u3 u4 u5 : Value} (hT : T.length = ks.length) (hg : lo ≤ g ∧ g < hi) (hp : T.Pairwise (fun p q => blkLt p.2 q.2)) (hj : j < ks.length) (h : MarkI ks T g cap lo hi w j m wr) (hb : Below wr.heap.size wr w1)
    (h2 : (set6 w1 g (j * 7) u0 u1 u2 u3 u4 u5).grownBy w2 (some (blkOf (T[j]'(by omega)).2))) : MarkI ks T g cap lo hi w (j + 1) (m + 6 + ks[j].ch.length * 2) w2 := by
  obtain ⟨⟨hm1, hm2⟩, ⟨xs, ho, hx⟩, hc, hw⟩ := h
  have hcj := hc j (by omega) hj (Nat.le_refl _)
  have hblk : g + 1 ≤ blkOf (T[j]'(by omega)).2 ∧ blkOf (T[j]'(by omega)).2 < hi := by
    obtain ⟨_, gj, e, hr⟩ := hcj
    rw [e]
    exact hr.2 gj rfl
  obtain ⟨xs', ho', hx', hg'⟩ := set6_own (own_kept ho hb) (j * 7) u0 u1 u2 u3 u4 u5
  rw [chS_step ks j hj] at hm2
  refine ⟨⟨by omega, by omega⟩, ⟨xs', ho'.kept h2 (Or.inr ?_), fun i hi => ?_⟩, fun i h1 h3 hji => ?_, ?_⟩
  · simp only [Value.ownBlock, ne_eq, Option.some.injEq]
    omega
  · rw [hx' _ (by omega)]
    exact hx i hi
  · refine CopyC_far (set6_copy (CopyC_kept (hc i h1 h3 (by omega)) hb) (by omega)) h2 ?_
    have := (List.pairwise_iff_getElem.1 hp) j i (by omega) h1 (by omega)
    simp only [blkLt] at this
    simp only [ne_eq, Option.some.injEq]
    omega
  · exact Within_trans hw (Within_trans (Within_below hb) (Within_trans (Within_grown hg' (fun g' e => by simp at e; omega)) (Within_grown h2 (fun g' e => by simp at e; omega))))

set_option maxHeartbeats 2000000 in
theorem markKs_any (v : Value) (ks : List Cr) (lo hi k0 : Nat) (w : World) (h : SiteC w lo hi v ks) (hk0 : 1 ≤ k0 ∧ k0 ≤ 1000) (hsz : chS ks ≤ 1000000) :
    Calls Tryd.prog 101 #[v, .int .i64 k0] w fun e w' => ∃ m : Nat, e = .returned (.int .i64 (m : Int)) ∧ 1 ≤ m ∧ Within lo hi w w' := by
  obtain ⟨hn, g, T, S, rfl, hg, hT, hS, hr, hq, hf, hp⟩ := h
  have hTl : T.length = ks.length := by rw [← hT]; simp
  have hghi := hr.2 g rfl
  have hr2 := RowF_short hr (n := T.length) (by simp)
  rw [flatK_take, hTl] at hr2
  have hstart : MarkI ks T g (T ++ S).length lo hi w 0 k0 w := by
    refine ⟨⟨hk0.1, by simp; omega⟩, ⟨flatK T, hr2.1, fun i hi => ?_⟩, fun i h1 h2 _ => ?_, Within_refl _ _ _⟩
    · rw [flatK_at T i 6 hi (by omega)]
      rfl
    · have := hq T[i] (List.getElem_mem h1)
      have e : T[i].1 = ks[i] := by
        have := congrArg (·[i]?) hT
        simpa [h1, h2] using this
      rw [← e]
      exact this
  have HST := Lib.hid hstart
  have hlen : ∀ j (hj : j < ks.length), ks[j].ch.length ≤ 1000000 := fun j hj => by have := chS_mem (List.getElem_mem hj); omega
  have HP := Lib.hid hp
  clear hstart hr hr2 hq hf hp hS hT
  generalize (T ++ S).length = cap at *
  go_enter Tryd.func101, Tryd.ntmps101
  go_wp2_with fail
  go_loopw [1, 5] (fun q i wr => ∃ j m : Nat, j ≤ ks.length ∧ i = .int .i64 (j : Int) ∧ q = .int .i64 (m : Int) ∧ MarkI ks T g cap lo hi w j m wr) (fun _ i _ => ks.length - (intOf i).toNat)
  case atStart => exact ⟨0, k0, by omega, rfl, rfl, HST.out⟩
  case round =>
    obtain ⟨j, m, hj, rfl, rfl, hM⟩ := hrel
    have HM := Lib.hid hM
    obtain ⟨⟨hm1, hm2⟩, ⟨xs, ho, hx⟩, hc, _⟩ := hM
    by_cases hlt : j < ks.length
    · have hlj := hlen j hlt
      have hxl : xs.length = ks.length * 7 := ho.1
      have at_ : ∀ d, d < 7 → ∃ u, wr.cell? ⟨g, j * 7 + d, none⟩ = some u := fun d hd => by
        rw [ho.cellAt _ (by omega)]
        exact ⟨_, List.getElem?_eq_getElem (by omega)⟩
      obtain ⟨u0, a0⟩ := at_ 0 (by omega)
      obtain ⟨u1, a1⟩ := at_ 1 (by omega)
      obtain ⟨u2, a2⟩ := at_ 2 (by omega)
      obtain ⟨u3, a3⟩ := at_ 3 (by omega)
      obtain ⟨u4, a4⟩ := at_ 4 (by omega)
      obtain ⟨u5, a5⟩ := at_ 5 (by omega)
      have z0 := ho.frozenAt (j * 7)
      have z1 := ho.frozenAt (j * 7 + 1)
      have z2 := ho.frozenAt (j * 7 + 2)
      have z3 := ho.frozenAt (j * 7 + 3)
      have z4 := ho.frozenAt (j * 7 + 4)
      have z5 := ho.frozenAt (j * 7 + 5)
      have hcj := hc j (by omega) hlt (Nat.le_refl _)
      have hgl : g < wr.heap.size := (ho.lt g rfl).2
      have a6 : wr.cell? ⟨g, j * 7 + 6, none⟩ = some T[j].2 := by rw [ho.cellAt _ (by omega)]; exact hx j (by omega)
      have HC := Lib.hid hcj
      obtain ⟨_, gj, ec, _⟩ := hcj
      rw [ec] at a6
      have HMK := Lib.hid (fun u (x : CopyC u (g + 1) hi (.slice (some ⟨gj, 0, none⟩) ks[j].ch.length (copyT ks[j].ch).length) ks[j].ch) => markC_any _ ks[j].ch (g + 1) hi (m + 6) u (CopyC_row x) (by omega) (by omega))
      have HMT := Lib.hid (fun u => markText_any m hm1 (by omega) u)
      have EC := Lib.hid ec
      clear ec ho hx hc at_
      generalize markT m = mt at *
      go_wp2_with fail
      refine (HMT.out _).mono ?_
      rintro e w1 ⟨rfl, hb1⟩
      have b1 : Below wr.heap.size wr w1 := kept_trans (a := wr) (by go_grown) hb1
      rw [← kept_cell b1 g _ hgl] at a0 a1 a2 a3 a4 a5 a6
      rw [← kept_frozen b1 g _ hgl] at z0 z1 z2 z3 z4 z5
      simp only [Nat.add_zero] at a0
      go_wp2_with fail
      have hcc := CopyC_kept HC.out b1
      rw [EC.out] at hcc
      have em : (m : Int) + 1 + 1 + 1 + 1 + 1 + 1 = ((m + 6 : Nat) : Int) := by omega
      rw [em]
      refine (HMK.out _ (set6_copy (g := g) (o := j * 7) hcc (by omega))).mono ?_
      rintro e w2 ⟨rfl, _, hg2⟩
      have hI := MarkI_step hTl hghi HP.out hlt HM.out b1 (by rw [EC.out]; exact hg2)
      clear hg2 hcc a0 a1 a2 a3 a4 a5 a6 z0 z1 z2 z3 z4 z5
      go_wp2
      go_roundw
      case rel => exact ⟨j + 1, m + 6 + ks[j].ch.length * 2, by omega, by go_num, by simp, hI⟩
      case measure => simp [intOf]; omega
    · have : j = ks.length := by omega
      subst this
      go_wp2
      go_ret
      exact ⟨m, rfl, hm1, HM.out.2.2.2⟩

theorem markS_any (c : Value) (ks : List Cr) (lo hi k0 : Nat) (w : World) (h : SiteC w lo hi c ks) (hk0 : 1 ≤ k0 ∧ k0 ≤ 1000) (hsz : chS ks ≤ 1000000) :
    Calls Tryd.prog 43 #[.agg #[c], .int .i64 k0] w fun e w' => ∃ m : Nat, e = .returned (.int .i64 (m : Int)) ∧ 1 ≤ m ∧ Within lo hi w w' := by
  obtain ⟨T, r, _⟩ := SiteC_rd h
  obtain ⟨A, cp, rfl, _, _⟩ := RdK_at r
  clear r
  have HQ := Lib.hid (fun u q => markKs_any (.slice A T.length cp) ks lo hi k0 u q hk0 hsz)
  have H := Lib.hid h; clear h
  go_enter Tryd.func43, Tryd.ntmps43
  go_wp2_with fail
  refine (HQ.out _ (SiteC_kept H.out (by go_grown))).mono ?_
  rintro e w1 ⟨m, rfl, hm, hw⟩
  have hw2 : Within lo hi w w1 := Within_trans (Within_below (by go_grown)) hw
  go_wp2
  go_ret
  exact ⟨m, rfl, hm, hw2⟩

/-- The indices below n that are wanted. -/
def idxsL (p : Nat → Bool) : Nat → List Int
  | 0 => []
  | n + 1 => if p n then idxsL p n ++ [(n : Int)] else idxsL p n

theorem idxsL_len (p : Nat → Bool) (n : Nat) : (idxsL p n).length ≤ n := by
  induction n with
  | zero => simp [idxsL]
  | succ n ih =>
    unfold idxsL
    split
    · simp; omega
    · omega

theorem RowI_lo {w : World} {lo lo' hi hi' : Nat} {v : Value} {zs : List Int} (h : RowI w lo hi v zs) (hl : lo' ≤ lo) (hh : hi ≤ hi') : RowI w lo' hi' v zs :=
  ⟨Joins.ownsRow_le h.1 hl, fun g hg => ⟨by have := (h.2 g hg).1; omega, by have := (h.2 g hg).2; omega⟩⟩

theorem RowI_new (w : World) : RowI (w.alloc (.cells #[] 2)) w.heap.size (w.alloc (.cells #[] 2)).heap.size (.slice (some ⟨w.heap.size, 0, none⟩) 0 0) [] :=
  ⟨World.ownsRow_lit w #[] 0 (Nat.le_refl _) (by decide) (by rfl), fun g hg => by simp [Value.ownBlock] at hg; subst hg; simp⟩

theorem siteP_crane {T : List (Cr × Value)} (h : siteB T = true) : T.length ≤ 6 ∧ ∀ j (hj : j < T.length), craneB T[j].1 = true := by
  simp only [siteB, decide_eq_true_eq] at h
  exact ⟨h.2.2, fun j hj => (h.1 j hj hj).1⟩

set_option maxRecDepth 100000 in
set_option maxHeartbeats 1000000 in
theorem indicesN_any (c : Value) (T : List (Cr × Value)) (b3 b7 : Nat) (p : Nat → Bool) (w : World) (h : RdK w c T) (hn : T.length ≤ 1000000)
    (hf : ∀ j (hj : j < T.length) b o w1, Below w.heap.size w w1 → CrAt w1 b o T[j].1 T[j].2 → Calls Tryd.prog 80 #[.agg #[.pointer (some ⟨b, o, none⟩), .int .i64 (j : Int)], .pointer (some ⟨b3, 0, none⟩), .pointer (some ⟨b7, 0, none⟩)] w1 fun e w2 => e = .returned (.bool (p j)) ∧ Below w1.heap.size w1 w2) :
    Calls Tryd.prog 79 #[.agg #[c], .func (.func 80) #[] #[.pointer (some ⟨b3, 0, none⟩), .pointer (some ⟨b7, 0, none⟩)]] w fun e w' => ∃ r, e = .returned r ∧ RowI w' w.heap.size w'.heap.size r (idxsL p T.length) ∧ Below w.heap.size w w' := by
  obtain ⟨A, cp, rfl, _, r⟩ := RdK_at h
  have R := Lib.hid r; clear r h
  have HFN := Lib.hid hf; clear hf
  go_enter Tryd.func79, Tryd.ntmps79
  go_wp2_with fail
  go_loopw [5, 12] (fun o i wr => ∃ j : Nat, j ≤ T.length ∧ i = .int .i64 (j : Int) ∧ RowI wr (w.alloc (.cells #[.slice A T.length cp] 39)).heap.size wr.heap.size o (idxsL p j) ∧ Below (w.alloc (.cells #[.slice A T.length cp] 39)).heap.size (w.alloc (.cells #[.slice A T.length cp] 39)) wr) (fun _ i _ => T.length - (intOf i).toNat)
  case atStart => exact ⟨0, by omega, rfl, by have := RowI_new (w.alloc (.cells #[.slice A T.length cp] 39)); simpa [idxsL] using this, by go_grown⟩
  case round =>
    obtain ⟨j, hj, rfl, hrow, hb0⟩ := hrel
    have hbox : wr.cell? ⟨w.heap.size, 0, none⟩ = some (.slice A T.length cp) := by rw [kept_cell hb0 _ _ (by simp)]; simp
    have hb : Below w.heap.size w wr := kept_trans (by go_grown) hb0
    have hlw : w.heap.size < wr.heap.size := by have := hb0.size; simp at this; omega
    by_cases hlt : j < T.length
    · obtain ⟨b, off, rfl, q⟩ := R.out j hlt
      have q2 := CrAt_kept q hb
      have hfn := fun w1 (hw : Below wr.heap.size wr w1) => HFN.out j hlt b (off + j * 7) w1 (kept_trans hb hw) (CrAt_kept q2 hw)
      have hst : idxsL p (j + 1) = if p j then idxsL p j ++ [(j : Int)] else idxsL p j := rfl
      have hln := idxsL_len p j
      generalize idxsL p j = zs at *
      clear q q2
      have HROW := Lib.hid hrow; clear hrow
      cases hE : p j
      · simp only [hE, if_false, Bool.false_eq_true] at hfn hst
        have HST := Lib.hid hst; clear hst hE
        have HF := Lib.hid hfn; clear hfn
        go_wp2_with fail
        refine (HF.out _ (by go_grown)).mono ?_
        rintro e w4 ⟨rfl, hb4⟩
        refine kept_at hb4 w.heap.size (by go_size) fun ca4 za4 sa4 => ?_
        refine kept_at hb4 wr.heap.size (by go_size) fun cb4 zb4 sb4 => ?_
        have b4 := kept_trans (a := wr) (by go_grown) hb4
        go_wp2
        go_roundw
        case rel => exact ⟨j + 1, by omega, by go_num, by rw [HST.out]; exact RowI_lo (RowI_kept HROW.out b4) (Nat.le_refl _) b4.size, kept_trans hb0 b4⟩
        case measure => simp [intOf]; omega
      · simp only [hE, if_true] at hfn hst
        have HST := Lib.hid hst; clear hst hE
        have HF := Lib.hid hfn; clear hfn
        go_wp2_with fail
        refine (HF.out _ (by go_grown)).mono ?_
        rintro e w4 ⟨rfl, hb4⟩
        refine kept_at hb4 w.heap.size (by go_size) fun ca4 za4 sa4 => ?_
        refine kept_at hb4 wr.heap.size (by go_size) fun cb4 zb4 sb4 => ?_
        have b4 := kept_trans (a := wr) (by go_grown) hb4
        have hrow4 := RowI_lo (RowI_kept HROW.out b4) (Nat.le_refl _) b4.size
        have hb24 := kept_trans hb0 b4
        go_wp2_with (at_builtin; refine wp_appendI rfl (.tmp 24) (.tmp 27) rfl _ _ _ _ rfl hrow4 rfl hb24 (Nat.le_refl _) hb24.size (by omega) ?_; intro v' w' hrow' hb' hs')
        go_roundw
        case rel => exact ⟨j + 1, by omega, by go_num, by rw [HST.out]; exact hrow', hb'⟩
        case measure => simp [intOf]; omega
    · have : j = T.length := by omega
      subst this
      go_wp2
      go_ret
      exact ⟨_, rfl, RowI_lo hrow (by simp) (Nat.le_refl _), hb⟩

/-- Whether the circles of two cranes overlap. -/
def nearB (a b : Cr) : Bool := decide (sqD a.x a.y b.x b.y ≤ (a.j + b.j) * (a.j + b.j))

/-- Whether crane j is a neighbour of crane i. -/
def nearI (ms : List Cr) (i j : Nat) : Bool := decide ((j : Int) ≠ (i : Int)) && ((ms[i]?).bind fun a => (ms[j]?).map fun b => nearB a b).getD false

theorem nearI_at (T : List (Cr × Value)) (i j : Nat) (hi : i < T.length) (hj : j < T.length) : nearI (T.map (·.1)) i j = (decide ((j : Int) ≠ (i : Int)) && nearB T[i].1 T[j].1) := by
  simp [nearI, hi, hj]

noncomputable def codeI (ks : List (Cr × Value)) (i : Int) : Int := if siteB ks then (if 0 ≤ i ∧ i < ks.length then 0 else 2) else 1

noncomputable def neighL (ks : List (Cr × Value)) (i : Int) : List Int × Int := (if codeI ks i = 0 then idxsL (nearI (ks.map (·.1)) i.toNat) ks.length else [], codeI ks i)

theorem codeI_map {T ks : List (Cr × Value)} (h : T.map (·.1) = ks.map (·.1)) (i : Int) : codeI T i = codeI ks i := by
  unfold codeI
  rw [siteB_map h, (map_at h).1]

theorem neighL_map {T ks : List (Cr × Value)} (h : T.map (·.1) = ks.map (·.1)) (i : Int) : neighL T i = neighL ks i := by
  unfold neighL
  rw [codeI_map h, h, (map_at h).1]

theorem specCidx_any (b0 : Nat) (A : Option Addr) (c : Nat) (T : List (Cr × Value)) (i : Int) (w : World) (h : RdK w (.slice A T.length c) T) (hlt0 : b0 < w.heap.size) (hv : w.cell? ⟨b0, 0, none⟩ = some (.slice A T.length c)) (hn : ∀ p ∈ T, p.1.nm.size ≤ 1000000) :
    Calls Tryd.prog 82 #[.pointer (some ⟨b0, 0, none⟩), .int .i64 i] w fun e w' => e = .returned (.int .i64 (codeI T i)) ∧ Below w.heap.size w w' := by
  have hS := fun u (q : RdK u (.slice A T.length c) T) (hl : b0 < u.heap.size) (hv : u.cell? ⟨b0, 0, none⟩ = some (.slice A T.length c)) => specSite_any b0 0 A c T u q hl hv hn
  have H := Lib.hid h; clear h
  unfold codeI
  cases hb : siteB T
  · rw [hb] at hS
    have HS := Lib.hid hS; clear hS
    go_enter Tryd.func82, Tryd.ntmps82
    go_wp2_with fail
    refine (HS.out _ (RdK_kept H.out (by go_grown)) (by go_size) (by assumption)).mono ?_
    rintro e w1 ⟨rfl, hb1⟩
    have b1 := kept_trans (a := w) (by go_grown) hb1
    go_wp2
    go_ret
    exact ⟨rfl, b1⟩
  · rw [hb] at hS
    have HS := Lib.hid hS; clear hS
    obtain ⟨hn6, _⟩ := siteP_crane hb
    have hI := fun u => in_any i 0 ((T.length : Int) - 1) u
    rw [show inB i 0 ((T.length : Int) - 1) = decide (0 ≤ i ∧ i < (T.length : Int)) by unfold inB; rw [Bool.eq_iff_iff]; simp; omega] at hI
    by_cases hin : 0 ≤ i ∧ i < (T.length : Int)
    all_goals
      simp only [hin, decide_true, decide_false, if_true, if_false] at hI ⊢
      have HI := Lib.hid hI; clear hI
      go_enter Tryd.func82, Tryd.ntmps82
      go_wp2_with fail
      refine (HS.out _ (RdK_kept H.out (by go_grown)) (by go_size) (by assumption)).mono ?_
      rintro e w1 ⟨rfl, hb1⟩
      have b1 := kept_trans (a := w) (by go_grown) hb1
      have hv1 : w1.cell? ⟨b0, 0, none⟩ = some (.slice A T.length c) := by rw [kept_cell b1 _ _ hlt0]; exact hv
      go_wp2_with fail
      refine (HI.out _).mono ?_
      rintro e w2 ⟨rfl, rfl⟩
      go_wp2
      go_ret
      exact ⟨by simp, b1⟩

theorem implCidx_any (c : Value) (T : List (Cr × Value)) (i : Int) (w : World) (h : RdK w c T) (hcap : ∃ A cp, c = .slice A T.length cp ∧ T.length ≤ cp) (hn : ∀ p ∈ T, p.1.nm.size ≤ 1000000) (he : Ers w) :
    Calls Tryd.prog 76 #[.agg #[c], .int .i64 i] w fun e w' => e = .returned (.int .i64 (codeI T i)) ∧ Below w.heap.size w w' := by
  have hS := fun w1 (q : RdK w1 c T) (e : Ers w1) => implVS_any c T T w1 q hcap rfl hn e
  have HE := Lib.hid he
  clear hn he
  obtain ⟨A, cp, rfl, _⟩ := hcap
  have H := Lib.hid h; clear h
  unfold codeI
  cases hb : siteB T
  · rw [hb] at hS
    have HS := Lib.hid hS; clear hS
    go_enter Tryd.func76, Tryd.ntmps76
    go_wp2_with fail
    refine (HS.out _ (RdK_kept H.out (by go_grown)) (Ers_kept HE.out (by go_grown))).mono ?_
    rintro e w1 ⟨rfl, hb1⟩
    have b1 := kept_trans (a := w) (by go_grown) hb1
    go_wp2
    go_ret
    exact ⟨rfl, b1⟩
  · rw [hb] at hS
    have HS := Lib.hid hS; clear hS
    by_cases h0 : i < 0
    · have hin : ¬ (0 ≤ i ∧ i < (T.length : Int)) := by omega
      rw [if_pos rfl, if_neg hin]
      clear hin
      go_enter Tryd.func76, Tryd.ntmps76
      go_wp2_with fail
      refine (HS.out _ (RdK_kept H.out (by go_grown)) (Ers_kept HE.out (by go_grown))).mono ?_
      rintro e w1 ⟨rfl, hb1⟩
      refine kept_at hb1 w.heap.size (by go_size) fun c1_0 z1_0 s1_0 => ?_
      have b1 := kept_trans (a := w) (by go_grown) hb1
      go_wp2
      go_ret
      exact ⟨rfl, b1⟩
    · by_cases h1 : i < (T.length : Int)
      · have hin : 0 ≤ i ∧ i < (T.length : Int) := by omega
        rw [if_pos rfl, if_pos hin]
        clear hin
        go_enter Tryd.func76, Tryd.ntmps76
        go_wp2_with fail
        refine (HS.out _ (RdK_kept H.out (by go_grown)) (Ers_kept HE.out (by go_grown))).mono ?_
        rintro e w1 ⟨rfl, hb1⟩
        refine kept_at hb1 w.heap.size (by go_size) fun c1_0 z1_0 s1_0 => ?_
        have b1 := kept_trans (a := w) (by go_grown) hb1
        go_wp2
        go_ret
        exact ⟨rfl, b1⟩
      · have hin : ¬ (0 ≤ i ∧ i < (T.length : Int)) := by omega
        rw [if_pos rfl, if_neg hin]
        clear hin
        go_enter Tryd.func76, Tryd.ntmps76
        go_wp2_with fail
        refine (HS.out _ (RdK_kept H.out (by go_grown)) (Ers_kept HE.out (by go_grown))).mono ?_
        rintro e w1 ⟨rfl, hb1⟩
        refine kept_at hb1 w.heap.size (by go_size) fun c1_0 z1_0 s1_0 => ?_
        have b1 := kept_trans (a := w) (by go_grown) hb1
        go_wp2
        go_ret
        exact ⟨rfl, b1⟩

set_option maxHeartbeats 1000000 in
theorem nearFn_any (ba oa b o b3 b7 : Nat) (ka kb : Cr) (ca cb : Value) (i j : Int) (w : World) (ha : CrAt w ba oa ka ca) (h : CrAt w b o kb cb) (hka : craneB ka = true) (hkb : craneB kb = true) (h3 : b3 < w.heap.size) (h7 : b7 < w.heap.size)
    (g3 : w.cell? ⟨b3, 0, none⟩ = some (.int .i64 i)) (g7 : w.cell? ⟨b7, 0, none⟩ = some (.pointer (some ⟨ba, oa, none⟩))) :
    Calls Tryd.prog 80 #[.agg #[.pointer (some ⟨b, o, none⟩), .int .i64 j], .pointer (some ⟨b3, 0, none⟩), .pointer (some ⟨b7, 0, none⟩)] w fun e w' => e = .returned (.bool (decide (j ≠ i) && nearB ka kb)) ∧ Below w.heap.size w w' := by
  have k1 := craneB_true hka
  have k2 := craneB_true hkb
  have HN := Lib.hid (fun u => near_any ka.x ka.y kb.x kb.y (ka.j + kb.j) k1.1 k2.1 (by omega) u)
  have hsum : IntKind.i64.wrap (ka.j + kb.j) = ka.j + kb.j := IntWalk.i64_in _ (by omega)
  have hw : IntKind.i64.wrap (ka.j + kb.j) = ka.j + kb.j := hsum
  obtain ⟨la, ⟨a0, a1, a2, a3, a4, a5, a6⟩, _⟩ := ha
  obtain ⟨lb, ⟨c0, c1, c2, c3, c4, c5, c6⟩, _⟩ := h
  unfold nearB
  generalize sqD ka.x ka.y kb.x kb.y = D at *
  clear k1 k2 hka hkb a0 a3 a5 a6 c0 c3 c5 c6
  obtain ⟨s, x, y, hh, jb, bb, zs⟩ := ka
  obtain ⟨s2, x2, y2, hh2, jb2, bb2, zs2⟩ := kb
  dsimp only at *
  by_cases hji : j = i
  · subst hji
    go_enter Tryd.func80, Tryd.ntmps80
    go_wp2_with fail
    go_big_quiet (fail)
    go_wp2
    go_ret
    exact ⟨by simp, kept_drewN (by go_grown) _⟩
  · have hne1 : (j == i) = false := by rw [beq_eq_false_iff_ne]; exact hji
    have hne0 : (j != i) = true := by rw [bne_iff_ne]; exact hji
    have hne2 : decide (j = i) = false := by simpa using hji
    rw [show decide (j ≠ i) = true by simpa using hji, Bool.true_and]
    go_enter Tryd.func80, Tryd.ntmps80
    go_wp2_with fail
    have n3 : w.heap.size ≠ b3 := by omega
    have n7 : w.heap.size ≠ b7 := by omega
    have na : w.heap.size ≠ ba := by omega
    have nb : w.heap.size ≠ b := by omega
    go_region_held3 (fun w' => w'.cell? ⟨w.heap.size, 0, none⟩ = some (.pointer (some ⟨b, o, none⟩)) ∧ w'.cell? ⟨w.heap.size, 1, none⟩ = some (.int .i64 j) ∧ w'.cell? ⟨b3, 0, none⟩ = some (.int .i64 i) ∧ w'.cell? ⟨b7, 0, none⟩ = some (.pointer (some ⟨ba, oa, none⟩)) ∧ w'.cell? ⟨ba, oa + 1, none⟩ = some (.int .i64 x) ∧ w'.cell? ⟨ba, oa + 2, none⟩ = some (.int .i64 y) ∧ w'.cell? ⟨ba, oa + 4, none⟩ = some (.int .i64 jb) ∧ w'.cell? ⟨b, o + 1, none⟩ = some (.int .i64 x2) ∧ w'.cell? ⟨b, o + 2, none⟩ = some (.int .i64 y2) ∧ w'.cell? ⟨b, o + 4, none⟩ = some (.int .i64 jb2)) (go_keep)
      ((go_at_call 81; refine (HN.out _).mono ?_; rintro e w4 ⟨rfl, hb4⟩; refine kept_at hb4 w.heap.size (by go_size) fun ca4 za4 sa4 => ?_; refine kept_at hb4 b3 (by go_size) fun cb4 zb4 sb4 => ?_; refine kept_at hb4 b7 (by go_size) fun cc4 zc4 sc4 => ?_; refine kept_at hb4 ba (by go_size) fun cd4 zd4 sd4 => ?_; refine kept_at hb4 b (by go_size) fun ce4 ze4 se4 => ?_; have b4 := kept_trans (a := w) (by go_grown) hb4))
    all_goals
      (try go_wp2)
      go_ret
      exact ⟨by simp, by assumption⟩

set_option maxHeartbeats 4000000 in
theorem specNear_loop (c : Value) (T : List (Cr × Value)) (i : Nat) (w : World) (h : RdK w c T) (hb : siteB T = true) (hi : i < T.length)
    (HS : Hid (∀ b w1, RdK w1 c T → b < w1.heap.size → w1.cell? ⟨b, 0, none⟩ = some c → Calls Tryd.prog 82 #[.pointer (some ⟨b, 0, none⟩), .int .i64 (i : Int)] w1 fun e w' => e = .returned (.int .i64 0) ∧ Below w1.heap.size w1 w')) :
    Calls Tryd.prog 30 #[.agg #[c], .int .i64 (i : Int)] w fun e w' => ∃ r, e = .returned (.tuple #[r, .int .i64 0]) ∧ RowI w' w.heap.size w'.heap.size r (idxsL (nearI (T.map (·.1)) i) T.length) ∧ Below w.heap.size w w' := by
  obtain ⟨hn, hcr⟩ := siteP_crane hb
  have H := Lib.hid h
  obtain ⟨A, cp, rfl, _, r⟩ := RdK_at h
  have R := Lib.hid r; clear r h
  have HC := Lib.hid hcr; clear hcr hb
  obtain ⟨bA, offA, rfl, qi⟩ := R.out i hi
  go_enter Tryd.func30, Tryd.ntmps30
  go_wp2_with fail
  refine (HS.out _ _ (RdK_kept H.out (by go_grown)) (by go_size) (by simp)).mono ?_
  rintro e w2 ⟨rfl, hb2⟩
  refine kept_at hb2 w.heap.size (by go_size) fun c2_0 z2_0 s2_0 => ?_
  have b2 := kept_trans (a := w) (by go_grown) hb2
  have d0 : w2.cell? ⟨w.heap.size, 0, none⟩ = some (.slice (some ⟨bA, offA, none⟩) T.length cp) := by rw [c2_0]; simp
  clear c2_0 z2_0
  have hi1 : (i : Int) < (T.length : Int) := by omega
  go_wp2_with fail
  go_loopw [7, 9] (fun o k wr => ∃ j : Nat, j ≤ T.length ∧ k = .int .i64 (j : Int) ∧ RowI wr w2.heap.size wr.heap.size o (idxsL (nearI (T.map (·.1)) i) j) ∧ Below w2.heap.size w2 wr) (fun _ k _ => T.length - (intOf k).toNat)
  case atStart => exact ⟨0, by omega, rfl, RowI_new w2, by go_grown⟩
  case round =>
    obtain ⟨j, hj, rfl, hrow, hb⟩ := hrel
    have hsz := hb.size
    have e0 : wr.cell? ⟨w.heap.size, 0, none⟩ = some (.slice (some ⟨bA, offA, none⟩) T.length cp) := by rw [kept_cell hb _ _ s2_0]; exact d0
    have hlw := Nat.lt_of_lt_of_le s2_0 hsz
    by_cases hlt : j < T.length
    · obtain ⟨b, off, eA, qj⟩ := R.out j hlt
      cases eA
      have hst : idxsL (nearI (T.map (·.1)) i) (j + 1) = if nearI (T.map (·.1)) i j then idxsL (nearI (T.map (·.1)) i) j ++ [(j : Int)] else idxsL (nearI (T.map (·.1)) i) j := rfl
      rw [nearI_at T i j hi hlt] at hst
      have hln := idxsL_len (nearI (T.map (·.1)) i) j
      generalize idxsL (nearI (T.map (·.1)) i) j = zs at *
      have k1 := craneB_true (HC.out i hi)
      have k2 := craneB_true (HC.out j hlt)
      have hf := fun u => far_any T[i].1.x T[i].1.y T[j].1.x T[j].1.y (T[i].1.j + T[j].1.j) k1.1 k2.1 (by omega) u
      have hw : IntKind.i64.wrap (T[i].1.j + T[j].1.j) = T[i].1.j + T[j].1.j := IntWalk.i64_in _ (by omega)
      have hD : nearB T[i].1 T[j].1 = !decide ((T[i].1.j + T[j].1.j) * (T[i].1.j + T[j].1.j) < sqD T[i].1.x T[i].1.y T[j].1.x T[j].1.y) := by
        unfold nearB
        rw [Bool.eq_iff_iff]
        simp
      rw [hD] at hst
      generalize decide ((T[i].1.j + T[j].1.j) * (T[i].1.j + T[j].1.j) < sqD T[i].1.x T[i].1.y T[j].1.x T[j].1.y) = Q at *
      have q1 := CrAt_kept qi (kept_trans b2 hb)
      have q2 := CrAt_kept qj (kept_trans b2 hb)
      obtain ⟨la, ⟨a0, a1, a2, a3, a4, a5, a6⟩, _⟩ := q1
      obtain ⟨lb, ⟨c0, c1, c2, c3, c4, c5, c6⟩, _⟩ := q2
      have hlA : bA < w.heap.size := qi.1
      clear a0 a3 a5 a6 c0 c3 c5 c6 k1 k2 hD qi qj
      have HROW := Lib.hid hrow; clear hrow
      by_cases hji : j = i
      · subst hji
        simp only [ne_eq, not_true, decide_false, Bool.false_and, if_false, Bool.false_eq_true] at hst
        have HST := Lib.hid hst; clear hst hf hw a1 a2 a4 c1 c2 c4
        go_wp2_with fail
        go_big_quiet (fail)
        go_wp2
        go_roundw
        case rel => exact ⟨j + 1, by omega, by go_num, by rw [HST.out]; exact RowI_lo (RowI_kept HROW.out (kept_drewN (Below.refl _ _) _)) (Nat.le_refl _) (Nat.le_refl _), kept_drewN hb _⟩
        case measure => simp [intOf]; omega
      · have hjiI : ¬ (j : Int) = (i : Int) := by omega
        have hne1 : ((j : Int) == (i : Int)) = false := by rw [beq_eq_false_iff_ne]; exact hjiI
        have hne0 : ((j : Int) != (i : Int)) = true := by rw [bne_iff_ne]; exact hjiI
        have hne2 : decide ((j : Int) = (i : Int)) = false := by simpa using hjiI
        rw [show decide ((j : Int) ≠ (i : Int)) = true by simpa using hjiI, Bool.true_and] at hst
        generalize T[i].1.x = x at *
        generalize T[i].1.y = y at *
        generalize T[i].1.j = jb at *
        generalize T[j].1.x = x2 at *
        generalize T[j].1.y = y2 at *
        generalize T[j].1.j = jb2 at *
        cases Q
        all_goals
          simp only [Bool.not_true, Bool.not_false, if_true, if_false, Bool.false_eq_true] at hst
          have HST := Lib.hid hst; clear hst
          have HF := Lib.hid hf; clear hf
          go_wp2_with fail
          go_region_held3 (fun w' => w'.cell? ⟨bA, offA + i * 7 + 1, none⟩ = some (.int .i64 x) ∧ w'.cell? ⟨bA, offA + i * 7 + 2, none⟩ = some (.int .i64 y) ∧ w'.cell? ⟨bA, offA + i * 7 + 4, none⟩ = some (.int .i64 jb) ∧ w'.cell? ⟨bA, offA + j * 7 + 1, none⟩ = some (.int .i64 x2) ∧ w'.cell? ⟨bA, offA + j * 7 + 2, none⟩ = some (.int .i64 y2) ∧ w'.cell? ⟨bA, offA + j * 7 + 4, none⟩ = some (.int .i64 jb2)) (go_keep)
            ((go_at_call 83; refine (HF.out _).mono ?_; rintro e w4 ⟨rfl, hb4⟩; refine kept_at hb4 bA (by go_size) fun ca4 za4 sa4 => ?_; have b4 := kept_trans (a := wr) (by go_grown) hb4))
        · have hrow4 := RowI_lo (RowI_kept HROW.out b4) (Nat.le_refl _) b4.size
          have hb24 := kept_trans hb b4
          go_wp2_with (at_builtin; refine wp_appendI rfl (.tmp 56) (.tmp 58) rfl _ _ _ _ rfl hrow4 rfl hb24 (Nat.le_refl _) hb24.size (by omega) ?_; intro v' w' hrow' hb' _)
          go_roundw
          case rel => exact ⟨j + 1, by omega, by go_num, by rw [HST.out]; exact hrow', hb'⟩
          case measure => simp [intOf]; omega
        · (try go_wp2)
          go_roundw
          case rel => exact ⟨j + 1, by omega, by go_num, by rw [HST.out]; exact RowI_lo (RowI_kept HROW.out b4) (Nat.le_refl _) b4.size, kept_trans hb b4⟩
          case measure => simp [intOf]; omega
    · have : j = T.length := by omega
      subst this
      go_wp2
      go_ret2
      exact ⟨_, rfl, RowI_lo hrow (by have := b2.size; omega) (Nat.le_refl _), kept_trans b2 hb⟩

theorem specNeigh_any (c : Value) (T ks : List (Cr × Value)) (i : Int) (w : World) (h : RdK w c T) (hm : T.map (·.1) = ks.map (·.1)) (hn : ∀ p ∈ ks, p.1.nm.size ≤ 1000000) :
    Calls Tryd.prog 30 #[.agg #[c], .int .i64 i] w fun e w' => ∃ r, e = .returned (.tuple #[r, .int .i64 (neighL ks i).2]) ∧ RowI w' w.heap.size w'.heap.size r (neighL ks i).1 ∧ Below w.heap.size w w' := by
  have hn2 := names_map hm hn
  rw [← neighL_map hm]
  clear hm hn
  obtain ⟨A, cp, rfl, _, _⟩ := RdK_at h
  have hS := (fun b w1 (q : RdK w1 (.slice A T.length cp) T) (hl : b < w1.heap.size) (hv : w1.cell? ⟨b, 0, none⟩ = some (.slice A T.length cp)) => specCidx_any b A cp T i w1 q hl hv hn2)
  unfold neighL
  by_cases h0 : codeI T i = 0
  · have hb : siteB T = true := by unfold codeI at h0; split at h0 <;> simp_all
    have hin : 0 ≤ i ∧ i < (T.length : Int) := by
      unfold codeI at h0
      rw [if_pos hb] at h0
      by_cases hh : 0 ≤ i ∧ i < (T.length : Int)
      · exact hh
      · rw [if_neg hh] at h0
        exact absurd h0 (by decide)
    rw [h0] at hS
    rw [if_pos h0, h0]
    obtain ⟨m, rfl⟩ := Int.eq_ofNat_of_zero_le hin.1
    exact specNear_loop _ T m w h hb (by omega) (Lib.hid hS)
  · rw [if_neg h0]
    have hc : ¬ codeI T i = 0 := h0
    have H := Lib.hid h; clear h h0
    have HS := Lib.hid hS; clear hS
    generalize codeI T i = k at *
    have hk1 : (k == 0) = false := by rw [beq_eq_false_iff_ne]; exact hc
    have hk0 : (k != 0) = true := by rw [bne_iff_ne]; exact hc
    go_enter Tryd.func30, Tryd.ntmps30
    go_wp2_with fail
    refine (HS.out _ _ (RdK_kept H.out (by go_grown)) (by go_size) (by simp)).mono ?_
    rintro e w1 ⟨rfl, hb1⟩
    have b1 := kept_trans (a := w) (by go_grown) hb1
    go_wp2
    go_ret2
    exact ⟨_, rfl, RowI_nil _ _ _, b1⟩

set_option maxHeartbeats 1000000 in
theorem implNeigh_any (c : Value) (T ks : List (Cr × Value)) (i : Int) (w : World) (h : RdK w c T) (hcap : ∃ A cp, c = .slice A T.length cp ∧ T.length ≤ cp) (hm : T.map (·.1) = ks.map (·.1)) (hn : ∀ p ∈ ks, p.1.nm.size ≤ 1000000) (he : Ers w) :
    Calls Tryd.prog 28 #[.agg #[c], .int .i64 i] w fun e w' => ∃ r, e = .returned (.tuple #[r, .int .i64 (neighL ks i).2]) ∧ RowI w' w.heap.size w'.heap.size r (neighL ks i).1 ∧ Below w.heap.size w w' := by
  have hn2 := names_map hm hn
  rw [← neighL_map hm]
  have hS := fun w1 (q : RdK w1 c T) (e : Ers w1) => implCidx_any c T i w1 q hcap hn2 e
  have HE := Lib.hid he
  clear hm hn he hn2
  obtain ⟨A, cp, rfl, _⟩ := hcap
  unfold neighL
  by_cases h0 : codeI T i = 0
  · have hb : siteB T = true := by unfold codeI at h0; split at h0 <;> simp_all
    have hin : 0 ≤ i ∧ i < (T.length : Int) := by
      unfold codeI at h0
      rw [if_pos hb] at h0
      by_cases hh : 0 ≤ i ∧ i < (T.length : Int)
      · exact hh
      · rw [if_neg hh] at h0
        exact absurd h0 (by decide)
    rw [h0] at hS
    rw [if_pos h0, h0]
    obtain ⟨m, rfl⟩ := Int.eq_ofNat_of_zero_le hin.1
    have hm : m < T.length := by omega
    obtain ⟨hn6, hcr⟩ := siteP_crane hb
    obtain ⟨A', cp', e', _, R⟩ := RdK_at h
    cases e'
    obtain ⟨bA, offA, rfl, qi⟩ := R m hm
    have hIN := fun b3 b7 w1 (hw : Below w.heap.size w w1) (q : RdK w1 (.slice (some ⟨bA, offA, none⟩) T.length cp) T) (h3 : b3 < w1.heap.size) (h7 : b7 < w1.heap.size) (g3 : w1.cell? ⟨b3, 0, none⟩ = some (.int .i64 (m : Int))) (g7 : w1.cell? ⟨b7, 0, none⟩ = some (.pointer (some ⟨bA, offA + m * 7, none⟩))) =>
      indicesN_any (.slice (some ⟨bA, offA, none⟩) T.length cp) T b3 b7 (nearI (T.map (·.1)) m) w1 q (by omega) (fun j hj b o w4 hw4 hc4 => by
        have := nearFn_any bA (offA + m * 7) b o b3 b7 T[m].1 T[j].1 T[m].2 T[j].2 (m : Int) (j : Int) w4 (CrAt_kept qi (kept_trans hw hw4)) hc4 (hcr m hm) (hcr j hj) (Nat.lt_of_lt_of_le h3 hw4.size) (Nat.lt_of_lt_of_le h7 hw4.size) (by rw [kept_cell hw4 _ _ h3]; exact g3) (by rw [kept_cell hw4 _ _ h7]; exact g7)
        rw [← nearI_at T m j hm hj] at this
        exact this)
    have HIN := Lib.hid hIN; clear hIN
    have H := Lib.hid h; clear h hcr hb R qi
    have HS := Lib.hid hS; clear hS h0
    have hi1 : (m : Int) < (T.length : Int) := by omega
    simp only [Int.ofNat_eq_natCast, Int.toNat_natCast] at *
    generalize idxsL (nearI (T.map (·.1)) m) T.length = zs at *
    go_enter Tryd.func28, Tryd.ntmps28
    go_wp2_with fail
    refine (HS.out _ (RdK_kept H.out (by go_grown)) (Ers_kept HE.out (by go_grown))).mono ?_
    rintro e w1 ⟨rfl, hb1⟩
    refine kept_at hb1 w.heap.size (by go_size) fun c1_0 z1_0 s1_0 => ?_
    refine kept_at hb1 (w.heap.size + 1) (by go_size) fun c1_1 z1_1 s1_1 => ?_
    have b1 := kept_trans (a := w) (by go_grown) hb1
    have d1 : w1.cell? ⟨w.heap.size + 1, 0, none⟩ = some (.int .i64 (m : Int)) := by rw [c1_1]; simp
    have d0 : w1.cell? ⟨w.heap.size, 0, none⟩ = some (.slice (some ⟨bA, offA, none⟩) T.length cp) := by rw [c1_0]; simp
    clear c1_0 c1_1
    go_wp2_with fail
    have k1 : Below w1.heap.size w1 (w1.alloc (.cells #[.pointer (some ⟨bA, offA + m * 7, none⟩)] 101)) := by go_grown
    refine (HIN.out (w.heap.size + 1) w1.heap.size _ (kept_trans b1 k1) (RdK_kept H.out (kept_trans b1 k1)) (by have := k1.size; omega) (by simp) (by rw [kept_cell k1 _ _ s1_1]; exact d1) (by simp)).mono ?_
    rintro e w3 ⟨r, rfl, hr, hb3⟩
    have b3 := kept_trans (kept_trans b1 k1) hb3
    have hs := k1.size
    have hs1 := b1.size
    go_wp2
    go_ret2
    exact ⟨_, rfl, RowI_lo hr (by omega) (Nat.le_refl _), b3⟩
  · rw [if_neg h0]
    have hc : ¬ codeI T i = 0 := h0
    have H := Lib.hid h; clear h h0
    have HS := Lib.hid hS; clear hS
    generalize codeI T i = k at *
    have hk1 : (k == 0) = false := by rw [beq_eq_false_iff_ne]; exact hc
    have hk0 : (k != 0) = true := by rw [bne_iff_ne]; exact hc
    go_enter Tryd.func28, Tryd.ntmps28
    go_wp2_with fail
    refine (HS.out _ (RdK_kept H.out (by go_grown)) (Ers_kept HE.out (by go_grown))).mono ?_
    rintro e w1 ⟨rfl, hb1⟩
    have b1 := kept_trans (a := w) (by go_grown) hb1
    go_wp2
    go_ret2
    exact ⟨_, rfl, RowI_nil _ _ _, b1⟩

set_option maxRecDepth 100000 in
set_option maxHeartbeats 4000000 in
theorem walk_FnExactNeighboursOf (w : World) (c : Value) (ks : List (Cr × Value)) (hr : RdK w c ks) (hk : wfS ks) (ix : Int) (wix : (Lit.int .i64 ix).wf = true) (he : Ers w) :
    Calls Tryd.prog 9 #[.agg #[c], .int .i64 ix] w fun e w' => e = .returned (.bool true) ∧ Below w.heap.size w w' := by
  obtain ⟨A, cp, rfl, _, _⟩ := RdK_at hr
  have H := Lib.hid hr; clear hr
  have HE := Lib.hid he; clear he
  obtain ⟨hk, hkl⟩ := hk
  unfold maxLen at hkl
  have HZ := fun u q => szS_any (.slice A ks.length cp) ks 1000000 u q (by omega) hk
  by_cases hfit : (ks.length : Int) + totK ks ≤ 1000000
  case neg =>
    simp only [if_neg hfit] at HZ
    have HZ := Lib.hid HZ
    clear hfit hk
    go_enter Tryd.func9, Tryd.ntmps9
    go_wp2_with fail
    refine (HZ.out _ (RdK_kept H.out (by go_grown))).mono ?_
    rintro e w1 ⟨rfl, b1⟩
    replace b1 := kept_trans (a := w) (by go_grown) b1
    have l1 := kept_cell b1
    have zz1 := b1.size
    go_wp2
    go_ret
    exact ⟨rfl, b1⟩
  simp only [if_pos hfit] at HZ
  have HZ := Lib.hid HZ
  have hn1 : ks.length ≤ 1000000 := by omega
  have hch : ∀ p ∈ ks, p.1.ch.length ≤ 1000000 := fun p hp => by have := totK_mem hp; omega
  have hnm : ∀ p ∈ ks, p.1.nm.size ≤ 1000000 := fun p hp => by have := totK_mem hp; omega
  have hcs : chS (ks.map (·.1)) ≤ 1000000 := by have := chS_tot ks; omega
  have HF := Lib.hid (fun u (q : RdK u (.slice A ks.length cp) ks) => toS_false _ ks u q hn1 hch)
  have HT := Lib.hid (fun u (q : RdK u (.slice A ks.length cp) ks) => toS_true _ ks u q hn1 hch)
  have HS := Lib.hid (fun c T u (q : RdK u c T) (m : T.map (·.1) = ks.map (·.1)) => specNeigh_any c T ks ix u q m hnm)
  have HV := Lib.hid (fun c T u (q : RdK u c T) (hcap : ∃ A cp, c = .slice A T.length cp ∧ T.length ≤ cp) (m : T.map (·.1) = ks.map (·.1)) (e : Ers u) => implNeigh_any c T ks ix u q hcap m hnm e)
  have HX := Lib.hid (fun c1 c2 lo1 hi1 lo2 hi2 u h1 h2 => intactS_same (ks.map (·.1)) c1 c2 lo1 hi1 lo2 hi2 u h1 h2)
  have HM := Lib.hid (fun c lo hi u (q : SiteC u lo hi c (ks.map (·.1))) => markS_any c (ks.map (·.1)) lo hi 101 u q ⟨by omega, by omega⟩ hcs)
  have hle : (0 : Int) ≤ 1000000 - ks.length - totK ks := by omega
  have hzl : (neighL ks ix).1.length ≤ 1000000 := by
    unfold neighL
    dsimp only
    split
    · exact Nat.le_trans (idxsL_len _ _) hn1
    · simp
  clear hk hch hnm hfit hcs
  generalize neighL ks ix = R at *
  obtain ⟨zs, code⟩ := R
  generalize ks.map (·.1) = ms at *
  generalize (totK ks : Int) = tk at *
  dsimp only at *
  go_enter Tryd.func9, Tryd.ntmps9
  go_wp2_with fail
  refine (HZ.out _ (RdK_kept H.out (by go_grown))).mono ?_
  rintro e w1 ⟨rfl, b1⟩
  refine kept_at b1 (w.heap.size) (by go_size) fun c1_0 z1_0 s1_0 => ?_
  replace b1 := kept_trans (a := w) (by go_grown) b1
  have l1 := kept_cell b1
  have zz1 := b1.size
  have f0 : w1.cell? ⟨w.heap.size, 0, none⟩ = some (.slice A ks.length cp) := by rw [c1_0]; simp
  have l1_0 : w.heap.size < w1.heap.size := s1_0
  clear c1_0 z1_0
  go_wp2_with fail
  refine (HF.out _ (RdK_kept H.out b1)).mono ?_
  rintro e w2 ⟨c2, rfl, hq2, hb2⟩
  obtain ⟨T2, hc2, _, m2⟩ := SiteC_use hq2
  clear hq2
  obtain ⟨A2, cp2, rfl, _, _⟩ := RdK_at hc2
  go_wp2_with fail
  refine (HS.out _ T2 _ hc2 m2).mono ?_
  rintro e wc ⟨r4, rfl, hr4, hb4⟩
  have a5 := kept_trans hb2 hb4
  have r0 := RowI_lo (lo' := w1.heap.size) hr4 hb2.size (Nat.le_refl _)
  clear hc2 m2 hr4 hb4
  have hs5 := a5.size
  have f05 : wc.cell? ⟨w.heap.size, 0, none⟩ = some (.slice A ks.length cp) := by rw [kept_cell a5 _ _ l1_0]; exact f0
  have HK := Lib.hid (RdK_kept H.out (kept_trans b1 a5))
  go_wp2_with fail
  refine (HF.out _ HK.out).mono ?_
  rintro e w6 ⟨c6, rfl, hc6, hb6⟩
  obtain ⟨T6, q6, hcap6, m6⟩ := SiteC_use hc6
  obtain ⟨A6, cp6, rfl, _, _⟩ := RdK_at q6
  have hs6 := hb6.size
  have a6 := kept_trans a5 hb6
  have f06 : w6.cell? ⟨w.heap.size, 0, none⟩ = some (.slice A ks.length cp) := by rw [kept_cell a6 _ _ l1_0]; exact f0
  have HC6 := Lib.hid hc6; clear hc6
  have Q6 := Lib.hid q6; clear q6
  have R0 := Lib.hid (RowI_kept r0 hb6); clear r0
  have CAP6 := Lib.hid hcap6; clear hcap6
  have HE6 := Lib.hid (Ers_kept HE.out (kept_trans b1 a6))
  go_wp2_with fail
  have kx : Below w6.heap.size w6 (w6.alloc (.cells #[.slice A6 T6.length cp6] 39)) := by go_grown
  refine (HV.out _ T6 _ (RdK_kept Q6.out kx) CAP6.out m6 (Ers_kept HE6.out kx)).mono ?_
  rintro e wd ⟨r8, rfl, hr8, hb8⟩
  have hb9 := kept_trans kx hb8
  have g0 := RowI_lo (lo' := w6.heap.size) hr8 kx.size (Nat.le_refl _)
  have l6 : w6.heap.size < wd.heap.size := by have := hb8.size; simp at this; omega
  have x9 : wd.cell? ⟨w6.heap.size, 0, none⟩ = some (.slice A6 T6.length cp6) := by rw [kept_cell hb8 _ _ (by simp)]; simp
  clear hr8 hb8 kx
  have a9 := kept_trans a6 hb9
  have f09 : wd.cell? ⟨w.heap.size, 0, none⟩ = some (.slice A ks.length cp) := by rw [kept_cell a9 _ _ l1_0]; exact f0
  have G0 := Lib.hid g0; clear g0
  replace R0 := Lib.hid (RowI_kept R0.out hb9)
  replace HC6 := Lib.hid (SiteC_kept HC6.out hb9)
  clear Q6 CAP6 HE6 f06 f05
  go_wp2_with fail
  refine (eqInts_same _ _ _ _ (RowI_rd G0.out) (RowI_rd R0.out)).mono ?_
  rintro e w10 ⟨rfl, hb10⟩
  have a10 := kept_trans a9 hb10
  have f010 : w10.cell? ⟨w.heap.size, 0, none⟩ = some (.slice A ks.length cp) := by rw [kept_cell a10 _ _ l1_0]; exact f0
  have x10 : w10.cell? ⟨w6.heap.size, 0, none⟩ = some (.slice A6 T6.length cp6) := by rw [kept_cell hb10 _ _ l6]; exact x9
  have l10 : w6.heap.size < w10.heap.size := Nat.lt_of_lt_of_le l6 hb10.size
  replace G0 := Lib.hid (RowI_kept G0.out hb10)
  replace R0 := Lib.hid (RowI_kept R0.out hb10)
  replace HC6 := Lib.hid (SiteC_kept HC6.out hb10)
  have HK10 := Lib.hid (RdK_kept H.out (kept_trans b1 a10))
  clear f09 x9 HK
  go_wp2_with fail
  go_cut [49] (fun s w' => s = .bool false ∧ Below w10.heap.size w10 w')
  case first =>
    go_region_held3 (fun w' => w'.cell? ⟨w6.heap.size, 0, none⟩ = some (.slice A6 T6.length cp6) ∧ w'.cell? ⟨w.heap.size, 0, none⟩ = some (.slice A ks.length cp)) (go_keep) (first
      | (go_at_call 35; refine (HF.out _ (RdK_kept HK10.out (by go_grown))).mono ?_; rintro e w11 ⟨c11, rfl, hc11, hb11⟩; refine kept_at hb11 w6.heap.size (by go_size) fun c11_0 z11_0 s11_0 => ?_; refine kept_at hb11 w.heap.size (by go_size) fun c11_1 z11_1 s11_1 => ?_; have k11 := kept_trans (a := w10) (by go_grown) hb11)
      | (go_at_call 37; refine (HX.out _ _ _ _ _ _ _ (SiteC_kept HC6.out (kept_trans k11 (by go_grown))) (SiteC_kept hc11 (kept_trans (a := w11) (by go_grown) (Below.refl _ _)))).mono ?_; rintro e w12 ⟨rfl, hb12⟩; refine kept_at hb12 w6.heap.size (by go_size) fun c12_0 z12_0 s12_0 => ?_; refine kept_at hb12 w.heap.size (by go_size) fun c12_1 z12_1 s12_1 => ?_; have k12 := kept_trans (a := w10) (kept_trans k11 (by go_grown)) hb12))
    all_goals
      go_wp2_with fail
      go_meet
      case rel => exact ⟨rfl, by assumption⟩
  case rest =>
  obtain ⟨rfl, hb13⟩ := hcut
  have a13 := kept_trans a10 hb13
  have f013 : wc.cell? ⟨w.heap.size, 0, none⟩ = some (.slice A ks.length cp) := by rw [kept_cell a13 _ _ l1_0]; exact f0
  have x13 : wc.cell? ⟨w6.heap.size, 0, none⟩ = some (.slice A6 T6.length cp6) := by rw [kept_cell hb13 _ _ l10]; exact x10
  replace G0 := Lib.hid (RowI_kept G0.out hb13)
  replace R0 := Lib.hid (RowI_kept R0.out hb13)
  replace HC6 := Lib.hid (SiteC_kept HC6.out hb13)
  clear f010 x10 HK10
  go_wp2_with fail
  refine (HM.out _ _ _ _ HC6.out).mono ?_
  rintro e w14 ⟨m, rfl, hm1, hw14⟩
  have a14 : Below w1.heap.size w1 w14 := Below_within a13 hw14 (by omega) (Nat.le_refl _)
  have f014 : w14.cell? ⟨w.heap.size, 0, none⟩ = some (.slice A ks.length cp) := by rw [kept_cell a14 _ _ l1_0]; exact f0
  replace G0 := Lib.hid (RowI_within G0.out hw14 (Or.inr (Nat.le_refl _)))
  replace R0 := Lib.hid (RowI_within R0.out hw14 (Or.inl (Nat.le_refl _)))
  clear HC6 hw14 f013 x13
  go_wp2_with fail
  refine (eqInts_same _ _ _ _ (RowI_rd G0.out) (RowI_rd R0.out)).mono ?_
  rintro e w15 ⟨rfl, hb15⟩
  have a15 := kept_trans a14 hb15
  replace G0 := Lib.hid (RowI_kept G0.out hb15)
  replace R0 := Lib.hid (RowI_kept R0.out hb15)
  go_wp2_with fail
  refine (markInts_any _ _ _ _ 101 _ G0.out (by omega) (by omega)).mono ?_
  rintro e w16 ⟨rfl, r16, g16⟩
  have gg := G0.out.2
  replace R0 := Lib.hid (RowI_far R0.out g16 (fun g hg => by have := gg g hg; omega))
  have a16 : Below w1.heap.size w1 w16 := grown_below a15 g16 (fun g hg => by have := gg g hg; omega)
  clear G0 gg g16
  have f016 : w16.cell? ⟨w.heap.size, 0, none⟩ = some (.slice A ks.length cp) := by rw [kept_cell a16 _ _ l1_0]; exact f0
  have G1 := Lib.hid r16; clear r16
  go_wp2_with fail
  refine (heldInts_same _ _ 101 _ (RowI_rd G1.out) (by omega) (by omega)).mono ?_
  rintro e w17 ⟨rfl, rfl⟩
  have HK16 := Lib.hid (RdK_kept H.out (kept_trans b1 a16))
  have HE16 := Lib.hid (Ers_kept HE.out (kept_trans b1 a16))
  clear f014
  go_wp2_with fail
  refine (HT.out _ HK16.out).mono ?_
  rintro e w18 ⟨c18, T18, rfl, r18, hcap18, m18, hb18⟩
  obtain ⟨A18, cp18, rfl, _, _⟩ := RdK_at r18
  go_wp2_with fail
  refine (HV.out _ T18 _ r18 hcap18 m18 (Ers_kept HE16.out hb18)).mono ?_
  rintro e w20 ⟨r21', rfl, r21, hb20⟩
  have hb21 := kept_trans hb18 hb20
  clear r18 hcap18 m18
  have a21 := kept_trans a16 hb21
  replace R0 := Lib.hid (RowI_kept R0.out hb21)
  replace G1 := Lib.hid (RowI_kept G1.out hb21)
  go_wp2_with fail
  refine (eqInts_same _ _ _ _ (RowI_rd r21) (RowI_rd R0.out)).mono ?_
  rintro e w22 ⟨rfl, hb22⟩
  replace G1 := Lib.hid (RowI_kept G1.out hb22)
  go_wp2_with fail
  refine (heldInts_same _ _ 101 _ (RowI_rd G1.out) (by omega) (by omega)).mono ?_
  rintro e w23 ⟨rfl, rfl⟩
  go_wp2
  go_ret
  exact ⟨rfl, kept_trans b1 (kept_trans a21 hb22)⟩

end Go.Proofs.YtonhndiflhbkiaaDoor
