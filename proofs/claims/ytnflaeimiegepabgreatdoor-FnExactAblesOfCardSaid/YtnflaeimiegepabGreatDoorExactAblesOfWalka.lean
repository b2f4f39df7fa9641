/- Proved: for every input the law FnExactAblesOf returns true, and each argument reads afterwards as it read before; no condition beside those of the given row. -/
import Derived.Test.YtnflaeimiegepabGreatDoorRows
import Derived.WalkKit
import Derived.ProofKit
import Derived.OpenShut
import Derived.Lib.Hide
import Derived.Handy
import Derived.BigQuiet
import Derived.Carry
import Derived.Deep.DeepCutAuto
import Derived.Deep.QuietTactic
import Derived.Deep.RegionHeld3
import Derived.Deep.SlicePairs
import Derived.Laws.RangeAny
import Derived.Lib.ItoaLen
import Derived.Lib.ItoaNum
import Derived.Lib.LaidU8
import Derived.Lib.SmallJoins
import Derived.LoopIn
import Derived.LoopNIn
import Derived.Maps.AppendAt
import Derived.Maps.OwnIn
import Derived.OwnWalk
import Derived.OwnWalkIn
import Derived.RangeFuncBound
import Derived.RangeFuncBox
import Derived.RangeFuncCalls
import Derived.RangeFuncFrom
import Derived.RangeFuncLeaves
import Derived.RangeFuncNested
import Derived.Shelf.Abstract
import Derived.Shelf.RegionOpen
import Derived.TacticsInMore
import Derived.Test.YtnflaeimiegepabGreatDoorCards
import Derived.Test.YtnflaeimiegepabGreatDoorTie
import Derived.Lib.SmallJoins
import Derived.ChangeMaps5
import Derived.Deep.DeepHandedRow
import Derived.Deep.DeepWitnessRowRef
import Derived.Lib.LaidTab
import Derived.SevenTiedAt
namespace Go.Proofs.YtnflaeimiegepabGreatDoor
open Go.ChangeShapes Go.WideShapes Go.ChangeAt Go.RowKit
set_option linter.unusedVariables false
set_option linter.unusedSimpArgs false

theorem tmod_pos (n k : Int) (h : 0 ≤ n) : n.tmod k = n % k := Int.tmod_eq_emod_of_nonneg h

theorem trodAll_stay {H : Type} {enc : TypeId × Value → H} {P : Program} (hl : laidOutB P = true) {W W' : World} (hb : Below W.heap.size W W') :
    ∀ (ts : List TypeId) (vs : List Value) (ds : List (DataW H)) (ps : List MemPlace), ts.all (fun t => P.readableRec t && decide (t < P.types.size)) = true →
      DataW.TrodAll enc P W 0 (fun _ => true) true ts vs ds ps → (∀ x ∈ ps, x.block < W.heap.size) →
      DataW.TrodAll enc P W' 0 (fun b => decide (b < W.heap.size)) true ts vs ds ps := by
  intro ts
  induction ts with
  | nil => intro vs ds ps _ h _; obtain ⟨rfl, rfl, rfl⟩ := trodAll_nil h; exact rfl
  | cons t ts ih =>
    intro vs ds ps hr h hlt
    simp only [List.all_cons, Bool.and_eq_true, decide_eq_true_eq] at hr
    obtain ⟨v, vs', d, ds', p, q, rfl, rfl, rfl, h0, h1⟩ := trodAll_cons h
    exact ⟨p, q, Below.trod hl hr.1.1 hr.1.2 h0 hb (fun x hx => hlt x (by simp [hx])), ih _ _ _ hr.2 h1 (fun x hx => hlt x (by simp [hx])), rfl⟩

/-- Each variable's type is one that can be read. -/
def varsOk (P : Program) (ns : List String) : Bool := ns.all fun n => match P.globalNamed n with
  | some g => (match (P.globals[g]?).map (·.type) with | some t => P.readableRec t && decide (t < P.types.size) | none => true)
  | none => true

theorem trodVars_stay {H : Type} {enc : TypeId × Value → H} {P : Program} (hl : laidOutB P = true) {W W' : World} (hb : Below W.heap.size W W') :
    ∀ (ns : List String) (gs : List (DataW H)) (ps : List MemPlace), varsOk P ns = true → DataW.TrodVars enc P W (fun _ => true) ns gs ps → (∀ x ∈ ps, x.block < W.heap.size) →
      DataW.TrodVars enc P W' (fun b => decide (b < W.heap.size)) ns gs ps := by
  intro ns
  induction ns with
  | nil => intro gs ps _ h _; obtain ⟨rfl, rfl⟩ := trodVars_none h; exact rfl
  | cons n ns ih =>
    intro gs ps hv h hlt
    cases gs with
    | nil => exact h.elim
    | cons d gs =>
      obtain ⟨g, t, cs, fuel, p, q, hg, ht, hvar, hd, hr, rfl⟩ := h
      simp only [varsOk, List.all_cons, Bool.and_eq_true] at hv
      have hv1 := hv.1
      rw [hg] at hv1
      simp only [ht, Bool.and_eq_true, decide_eq_true_eq] at hv1
      have hgl : g < W.heap.size := by
        simp only [World.var?, hg, Option.bind_some] at hvar
        rcases Nat.lt_or_ge g W.heap.size with hlt | hge
        · exact hlt
        · rw [Array.getElem?_eq_none hge] at hvar; simp at hvar
      have h0 : DataW.Trod enc P W 0 (fun _ => true) true t (.agg cs) d p := ⟨fuel, by simpa [Value.cells] using hd⟩
      obtain ⟨fuel', hd'⟩ := Below.trod hl hv1.1 hv1.2 h0 hb (fun x hx => hlt x (by simp [hx]))
      refine ⟨g, t, cs, fuel', p, q, hg, ht, ?_, by simpa [Value.cells] using hd', ih _ _ hv.2 hr (fun x hx => hlt x (by simp [hx])), rfl⟩
      simp only [World.var?, hg, Option.bind_some] at hvar ⊢
      rw [hb.block g hgl]
      exact hvar

/-- A law's row at its end, the listed variables too: it returned true, and of what was there nothing has turned. -/
theorem law_postV {H : Type} {enc : TypeId × Value → H} {P : Program} {f : Func} {s : ChangeSpec} {W W' : World} {args : Array Value} {ds gs : List (DataW H)} {before : List MemPlace} {B : TypeId}
    (hl : laidOutB P = true) (hr : f.params.toList.all (fun t => P.readableRec t && decide (t < P.types.size)) = true) (hvs : varsOk P s.vars = true)
    (hres : f.resultTypes = #[B]) (hB : P.underlying B = some .bool)
    (hW : DataW.Whole enc P f.params.toList s.vars false W args.toList ds gs before)
    (hfn : s.fn H (ds ++ gs) = { results := [.lit (.bool true)], args := ds, vars := gs }) (hb : Below W.heap.size W W') :
    s.post enc P f false true false false W args (.bool true) W' := by
  have hlt : ∀ p ∈ before, p.block < W.heap.size := fun p hp => hW.lt p hp
  have hW' := hW
  obtain ⟨p, q, hA, hV, rfl, _, _⟩ := hW'
  refine ⟨ds, gs, p ++ q, [], p, q, hW, ?_, ?_, ?_, hb.frame _, fun h => by cases h⟩
  · rw [hfn, hres]
    exact trodAll_cons_mk (shut_bool hB _) trodAll_mk0
  · rw [hfn]
    exact trodAll_stay hl hb _ _ _ _ hr hA (fun x hx => hlt x (by simp [hx]))
  · rw [hfn]
    exact trodVars_stay hl hb _ _ _ hvs hV (fun x hx => hlt x (by simp [hx]))

theorem vars_one {H : Type} {enc : TypeId × Value → H} {P : Program} {W : World} {sp : Nat → Bool} {n : String} {gs : List (DataW H)} {q : List MemPlace} (h : DataW.TrodVars enc P W sp [n] gs q) : ∃ g1, gs = [g1] := by
  cases gs with
  | nil => exact h.elim
  | cons g gs =>
    obtain ⟨_, _, _, _, _, _, _, _, _, _, hr, _⟩ := h
    obtain ⟨rfl, _⟩ := trodVars_none hr
    exact ⟨_, rfl⟩

theorem vars_len {H : Type} {enc : TypeId × Value → H} {P : Program} {W : World} {sp : Nat → Bool} : ∀ (ns : List String) (gs : List (DataW H)) (q : List MemPlace), DataW.TrodVars enc P W sp ns gs q → gs.length = ns.length := by
  intro ns
  induction ns with
  | nil => intro gs q h; obtain ⟨rfl, _⟩ := trodVars_none h; rfl
  | cons n ns ih =>
    intro gs q h
    cases gs with
    | nil => exact h.elim
    | cons g gs =>
      obtain ⟨_, _, _, _, _, _, _, _, _, _, hr, _⟩ := h
      simp [ih _ _ hr]

theorem vars_three {H : Type} {enc : TypeId × Value → H} {P : Program} {W : World} {sp : Nat → Bool} {n1 n2 n3 : String} {gs : List (DataW H)} {q : List MemPlace} (h : DataW.TrodVars enc P W sp [n1, n2, n3] gs q) : ∃ g1 g2 g3, gs = [g1, g2, g3] := by
  have := vars_len _ _ _ h
  match gs, this with
  | [g1, g2, g3], _ => exact ⟨_, _, _, rfl⟩

theorem vars_two {H : Type} {enc : TypeId × Value → H} {P : Program} {W : World} {sp : Nat → Bool} {n1 n2 : String} {gs : List (DataW H)} {q : List MemPlace} (h : DataW.TrodVars enc P W sp [n1, n2] gs q) : ∃ g1 g2, gs = [g1, g2] := by
  have := vars_len _ _ _ h
  match gs, this with
  | [g1, g2], _ => exact ⟨_, _, rfl⟩

theorem kept_cell {W w1 : World} (hb : Below W.heap.size W w1) (b o : Nat) (h : b < W.heap.size) : w1.cell? ⟨b, o, none⟩ = W.cell? ⟨b, o, none⟩ := hb.cell (p := ⟨b, o, none⟩) h

theorem kept_frozen {W w1 : World} (hb : Below W.heap.size W w1) (b o : Nat) (h : b < W.heap.size) : w1.frozen? ⟨b, o, none⟩ = W.frozen? ⟨b, o, none⟩ := hb.frozen (p := ⟨b, o, none⟩) h

theorem kept {W w1 : World} (hb : Below W.heap.size W w1) :
    (∀ b o, b < W.heap.size → w1.cell? ⟨b, o, none⟩ = W.cell? ⟨b, o, none⟩) ∧ (∀ b o, b < W.heap.size → w1.frozen? ⟨b, o, none⟩ = W.frozen? ⟨b, o, none⟩) ∧ W.heap.size ≤ w1.heap.size :=
  ⟨kept_cell hb, kept_frozen hb, hb.size⟩

theorem kept_trans {a b c : World} (h : Below a.heap.size a b) (k : Below b.heap.size b c) : Below a.heap.size a c := h.trans (k.mono h.size)

theorem kept_at {W w1 : World} (hb : Below W.heap.size W w1) (b : Nat) {G : Prop} (h : b < W.heap.size)
    (k : (∀ o, w1.cell? ⟨b, o, none⟩ = W.cell? ⟨b, o, none⟩) → (∀ o, w1.frozen? ⟨b, o, none⟩ = W.frozen? ⟨b, o, none⟩) → b < w1.heap.size → G) : G :=
  k (fun o => kept_cell hb b o h) (fun o => kept_frozen hb b o h) (Nat.lt_of_lt_of_le h hb.size)

theorem kept_drewN {B : Nat} {a w : World} (h : Below B a w) (n : Nat) : Below B a (w.drewN n) := { os := h.os, tape := h.tape, output := h.output, size := h.size, block := h.block }

theorem grown_step {a b c : World} {row : Option Nat} (h : a.grownBy b row) (k : b.grownBy c row) : a.grownBy c row :=
  ⟨k.os.trans h.os, k.tape.trans h.tape, k.output.trans h.output, Nat.le_trans h.size k.size, fun i hi hne => (k.block i (Nat.lt_of_lt_of_le hi h.size) hne).trans (h.block i hi hne)⟩

theorem grown_below {a b c : World} {row : Option Nat} (h : Below a.heap.size a b) (k : b.grownBy c row) (hr : ∀ g, row = some g → a.heap.size ≤ g) : Below a.heap.size a c := h.grown k h.size hr

theorem results_cell1 {fn : Func} {p : Tmp} {ty : TypeId} (h : fn.results = #[.cell p ty]) (tmps : Array Value) (P : Program) (w : World) :
    (results fn tmps).run P w = ((asAddr (tmps.getD p undef)).run P w).andThen fun a w₁ => (loadVar ty a).run P w₁ := by
  simp only [results, h]
  simp [Sem.run_bind, Result.andThen]

theorem grown_set (w : World) (a : Addr) (u : Value) : w.grownBy (w.setCell a u) (some a.block) :=
  ⟨rfl, rfl, rfl, by simp, fun k _ hk => heap_setCell_other w a k u (fun e => hk (by rw [e]))⟩

def inB (n low high : Int) : Bool := decide (low ≤ n) && decide (n ≤ high)

theorem in_any (n low high : Int) (w : World) :
    Calls Tryz.prog 60 #[.int .i64 n, .int .i64 low, .int .i64 high] w fun e w' => e = .returned (.bool (inB n low high)) ∧ w = w' := by
  unfold inB
  by_cases h1 : low ≤ n <;> by_cases h2 : n ≤ high <;>
  · go_enter Tryz.func60, Tryz.ntmps60
    go_wp2
    go_ret
    exact ⟨by simp [*], rfl⟩

theorem inB_true {n a b : Int} (h : inB n a b = true) : a ≤ n ∧ n ≤ b := by simpa [inB] using h

theorem inB_false {n a b : Int} (h : inB n a b = false) : ¬ (a ≤ n ∧ n ≤ b) := by simpa [inB] using h

def okP (x y : Int) : Bool := inB x (-10000) 10000 && inB y (-10000) 10000

theorem okP_true {x y : Int} (h : okP x y = true) : (-10000 ≤ x ∧ x ≤ 10000) ∧ -10000 ≤ y ∧ y ≤ 10000 := by
  simp only [okP, Bool.and_eq_true] at h
  exact ⟨inB_true h.1, inB_true h.2⟩

theorem specOk_any (x y : Int) (w : World) :
    Calls Tryz.prog 80 #[.agg #[.int .i64 x, .int .i64 y]] w fun e w' => e = .returned (.bool (okP x y)) ∧ Below w.heap.size w w' := by
  unfold okP
  cases h1 : inB x (-10000) 10000 <;>
  · go_enter Tryz.func80, Tryz.ntmps80
    go_wp2_with (go_at_call 60; refine (in_any _ _ _ _).mono ?_; rintro e w' ⟨rfl, rfl⟩)
    go_ret
    exact ⟨by simp, by go_grown⟩

theorem validPlace_any (x y : Int) (w : World) :
    Calls Tryz.prog 88 #[.agg #[.int .i64 x, .int .i64 y]] w fun e w' => e = .returned (.bool (okP x y)) ∧ Below w.heap.size w w' := by
  unfold okP inB
  rcases (show ¬ -10000 ≤ x ∨ (-10000 ≤ x ∧ ¬ x ≤ 10000) ∨ (-10000 ≤ x ∧ x ≤ 10000 ∧ ¬ -10000 ≤ y) ∨ (-10000 ≤ x ∧ x ≤ 10000 ∧ -10000 ≤ y ∧ ¬ y ≤ 10000) ∨ (-10000 ≤ x ∧ x ≤ 10000 ∧ -10000 ≤ y ∧ y ≤ 10000) from by omega) with h1 | ⟨h1, h2⟩ | ⟨h1, h2, h3⟩ | ⟨h1, h2, h3, h4⟩ | ⟨h1, h2, h3, h4⟩
  all_goals
    go_enter Tryz.func88, Tryz.ntmps88
    go_wp2
    go_ret
    exact ⟨by simp [*] <;> omega, by go_grown⟩

theorem toPoint_any (x y : Int) (w : World) :
    Calls Tryz.prog 36 #[.agg #[.int .i64 x, .int .i64 y]] w fun e w' => e = .returned (.agg #[.int .i64 x, .int .i64 y]) ∧ Below w.heap.size w w' := by
  go_enter Tryz.func36, Tryz.ntmps36
  go_wp2
  go_returns
  exact ⟨rfl, by go_grown⟩

theorem minus_any (x y u v : Int) (h1 : -20000 ≤ x ∧ x ≤ 20000) (h2 : -20000 ≤ y ∧ y ≤ 20000) (h3 : -20000 ≤ u ∧ u ≤ 20000) (h4 : -20000 ≤ v ∧ v ≤ 20000) (w : World) :
    Calls Tryz.prog 107 #[.agg #[.int .i64 x, .int .i64 y], .agg #[.int .i64 u, .int .i64 v]] w fun e w' => e = .returned (.agg #[.int .i64 (x - u), .int .i64 (y - v)]) ∧ Below w.heap.size w w' := by
  go_enter Tryz.func107, Tryz.ntmps107
  go_wp2
  go_returns
  exact ⟨rfl, by go_grown⟩

theorem scalar_any (x y u v : Int) (w : World) :
    Calls Tryz.prog 108 #[.agg #[.int .i64 x, .int .i64 y], .agg #[.int .i64 u, .int .i64 v]] w fun e w' => e = .returned (.int .i64 (wrap64 (wrap64 (x * u) + wrap64 (y * v)))) ∧ Below w.heap.size w w' := by
  go_enter Tryz.func108, Tryz.ntmps108
  go_wp2
  go_returns
  exact ⟨rfl, by go_grown⟩

theorem l02Square_any (x y u v : Int) (h1 : -20000 ≤ x ∧ x ≤ 20000) (h2 : -20000 ≤ y ∧ y ≤ 20000) (h3 : -20000 ≤ u ∧ u ≤ 20000) (h4 : -20000 ≤ v ∧ v ≤ 20000) (w : World) :
    Calls Tryz.prog 83 #[.agg #[.int .i64 x, .int .i64 y], .agg #[.int .i64 u, .int .i64 v]] w fun e w' => e = .returned (.int .i64 (wrap64 (wrap64 ((x - u) * (x - u)) + wrap64 ((y - v) * (y - v))))) ∧ Below w.heap.size w w' := by
  go_enter Tryz.func83, Tryz.ntmps83
  go_wp2
  go_returns
  exact ⟨rfl, by go_grown⟩

theorem sq_bd (a k : Int) (h1 : -k ≤ a) (h2 : a ≤ k) : 0 ≤ a * a ∧ a * a ≤ k * k := by
  refine ⟨by rcases Int.le_total 0 a with h | h; exact Int.mul_nonneg h h; exact Int.mul_nonneg_of_nonpos_of_nonpos h h, ?_⟩
  rcases Int.le_total 0 a with h | h
  · exact Int.mul_le_mul h2 h2 h (by omega)
  · have := Int.mul_le_mul (show -a ≤ k by omega) (show -a ≤ k by omega) (by omega) (by omega)
    rwa [Int.neg_mul_neg] at this

def sqL (x y u v : Int) : Int × Int := if okP x y && okP u v then ((u - x) * (u - x) + (v - y) * (v - y), 0) else (0, 1)

theorem sq_sym (a b : Int) : (a - b) * (a - b) = (b - a) * (b - a) := by
  rw [show a - b = -(b - a) by omega, Int.neg_mul_neg]

theorem sq_wrap (a b : Int) (h1 : -20000 ≤ a ∧ a ≤ 20000) (h2 : -20000 ≤ b ∧ b ≤ 20000) : wrap64 (wrap64 (a * a) + wrap64 (b * b)) = a * a + b * b := by
  have p := sq_bd a 20000 h1.1 h1.2
  have q := sq_bd b 20000 h2.1 h2.2
  rw [IntWalk.wrap64_in (a * a) (by omega), IntWalk.wrap64_in (b * b) (by omega), IntWalk.wrap64_in _ (by omega)]

theorem implSquare_any (x y u v : Int) (w : World) :
    Calls Tryz.prog 123 #[.agg #[.int .i64 x, .int .i64 y], .agg #[.int .i64 u, .int .i64 v]] w fun e w' => e = .returned (.tuple #[.int .i64 (sqL x y u v).1, .int .i64 (sqL x y u v).2]) ∧ Below w.heap.size w w' := by
  cases h1 : okP x y <;> cases h2 : okP u v
  case true.true =>
    have g1 := okP_true h1
    have g2 := okP_true h2
    have E := sq_wrap (u - x) (v - y) (by omega) (by omega)
    have F : sqL x y u v = (wrap64 (wrap64 ((u - x) * (u - x)) + wrap64 ((v - y) * (v - y))), 0) := by rw [E]; simp [sqL, *]
    rw [F]
    clear E F
    go_enter Tryz.func123, Tryz.ntmps123
    go_wp2_with (first | (go_at_call 88; refine (validPlace_any _ _ _).mono ?_; rintro e w1 ⟨rfl, hb⟩; have hs := hb.size; (try simp at hs); (try (refine kept_at hb (w.heap.size) ?_ (fun hc0 hz0 hs0 => ?_); focus go_size)); (try (refine kept_at hb (w.heap.size + 1) ?_ (fun hc1 hz1 hs1 => ?_); focus go_size)); (try (refine kept_at hb (w.heap.size + 2) ?_ (fun hc2 hz2 hs2 => ?_); focus go_size)); (try (refine kept_at hb (w.heap.size + 3) ?_ (fun hc3 hz3 hs3 => ?_); focus go_size)); (try (refine kept_at hb (w.heap.size + 4) ?_ (fun hc4 hz4 hs4 => ?_); focus go_size)); (try (refine kept_at hb (w.heap.size + 5) ?_ (fun hc5 hz5 hs5 => ?_); focus go_size)); replace hb := kept_trans (a := w) (by go_grown) hb; have hcl := kept_cell hb; have hzl := kept_frozen hb) | (go_at_call 107; refine (minus_any _ _ _ _ (by omega) (by omega) (by omega) (by omega) _).mono ?_; rintro e w1 ⟨rfl, hb⟩; have hs := hb.size; (try simp at hs); (try (refine kept_at hb (w.heap.size) ?_ (fun hc0 hz0 hs0 => ?_); focus go_size)); (try (refine kept_at hb (w.heap.size + 1) ?_ (fun hc1 hz1 hs1 => ?_); focus go_size)); (try (refine kept_at hb (w.heap.size + 2) ?_ (fun hc2 hz2 hs2 => ?_); focus go_size)); (try (refine kept_at hb (w.heap.size + 3) ?_ (fun hc3 hz3 hs3 => ?_); focus go_size)); (try (refine kept_at hb (w.heap.size + 4) ?_ (fun hc4 hz4 hs4 => ?_); focus go_size)); (try (refine kept_at hb (w.heap.size + 5) ?_ (fun hc5 hz5 hs5 => ?_); focus go_size)); replace hb := kept_trans (a := w) (by go_grown) hb; have hcl := kept_cell hb; have hzl := kept_frozen hb) | (go_at_call 108; refine (scalar_any _ _ _ _ _).mono ?_; rintro e w1 ⟨rfl, hb⟩; have hs := hb.size; (try simp at hs); (try (refine kept_at hb (w.heap.size) ?_ (fun hc0 hz0 hs0 => ?_); focus go_size)); (try (refine kept_at hb (w.heap.size + 1) ?_ (fun hc1 hz1 hs1 => ?_); focus go_size)); (try (refine kept_at hb (w.heap.size + 2) ?_ (fun hc2 hz2 hs2 => ?_); focus go_size)); (try (refine kept_at hb (w.heap.size + 3) ?_ (fun hc3 hz3 hs3 => ?_); focus go_size)); (try (refine kept_at hb (w.heap.size + 4) ?_ (fun hc4 hz4 hs4 => ?_); focus go_size)); (try (refine kept_at hb (w.heap.size + 5) ?_ (fun hc5 hz5 hs5 => ?_); focus go_size)); replace hb := kept_trans (a := w) (by go_grown) hb; have hcl := kept_cell hb; have hzl := kept_frozen hb))
    go_ret2
    exact ⟨rfl, by go_grown⟩
  all_goals
    rw [show sqL x y u v = (0, 1) by simp [sqL, *]]
    go_enter Tryz.func123, Tryz.ntmps123
    go_wp2_with (go_at_call 88; refine (validPlace_any _ _ _).mono ?_; rintro e w1 ⟨rfl, hb⟩; have hs := hb.size; (try simp at hs); (try (refine kept_at hb (w.heap.size) ?_ (fun hc0 hz0 hs0 => ?_); focus go_size)); (try (refine kept_at hb (w.heap.size + 1) ?_ (fun hc1 hz1 hs1 => ?_); focus go_size)); (try (refine kept_at hb (w.heap.size + 2) ?_ (fun hc2 hz2 hs2 => ?_); focus go_size)); (try (refine kept_at hb (w.heap.size + 3) ?_ (fun hc3 hz3 hs3 => ?_); focus go_size)); (try (refine kept_at hb (w.heap.size + 4) ?_ (fun hc4 hz4 hs4 => ?_); focus go_size)); (try (refine kept_at hb (w.heap.size + 5) ?_ (fun hc5 hz5 hs5 => ?_); focus go_size)); replace hb := kept_trans (a := w) (by go_grown) hb; have hcl := kept_cell hb; have hzl := kept_frozen hb)
    go_ret2
    exact ⟨rfl, by go_grown⟩

def IsRoot (n r : Int) : Prop := 0 ≤ r ∧ n ≤ r * r ∧ ∀ q, 0 ≤ q → q < r → q * q < n

open Classical in
noncomputable def rootL (n : Int) : Int := if h : ∃ r, IsRoot n r then Classical.choose h else 0

theorem rootL_eq {n r : Int} (h : IsRoot n r) : rootL n = r := by
  have hex : ∃ r, IsRoot n r := ⟨r, h⟩
  unfold rootL
  rw [dif_pos hex]
  obtain ⟨a1, a2, a3⟩ := Classical.choose_spec hex
  obtain ⟨b1, b2, b3⟩ := h
  rcases Int.lt_trichotomy (Classical.choose hex) r with h | h | h
  · have := b3 _ a1 h; omega
  · exact h
  · have := a3 _ b1 h; omega

theorem sq_lt {q m n : Int} (h0 : 0 ≤ q) (h1 : q ≤ m) (h2 : m * m < n) : q * q < n := by
  have := Int.mul_le_mul h1 h1 h0 (by omega)
  omega

theorem closure_any (i n : Int) (b : Nat) (w : World) (h0 : 0 ≤ i) (h1 : i ≤ 1000000) (hc : w.cell? ⟨b, 0, none⟩ = some (.int .i64 n)) :
    Calls Tryz.prog 127 #[.int .i64 i, .pointer (some ⟨b, 0, none⟩)] w fun e w' => e = .returned (.bool (decide (n ≤ i * i))) ∧ w = w' := by
  have hs := sq_bd i 1000000 (by omega) h1
  go_enter Tryz.func127, Tryz.ntmps127
  go_wp2
  go_ret
  exact ⟨by simp [IntWalk.wrap64_in (i * i) (by omega)], rfl⟩

theorem search_any (n : Int) (b : Nat) (w : World) (h0 : 0 ≤ n) (h1 : n ≤ 1000000000000) (hc : w.cell? ⟨b, 0, none⟩ = some (.int .i64 n)) :
    Calls Tryz.prog 125 #[.int .i64 1000000, .func (Fn.func 127) #[] #[.pointer (some ⟨b, 0, none⟩)]] w fun e w' => e = .returned (.int .i64 (rootL n)) ∧ w = w' := by
  go_enter Tryz.func125, Tryz.ntmps125
  go_wp2_with fail
  go_loop [5, 6] (fun i j => ∃ lo hi : Int, 0 ≤ lo ∧ lo ≤ hi ∧ hi ≤ 1000000 ∧ i = .int .i64 lo ∧ j = .int .i64 hi ∧ (∀ q, 0 ≤ q → q < lo → q * q < n) ∧ n ≤ hi * hi) (fun i j => (intOf j - intOf i).toNat)
  case atStart => exact ⟨0, 1000000, by omega, by omega, by omega, rfl, rfl, fun q h1 h2 => by omega, by omega⟩
  case round =>
    obtain ⟨lo, hi, h2, h3, h4, rfl, rfl, h5, h6⟩ := hrel
    have H5 := Lib.hid h5; clear h5
    by_cases hlt : lo < hi
    · have g1 : lo ≤ (lo + hi) / 2 := by omega
      have g2 : (lo + hi) / 2 < hi := by omega
      cases hp : decide (n ≤ (lo + hi) / 2 * ((lo + hi) / 2))
      all_goals
        have hp' : Hid (_ = _) := hp
        go_wp2_with (go_at_call 127; refine (closure_any _ n _ _ (by omega) (by omega) hc).mono ?_; rintro e w' ⟨rfl, rfl⟩)
        go_round
        case rel => first
          | exact ⟨(lo + hi) / 2 + 1, hi, by omega, by omega, h4, rfl, rfl, fun q a c => sq_lt a (by omega) (Int.not_le.mp (of_decide_eq_false hp)), h6⟩
          | exact ⟨lo, (lo + hi) / 2, h2, g1, by omega, rfl, rfl, H5.out, of_decide_eq_true hp⟩
        case measure => simp [intOf]; omega
    · have : lo = hi := by omega
      subst this
      have e := rootL_eq (n := n) ⟨h2, h6, H5.out⟩
      go_wp2
      go_ret
      exact ⟨by simp [e], rfl⟩

theorem implRootUp_any (n : Int) (w : World) :
    Calls Tryz.prog 124 #[.int .i64 n] w fun e w' => e = .returned (.tuple #[.int .i64 (if inB n 0 1000000000000 then rootL n else 0), .int .i64 (if inB n 0 1000000000000 then 0 else 2)]) ∧ Below w.heap.size w w' := by
  by_cases h0 : 0 ≤ n
  · by_cases h1 : n ≤ 1000000000000
    · rw [show inB n 0 1000000000000 = true by simp [inB, *]]
      go_enter Tryz.func124, Tryz.ntmps124
      go_wp2_with (go_at_call 125; refine (search_any n _ _ h0 h1 (by simp)).mono ?_; rintro e w1 ⟨rfl, rfl⟩)
      go_ret2
      exact ⟨rfl, by go_grown⟩
    · rw [show inB n 0 1000000000000 = false by simp [inB, *]]
      go_enter Tryz.func124, Tryz.ntmps124
      go_wp2
      go_ret2
      exact ⟨rfl, by go_grown⟩
  · rw [show inB n 0 1000000000000 = false by simp [inB, *]]
    go_enter Tryz.func124, Tryz.ntmps124
    go_wp2
    go_ret2
    exact ⟨rfl, by go_grown⟩

theorem l02Root_any (n : Int) (w : World) (h0 : 0 ≤ n) (h1 : n ≤ 1000000000000) :
    Calls Tryz.prog 114 #[.int .i64 n] w fun e w' => e = .returned (.int .i64 (rootL n)) ∧ w = w' := by
  go_enter Tryz.func114, Tryz.ntmps114
  go_wp2_with fail
  go_loop [3, 4] (fun i j => ∃ lo hi : Int, 0 ≤ lo ∧ lo ≤ hi ∧ hi ≤ 2000000 ∧ i = .int .i64 lo ∧ j = .int .i64 hi ∧ (∀ q, 0 ≤ q → q < lo → q * q < n) ∧ n ≤ hi * hi) (fun i j => (intOf j - intOf i).toNat)
  case atStart => exact ⟨0, 2000000, by omega, by omega, by omega, rfl, rfl, fun q h1 h2 => by omega, by omega⟩
  case round =>
    obtain ⟨lo, hi, h2, h3, h4, rfl, rfl, h5, h6⟩ := hrel
    have H5 := Lib.hid h5; clear h5
    by_cases hlt : lo < hi
    · have g1 : lo ≤ (lo + hi) / 2 := by omega
      have g2 : (lo + hi) / 2 < hi := by omega
      have hs := sq_bd ((lo + hi) / 2) 2000000 (by omega) (by omega)
      by_cases hp : n ≤ (lo + hi) / 2 * ((lo + hi) / 2)
      all_goals
        go_wp2
        go_round
        case rel => first
          | exact ⟨(lo + hi) / 2 + 1, hi, by omega, by omega, h4, rfl, rfl, fun q a c => sq_lt a (by omega) (Int.not_le.mp hp), h6⟩
          | exact ⟨lo, (lo + hi) / 2, h2, g1, by omega, rfl, rfl, H5.out, hp⟩
        case measure => simp [intOf]; omega
    · have : lo = hi := by omega
      subst this
      have e := rootL_eq (n := n) ⟨h2, h6, H5.out⟩
      go_wp2
      go_ret
      exact ⟨by simp [e], rfl⟩

noncomputable def radL (x y u v : Int) : Int × Int := if okP x y && okP u v then (rootL ((u - x) * (u - x) + (v - y) * (v - y)), 0) else (0, 1)

theorem implRadius_any (x y u v : Int) (w : World) :
    Calls Tryz.prog 117 #[.agg #[.int .i64 x, .int .i64 y], .agg #[.int .i64 u, .int .i64 v]] w fun e w' => e = .returned (.tuple #[.int .i64 (radL x y u v).1, .int .i64 (radL x y u v).2]) ∧ Below w.heap.size w w' := by
  cases h : okP x y && okP u v
  · have E : sqL x y u v = (0, 1) := by simp [sqL, h]
    rw [show radL x y u v = (0, 1) by simp [radL, h]]
    have hQ := fun W => E ▸ implSquare_any x y u v W
    clear E
    go_enter Tryz.func117, Tryz.ntmps117
    go_wp2_with (go_at_call 123; refine (hQ _).mono ?_; rintro e w1 ⟨rfl, hb⟩; have hs := hb.size; (try simp at hs); (try (refine kept_at hb (w.heap.size) ?_ (fun hc0 hz0 hs0 => ?_); focus go_size)); (try (refine kept_at hb (w.heap.size + 1) ?_ (fun hc1 hz1 hs1 => ?_); focus go_size)); (try (refine kept_at hb (w.heap.size + 2) ?_ (fun hc2 hz2 hs2 => ?_); focus go_size)); (try (refine kept_at hb (w.heap.size + 3) ?_ (fun hc3 hz3 hs3 => ?_); focus go_size)); (try (refine kept_at hb (w.heap.size + 4) ?_ (fun hc4 hz4 hs4 => ?_); focus go_size)); (try (refine kept_at hb (w.heap.size + 5) ?_ (fun hc5 hz5 hs5 => ?_); focus go_size)); replace hb := kept_trans (a := w) (by go_grown) hb; have hcl := kept_cell hb; have hzl := kept_frozen hb)
    go_ret2
    exact ⟨rfl, by go_grown⟩
  · obtain ⟨g1, g2⟩ := Bool.and_eq_true_iff.mp h
    have g1 := okP_true g1
    have g2 := okP_true g2
    have p := sq_bd (u - x) 20000 (by omega) (by omega)
    have q := sq_bd (v - y) 20000 (by omega) (by omega)
    generalize hN : (u - x) * (u - x) + (v - y) * (v - y) = N at *
    have E : sqL x y u v = (N, 0) := by simp [sqL, h, hN]
    rw [show radL x y u v = (rootL N, 0) by simp [radL, h, hN]]
    have hR : inB N 0 1000000000000 = true := by simp [inB]; omega
    have hQ := fun W => E ▸ implSquare_any x y u v W
    have hT := fun W => implRootUp_any N W
    simp only [hR, if_true] at hT
    clear E hN hR p q
    go_enter Tryz.func117, Tryz.ntmps117
    go_wp2_with (first | (go_at_call 123; refine (hQ _).mono ?_; rintro e w1 ⟨rfl, hb⟩; have hs := hb.size; (try simp at hs); (try (refine kept_at hb (w.heap.size) ?_ (fun hc0 hz0 hs0 => ?_); focus go_size)); (try (refine kept_at hb (w.heap.size + 1) ?_ (fun hc1 hz1 hs1 => ?_); focus go_size)); (try (refine kept_at hb (w.heap.size + 2) ?_ (fun hc2 hz2 hs2 => ?_); focus go_size)); (try (refine kept_at hb (w.heap.size + 3) ?_ (fun hc3 hz3 hs3 => ?_); focus go_size)); (try (refine kept_at hb (w.heap.size + 4) ?_ (fun hc4 hz4 hs4 => ?_); focus go_size)); (try (refine kept_at hb (w.heap.size + 5) ?_ (fun hc5 hz5 hs5 => ?_); focus go_size)); replace hb := kept_trans (a := w) (by go_grown) hb; have hcl := kept_cell hb; have hzl := kept_frozen hb) | (go_at_call 124; refine (hT _).mono ?_; rintro e w1 ⟨rfl, hb⟩; have hs := hb.size; (try simp at hs); (try (refine kept_at hb (w.heap.size) ?_ (fun hc0 hz0 hs0 => ?_); focus go_size)); (try (refine kept_at hb (w.heap.size + 1) ?_ (fun hc1 hz1 hs1 => ?_); focus go_size)); (try (refine kept_at hb (w.heap.size + 2) ?_ (fun hc2 hz2 hs2 => ?_); focus go_size)); (try (refine kept_at hb (w.heap.size + 3) ?_ (fun hc3 hz3 hs3 => ?_); focus go_size)); (try (refine kept_at hb (w.heap.size + 4) ?_ (fun hc4 hz4 hs4 => ?_); focus go_size)); (try (refine kept_at hb (w.heap.size + 5) ?_ (fun hc5 hz5 hs5 => ?_); focus go_size)); replace hb := kept_trans (a := w) (by go_grown) hb; have hcl := kept_cell hb; have hzl := kept_frozen hb))
    go_ret2
    exact ⟨rfl, by go_grown⟩

theorem info_int64 : (Tryz.prog.info? 2).map (fun i => (i.zero, i.size, i.bytes)) = some (some (.int .i64 0), 1, 8) := by kernel_rfl

theorem own_kept {W w1 : World} {base : Nat} {e : TypeId} {size : Nat} {v : Value} {n : Nat} {xs : List Value} (h : W.ownsRow base e size v n xs) (hb : Below W.heap.size W w1) : w1.ownsRow base e size v n xs := by
  refine ⟨h.1, ?_⟩
  rcases h.2 with h2 | ⟨g, cap, cur, hv, hg, hh, r⟩
  · exact Or.inl h2
  · refine Or.inr ⟨g, cap, cur, hv, hg, ?_, r⟩
    rw [hb.block g (h.lt g (by rw [hv]; rfl)).2]
    exact hh

/-- The slice value reads as a list of numbers. -/
def RdI (w : World) (v : Value) (zs : List Int) : Prop :=
  zs.length ≤ 9223372036854775807 ∧ ∃ A c, v = .slice A zs.length c ∧ ∀ k, (hk : k < zs.length) → ∃ b off, A = some ⟨b, off, none⟩ ∧ b < w.heap.size ∧ w.cell? ⟨b, off + k, none⟩ = some (.int .i64 zs[k])

theorem RdI_kept {W w1 : World} {v : Value} {zs : List Int} (h : RdI W v zs) (hb : Below W.heap.size W w1) : RdI w1 v zs := by
  obtain ⟨hl, A, c, rfl, hr⟩ := h
  refine ⟨hl, A, c, rfl, fun k hk => ?_⟩
  obtain ⟨b, off, e, hlt, hc⟩ := hr k hk
  exact ⟨b, off, e, Nat.lt_of_lt_of_le hlt hb.size, by rw [kept_cell hb b _ hlt]; exact hc⟩

/-- A row of numbers of the call's own, in a block from lo on and below hi. -/
def RowI (w : World) (lo hi : Nat) (v : Value) (zs : List Int) : Prop :=
  w.ownsRow lo 2 1 v zs.length (zs.map (Value.int .i64)) ∧ ∀ g, v.ownBlock = some g → lo ≤ g ∧ g < hi

theorem RowI_nil (w : World) (lo hi : Nat) : RowI w lo hi (.slice none 0 0) [] := ⟨World.ownsRow_nil _ _ _ _, fun g h => by simp [Value.ownBlock] at h⟩

theorem RowI_form {w : World} {lo hi : Nat} {v : Value} {zs : List Int} (h : RowI w lo hi v zs) :
    (zs = [] ∧ v = .slice none 0 0) ∨ ∃ g cap, v = .slice (some ⟨g, 0, none⟩) zs.length cap ∧ lo ≤ g ∧ g < hi ∧ g < w.heap.size ∧ zs.length ≤ cap ∧ cap ≤ maxLen := by
  rcases h.1.2 with ⟨h1, h2⟩ | ⟨g, cap, cur, rfl, hg, hh, h3, h4, _⟩
  · exact Or.inl ⟨List.eq_nil_of_length_eq_zero h2, h1⟩
  · exact Or.inr ⟨g, cap, rfl, hg, (h.2 g rfl).2, (h.1.lt g rfl).2, h3, h4⟩

theorem RowI_rd {w : World} {lo hi : Nat} {v : Value} {zs : List Int} (h : RowI w lo hi v zs) : RdI w v zs := by
  rcases RowI_form h with ⟨rfl, rfl⟩ | ⟨g, cap, rfl, _, _, hlt, h3, h4⟩
  · exact ⟨by simp, none, 0, rfl, fun k hk => by simp at hk⟩
  · unfold maxLen at h4
    refine ⟨by omega, some ⟨g, 0, none⟩, cap, rfl, fun k hk => ⟨g, 0, rfl, hlt, ?_⟩⟩
    rw [Nat.zero_add, h.1.cellAt k (by simpa using hk)]
    simp [hk]

theorem RowI_kept {W w1 : World} {lo hi : Nat} {v : Value} {zs : List Int} (h : RowI W lo hi v zs) (hb : Below W.heap.size W w1) : RowI w1 lo hi v zs := ⟨own_kept h.1 hb, h.2⟩

theorem RowI_far {W w1 : World} {lo hi : Nat} {v : Value} {zs : List Int} {row : Option Nat} (h : RowI W lo hi v zs) (hg : W.grownBy w1 row) (hr : ∀ g, row = some g → g < lo ∨ hi ≤ g) : RowI w1 lo hi v zs := by
  refine ⟨h.1.kept hg ?_, h.2⟩
  rcases hv : v.ownBlock with _ | g
  · exact Or.inl rfl
  · refine Or.inr (fun e => ?_)
    have h1 := h.2 g hv
    have h2 := hr g e.symm
    omega

theorem eqInts_same (v1 v2 : Value) (zs : List Int) (w : World) (h1 : RdI w v1 zs) (h2 : RdI w v2 zs) :
    Calls Tryz.prog 12 #[v1, v2] w fun e w' => e = .returned (.bool true) ∧ Below w.heap.size w w' := by
  obtain ⟨hl, A, c, rfl, r1⟩ := h1
  obtain ⟨_, A2, c2, rfl, r2⟩ := h2
  have R1 := Lib.hid r1; clear r1
  have R2 := Lib.hid r2; clear r2
  go_enter Tryz.func12, Tryz.ntmps12
  go_wp2_with fail
  go_loopw [5] (fun i wr => ∃ k : Nat, k ≤ zs.length ∧ i = .int .i64 k ∧ Below w.heap.size w wr) (fun i _ => zs.length - (intOf i).toNat)
  case atStart => exact ⟨0, by omega, rfl, Below.refl _ _⟩
  case round =>
    obtain ⟨k, hk, rfl, hb⟩ := hrel
    by_cases hlt : k < zs.length
    · obtain ⟨b, off, rfl, hbl, hc⟩ := R1.out k hlt
      obtain ⟨b2, off2, rfl, hbl2, hc2⟩ := R2.out k hlt
      rw [← kept_cell hb b _ hbl] at hc
      rw [← kept_cell hb b2 _ hbl2] at hc2
      go_wp2_with fail
      go_quiet (fail)
      go_wp2
      go_roundw
      case rel => exact ⟨k + 1, by omega, by go_num, kept_drewN hb _⟩
      case measure => simp [intOf]; omega
    · have : k = zs.length := by omega
      subst this
      go_wp2
      go_ret
      exact ⟨rfl, hb⟩

/-- What a marked list holds: k, k + 1, .. -/
def marks (k : Nat) : Nat → List Int
  | 0 => []
  | n + 1 => (k : Int) :: marks (k + 1) n

theorem marks_len (k n : Nat) : (marks k n).length = n := by
  induction n generalizing k with
  | zero => rfl
  | succ n ih => simp [marks, ih]

theorem marks_at (k n j : Nat) (h : j < n) : (marks k n)[j]? = some ((k + j : Nat) : Int) := by
  induction n generalizing k j with
  | zero => omega
  | succ n ih =>
    cases j with
    | zero => simp [marks]
    | succ j => simp only [marks, List.getElem?_cons_succ]; rw [ih (k + 1) j (by omega)]; congr 2; omega

theorem marks_set (k j : Nat) (l : List Int) (h : j < l.length) : (marks k j ++ l.drop j).set j ((k + j : Nat) : Int) = marks k (j + 1) ++ l.drop (j + 1) := by
  apply List.ext_getElem?
  intro i
  rw [List.getElem?_set]
  by_cases h1 : j = i
  · subst h1
    rw [if_pos rfl, if_pos (by simp [marks_len]; omega), List.getElem?_append_left (by rw [marks_len]; omega), marks_at _ _ _ (by omega)]
  · rw [if_neg h1]
    by_cases h2 : i < j
    · rw [List.getElem?_append_left (by rw [marks_len]; omega), List.getElem?_append_left (by rw [marks_len]; omega), marks_at _ _ _ h2, marks_at _ _ _ (by omega)]
    · rw [List.getElem?_append_right (by rw [marks_len]; omega), List.getElem?_append_right (by rw [marks_len]; omega), marks_len, marks_len, List.getElem?_drop, List.getElem?_drop]
      congr 1
      omega

theorem markInts_any (v : Value) (zs : List Int) (lo hi k0 : Nat) (w : World) (h : RowI w lo hi v zs) (hk0 : k0 ≤ 1000) (hn : zs.length ≤ 4611686018427387904) :
    Calls Tryz.prog 17 #[v, .int .i64 k0] w fun e w' => e = .returned (.int .i64 ((k0 + zs.length : Nat) : Int)) ∧ RowI w' lo hi v (marks k0 zs.length) ∧ w.grownBy w' v.ownBlock := by
  rcases RowI_form h with ⟨rfl, rfl⟩ | ⟨g, cap, rfl, _, _, hlt, _, _⟩
  · go_enter Tryz.func17, Tryz.ntmps17
    go_wp2_with fail
    refine wp_loop_rounds 1 ?_
    rw [rounds_succ]
    go_wp2
    go_ret
    exact ⟨rfl, RowI_nil _ _ _, World.grownBy.refl _ _⟩
  · have hll := zs.length
    generalize hN : zs.length = N at *
    have HN := Lib.hid hN; clear hN
    have H := Lib.hid h; clear h
    go_enter Tryz.func17, Tryz.ntmps17
    go_wp2_with fail
    go_loopw [1, 5] (fun q i wr => ∃ j : Nat, j ≤ N ∧ i = .int .i64 j ∧ q = .int .i64 ((k0 + j : Nat) : Int) ∧ wr.ownsRow lo 2 1 (.slice (some ⟨g, 0, none⟩) N cap) N ((marks k0 j ++ zs.drop j).map (Value.int .i64)) ∧ w.grownBy wr (some g)) (fun _ i _ => N - (intOf i).toNat)
    case atStart => exact ⟨0, by omega, rfl, by simp, by have := H.out.1; simpa [marks, HN.out] using this, World.grownBy.refl _ _⟩
    case round =>
      obtain ⟨j, hj, rfl, rfl, hown, hg⟩ := hrel
      by_cases hlt : j < N
      · have hcell : ∃ u, wr.cell? ⟨g, j, none⟩ = some u := by
          rw [hown.cellAt j (by omega)]
          have : j < ((marks k0 j ++ zs.drop j).map (Value.int .i64)).length := by simp [marks_len, HN.out]; omega
          exact ⟨_, List.getElem?_eq_getElem this⟩
        obtain ⟨u, hcell⟩ := hcell
        have hfz := hown.frozenAt j
        have hst := hown.stored j (.int .i64 ((k0 + j : Nat) : Int))
        have Hst := Lib.hid hst; clear hst
        have Hown := Lib.hid hown; clear hown
        go_wp2
        go_roundw
        case rel =>
          refine ⟨j + 1, by omega, by go_num, by go_num, ?_, ?_⟩
          · have := Hst.out.1
            rw [← List.map_set, marks_set _ _ _ (by rw [HN.out]; exact hlt)] at this
            exact this
          · exact grown_step hg Hst.out.2
        case measure => simp [intOf]; omega
      · have : j = N := by omega
        subst this
        go_wp2
        go_ret
        refine ⟨rfl, ⟨?_, fun x hx => H.out.2 x hx⟩, hg⟩
        rw [marks_len]
        have hd : zs.drop j = [] := List.drop_eq_nil_of_le (by rw [HN.out]; omega)
        rw [hd, List.append_nil] at hown
        exact hown

theorem markIntsX_any (v : Value) (zs : List Int) (lo hi k0 : Nat) (w : World) (h : RowI w lo hi v zs) (hk0 : k0 ≤ 20000000) (hn : zs.length ≤ 4611686018427387904) :
    Calls Tryz.prog 17 #[v, .int .i64 k0] w fun e w' => e = .returned (.int .i64 ((k0 + zs.length : Nat) : Int)) ∧ RowI w' lo hi v (marks k0 zs.length) ∧ w.grownBy w' v.ownBlock := by
  rcases RowI_form h with ⟨rfl, rfl⟩ | ⟨g, cap, rfl, _, _, hlt, _, _⟩
  · go_enter Tryz.func17, Tryz.ntmps17
    go_wp2_with fail
    refine wp_loop_rounds 1 ?_
    rw [rounds_succ]
    go_wp2
    go_ret
    exact ⟨rfl, RowI_nil _ _ _, World.grownBy.refl _ _⟩
  · have hll := zs.length
    generalize hN : zs.length = N at *
    have HN := Lib.hid hN; clear hN
    have H := Lib.hid h; clear h
    go_enter Tryz.func17, Tryz.ntmps17
    go_wp2_with fail
    go_loopw [1, 5] (fun q i wr => ∃ j : Nat, j ≤ N ∧ i = .int .i64 j ∧ q = .int .i64 ((k0 + j : Nat) : Int) ∧ wr.ownsRow lo 2 1 (.slice (some ⟨g, 0, none⟩) N cap) N ((marks k0 j ++ zs.drop j).map (Value.int .i64)) ∧ w.grownBy wr (some g)) (fun _ i _ => N - (intOf i).toNat)
    case atStart => exact ⟨0, by omega, rfl, by simp, by have := H.out.1; simpa [marks, HN.out] using this, World.grownBy.refl _ _⟩
    case round =>
      obtain ⟨j, hj, rfl, rfl, hown, hg⟩ := hrel
      by_cases hlt : j < N
      · have hcell : ∃ u, wr.cell? ⟨g, j, none⟩ = some u := by
          rw [hown.cellAt j (by omega)]
          have : j < ((marks k0 j ++ zs.drop j).map (Value.int .i64)).length := by simp [marks_len, HN.out]; omega
          exact ⟨_, List.getElem?_eq_getElem this⟩
        obtain ⟨u, hcell⟩ := hcell
        have hfz := hown.frozenAt j
        have hst := hown.stored j (.int .i64 ((k0 + j : Nat) : Int))
        have Hst := Lib.hid hst; clear hst
        have Hown := Lib.hid hown; clear hown
        go_wp2
        go_roundw
        case rel =>
          refine ⟨j + 1, by omega, by go_num, by go_num, ?_, ?_⟩
          · have := Hst.out.1
            rw [← List.map_set, marks_set _ _ _ (by rw [HN.out]; exact hlt)] at this
            exact this
          · exact grown_step hg Hst.out.2
        case measure => simp [intOf]; omega
      · have : j = N := by omega
        subst this
        go_wp2
        go_ret
        refine ⟨rfl, ⟨?_, fun x hx => H.out.2 x hx⟩, hg⟩
        rw [marks_len]
        have hd : zs.drop j = [] := List.drop_eq_nil_of_le (by rw [HN.out]; omega)
        rw [hd, List.append_nil] at hown
        exact hown

theorem heldInts_same (v : Value) (n k0 : Nat) (w : World) (h : RdI w v (marks k0 n)) (hk0 : k0 ≤ 1000) (hn : n ≤ 4611686018427387904) :
    Calls Tryz.prog 18 #[v, .int .i64 k0] w fun e w' => e = .returned (.int .i64 ((k0 + n : Nat) : Int)) ∧ w = w' := by
  obtain ⟨_, A, c, rfl, r1⟩ := h
  rw [marks_len] at *
  have R1 := Lib.hid r1; clear r1
  go_enter Tryz.func18, Tryz.ntmps18
  go_wp2_with fail
  go_loop [1, 5] (fun q i => ∃ j : Nat, j ≤ n ∧ i = .int .i64 j ∧ q = .int .i64 ((k0 + j : Nat) : Int)) (fun _ i => n - (intOf i).toNat)
  case atStart => exact ⟨0, by omega, rfl, by simp⟩
  case round =>
    obtain ⟨j, hj, rfl, rfl⟩ := hrel
    by_cases hlt : j < n
    · obtain ⟨b, off, rfl, hbl, hc⟩ := R1.out j (by rw [marks_len]; exact hlt)
      have hat := marks_at k0 n j hlt
      rw [List.getElem?_eq_getElem (by rw [marks_len]; exact hlt)] at hat
      rw [Option.some.inj hat] at hc
      clear hat
      go_wp2
      go_round
      case rel => exact ⟨j + 1, by omega, by go_num, by go_num⟩
      case measure => simp [intOf]; omega
    · have : j = n := by omega
      subst this
      go_wp2
      go_ret
      exact ⟨rfl, rfl⟩

/-- append of one number to a row of the call's own. -/
theorem wp_appendI {ops : Array Oper} {rest : List Oper} {o : Oper} {a : Act} {Q : Exit → Act → World → Prop} {W wr : World} (hgd : o.guard = none) (s x : Operand)
    (ho : o.op = .call { callee := .builtin .append, args := #[s, x], argTypes := #[27, 27] })
    (lo : Nat) (v : Value) (zs : List Int) (z : Int) (hs : a.eval s = v) (hrow : RowI wr lo wr.heap.size v zs) (hx : a.eval x = .slice (some ⟨wr.heap.size, 0, none⟩) 1 1)
    (hW : Below W.heap.size W wr) (hlo : W.heap.size ≤ lo) (hlo2 : lo ≤ wr.heap.size) (hn : zs.length < 17592186044416)
    (h : ∀ v' w', RowI w' lo w'.heap.size v' (zs ++ [z]) → Below W.heap.size W w' → wr.heap.size ≤ w'.heap.size → wpList Tryz.prog ops Q rest (a.put o.dst v') w') :
    wpList Tryz.prog ops Q (o :: rest) a (wr.alloc (.cells #[.int .i64 z] 2)) := by
  obtain ⟨i0, hi, hz0, hz1, hz2⟩ := info_parts info_int64
  refine wpList_append_own _ hgd s x _ ho lo 2 i0 (.int .i64 0) 1 8 Tryz.underlying27 hi hz0 hz1 hz2 rfl (by decide) v zs.length _ hs (hrow.1.alloc _) ⟨wr.heap.size, 0, none⟩ 1 1 [.int .i64 z] hx rfl ?_ ?_ ?_ ?_ ?_ ?_
  · intro j u hj
    cases j with
    | zero => simp at hj; subst hj; simp [Addr.add]
    | succ j => simp at hj
  · intro u hu; simp at hu; subst hu; rfl
  · unfold maxLen; omega
  · omega
  · simp; omega
  · intro v' w' hown hg _
    have e : (zs.map (Value.int .i64) ++ [.int .i64 z]) = (zs ++ [z]).map (Value.int .i64) := by simp
    rw [e] at hown
    have hrow' : RowI w' lo w'.heap.size v' (zs ++ [z]) := ⟨by simpa using hown, hown.lt⟩
    refine h v' w' hrow' ?_ (Nat.le_trans (by simp) hg.size)
    refine grown_below (hW.alloc hW.size _) hg (fun g hg2 => ?_)
    have := (hrow.2 g hg2).1
    omega

theorem eqPoint_same (x y : Int) (w : World) :
    Calls Tryz.prog 43 #[.agg #[.int .i64 x, .int .i64 y], .agg #[.int .i64 x, .int .i64 y]] w fun e w' => e = .returned (.bool true) ∧ Below w.heap.size w w' := by
  go_enter Tryz.func43, Tryz.ntmps43
  go_wp2
  go_ret
  exact ⟨rfl, by go_grown⟩

def smallI (c : Int) : Bool := decide (97 ≤ c) && decide (c ≤ 122)

def digitI (c : Int) : Bool := decide (48 ≤ c) && decide (c ≤ 57)

def okI (c : Int) : Bool := smallI c || digitI c || decide (c = 45)

def NameP (s : ByteArray) : Prop := 1 ≤ s.size ∧ s.size ≤ 12 ∧ (∀ h : 0 < s.size, smallI (s[0]'h).toNat = true) ∧ ∀ i, (h : i < s.size) → okI (s[i]'h).toNat = true

noncomputable def nameB (s : ByteArray) : Bool := @decide (NameP s) (Classical.propDecidable _)

theorem nameB_true {s : ByteArray} (h : NameP s) : nameB s = true := by unfold nameB; exact @decide_eq_true _ (Classical.propDecidable _) h

theorem nameB_false {s : ByteArray} (h : ¬ NameP s) : nameB s = false := by unfold nameB; exact @decide_eq_false _ (Classical.propDecidable _) h

theorem small_any (c : Int) (w : World) :
    Calls Tryz.prog 102 #[.int .u8 c] w fun e w' => e = .returned (.bool (smallI c)) ∧ w = w' := by
  unfold smallI
  rcases (show ¬ 97 ≤ c ∨ (97 ≤ c ∧ ¬ c ≤ 122) ∨ (97 ≤ c ∧ c ≤ 122) from by omega) with h1 | ⟨h1, h2⟩ | ⟨h1, h2⟩
  all_goals
    go_enter Tryz.func102, Tryz.ntmps102
    go_wp2
    go_ret
    exact ⟨by simp [*] <;> omega, rfl⟩

theorem digit_any (c : Int) (w : World) :
    Calls Tryz.prog 103 #[.int .u8 c] w fun e w' => e = .returned (.bool (digitI c)) ∧ w = w' := by
  unfold digitI
  rcases (show ¬ 48 ≤ c ∨ (48 ≤ c ∧ ¬ c ≤ 57) ∨ (48 ≤ c ∧ c ≤ 57) from by omega) with h1 | ⟨h1, h2⟩ | ⟨h1, h2⟩
  all_goals
    go_enter Tryz.func103, Tryz.ntmps103
    go_wp2
    go_ret
    exact ⟨by simp [*] <;> omega, rfl⟩

theorem isLetter_any (c : Int) (w : World) :
    Calls Tryz.prog 105 #[.int .i32 c] w fun e w' => e = .returned (.bool (smallI c)) ∧ w = w' := by
  unfold smallI
  rcases (show ¬ 97 ≤ c ∨ (97 ≤ c ∧ ¬ c ≤ 122) ∨ (97 ≤ c ∧ c ≤ 122) from by omega) with h1 | ⟨h1, h2⟩ | ⟨h1, h2⟩
  all_goals
    go_enter Tryz.func105, Tryz.ntmps105
    go_wp2
    go_ret
    exact ⟨by simp [*] <;> omega, rfl⟩

theorem isDigit_any (c : Int) (w : World) :
    Calls Tryz.prog 106 #[.int .i32 c] w fun e w' => e = .returned (.bool (digitI c)) ∧ w = w' := by
  unfold digitI
  rcases (show ¬ 48 ≤ c ∨ (48 ≤ c ∧ ¬ c ≤ 57) ∨ (48 ≤ c ∧ c ≤ 57) from by omega) with h1 | ⟨h1, h2⟩ | ⟨h1, h2⟩
  all_goals
    go_enter Tryz.func106, Tryz.ntmps106
    go_wp2
    go_ret
    exact ⟨by simp [*] <;> omega, rfl⟩

theorem specIsName_any (s : ByteArray) (w : World) (hs : s.size ≤ 1000000) :
    Calls Tryz.prog 79 #[.string s] w fun e w' => e = .returned (.bool (nameB s)) ∧ w = w' := by
  by_cases h0 : s.size = 0
  · have hE := nameB_false (s := s) (fun h => by have := h.1; omega)
    have hs0 : s = ByteArray.empty := by cases s with | mk d => simp [ByteArray.size] at h0; subst h0; rfl
    subst hs0
    rw [hE]
    go_enter Tryz.func79, Tryz.ntmps79
    go_wp2
    go_ret
    exact ⟨rfl, rfl⟩
  · have hne : s.toList.isEmpty = false := by
      rw [ByteArray.toList_eq]
      have : s.data.toList.length = s.size := Array.length_toList
      cases hl : s.data.toList with
      | nil => rw [hl] at this; simp at this; omega
      | cons a l => rfl
    have h0' : 0 < s.size := by omega
    by_cases h12 : s.size ≤ 12
    · cases hc : smallI (s[0]'h0').toNat
      · have hE := nameB_false (s := s) (fun h => by have := h.2.2.1 h0'; rw [hc] at this; cases this)
        rw [hE]
        have HC := Lib.hid hc; clear hc
        go_enter Tryz.func79, Tryz.ntmps79
        go_wp2_with (go_at_call 102; refine (small_any _ _).mono ?_; rw [HC.out]; rintro e w' ⟨rfl, rfl⟩)
        go_ret
        exact ⟨rfl, rfl⟩
      · have HC := Lib.hid hc; clear hc
        go_enter Tryz.func79, Tryz.ntmps79
        go_wp2_with (go_at_call 102; refine (small_any _ _).mono ?_; rw [HC.out]; rintro e w' ⟨rfl, rfl⟩)
        go_loop [3] (fun i => ∃ k : Nat, k ≤ s.size ∧ i = .int .i64 k ∧ ∀ j, (h : j < s.size) → j < k → okI (s[j]'h).toNat = true) (fun i => s.size - (intOf i).toNat)
        case atStart => exact ⟨0, by omega, rfl, fun j _ h => by omega⟩
        case round =>
          obtain ⟨k, hk, rfl, hall⟩ := hrel
          have HALL := Lib.hid hall; clear hall
          by_cases hlt : k < s.size
          · cases h1 : smallI (s[k]'hlt).toNat <;> cases h2 : digitI (s[k]'hlt).toNat <;> cases h3 : ((s[k]'hlt).toNat : Int) == 45
            all_goals
              have H1 := Lib.hid h1
              have H2 := Lib.hid h2
              have H3 := Lib.hid h3
              have h3' : (((s[k]'hlt).toNat : Int) != 45) = !(((s[k]'hlt).toNat : Int) == 45) := rfl
              rw [h3] at h3'
              clear h1 h2
              go_wp2_with (first | (go_at_call 102; refine (small_any _ _).mono ?_; rw [H1.out]; rintro e w' ⟨rfl, rfl⟩) | (go_at_call 103; refine (digit_any _ _).mono ?_; rw [H2.out]; rintro e w' ⟨rfl, rfl⟩))
              first
                | (go_ret
                   have hE := nameB_false (s := s) (fun h => by have := h.2.2.2 k hlt; simp [okI, H1.out, H2.out] at this; simp [this] at h3)
                   exact ⟨by rw [hE]; rfl, rfl⟩)
                | (go_round
                   case rel => exact ⟨k + 1, by omega, by go_num, fun j hj hjk => by
                     rcases Nat.lt_or_ge j k with h | h
                     · exact HALL.out j hj h
                     · have : j = k := by omega
                       subst this
                       simp [okI, H1.out, H2.out]
                       try simpa using h3⟩
                   case measure => simp [intOf]; omega)
          · have hE := nameB_true (s := s) ⟨by omega, h12, fun _ => HC.out, fun i hi => HALL.out i hi (by omega)⟩
            have HE := Lib.hid hE; clear hE
            go_wp2
            go_ret
            exact ⟨by rw [HE.out]; rfl, rfl⟩
    · have hE := nameB_false (s := s) (fun h => by have := h.2.1; omega)
      rw [hE]
      go_enter Tryz.func79, Tryz.ntmps79
      go_wp2
      go_ret
      exact ⟨rfl, rfl⟩

theorem implIsName_any (s : ByteArray) (w : World) (hs : s.size ≤ 1000000) :
    Calls Tryz.prog 87 #[.string s] w fun e w' => e = .returned (.bool (nameB s)) ∧ Below w.heap.size w w' := by
  by_cases h0 : s.size < 1
  · have hE := nameB_false (s := s) (fun h => by have := h.1; omega)
    rw [hE]
    go_enter Tryz.func87, Tryz.ntmps87
    go_wp2
    go_ret
    exact ⟨rfl, by go_grown⟩
  · by_cases h12 : s.size ≤ 12
    · go_enter Tryz.func87, Tryz.ntmps87
      go_wp2_with fail
      go_loopw [] (fun wr => ∃ k : Nat, k ≤ s.size ∧ wr = w.iter s k ∧ ∀ j, (h : j < s.size) → j < k → okI (s[j]'h).toNat = true ∧ (j = 0 → smallI (s[j]'h).toNat = true)) (fun wr => s.size - wr.iterPos w.heap.size)
      case atStart => exact ⟨0, by omega, rfl, fun j _ h => by omega⟩
      case round =>
        obtain ⟨k, hk, rfl, hall⟩ := hrel
        have HALL := Lib.hid hall; clear hall
        by_cases hlt : k < s.size
        · by_cases ha : (s[k]'hlt).toNat < 128
          · have hnx := fun ty => run_next_ascii (P := Tryz.prog) w s k ty hlt ha
            generalize hcg : (s[k]'hlt).toNat = c at *
            have HCG := Lib.hid hcg; clear hcg
            have hwrap : (c : Int) < 128 := by omega
            have next_ok : okI c = true → (k = 0 → smallI c = true) → ∀ j, (h : j < s.size) → j < k + 1 → okI (s[j]'h).toNat = true ∧ (j = 0 → smallI (s[j]'h).toNat = true) := by
              intro g1 g2 j hj hjk
              rcases Nat.lt_or_ge j k with h | h
              · exact HALL.out j hj h
              · have : j = k := by omega
                subst this
                rw [HCG.out]
                exact ⟨g1, g2⟩
            have NOK := Lib.hid next_ok; clear next_ok
            have bad0 : k = 0 → smallI c = false → nameB s = false := fun e g => nameB_false (fun h => by
              have h1 := h.2.2.1 (by omega)
              subst e
              rw [HCG.out, g] at h1
              cases h1)
            have badk : okI c = false → nameB s = false := fun g => nameB_false (fun h => by
              have h1 := h.2.2.2 k hlt
              rw [HCG.out, g] at h1
              cases h1)
            have BAD0 := Lib.hid bad0; clear bad0
            have BADK := Lib.hid badk; clear badk
            cases h1 : smallI c
            · by_cases hk0 : k = 0
              · have e0 : ((k : Int) == 0) = true := by simp [hk0]
                have H1 := Lib.hid h1; clear h1
                have HK0 := Lib.hid hk0; clear hk0
                go_wp2_with (go_at_call 105; refine (isLetter_any _ _).mono ?_; rw [H1.out]; rintro e w' ⟨rfl, rfl⟩)
                go_ret
                exact ⟨by rw [BAD0.out HK0.out H1.out]; rfl, by unfold World.iter; go_grown⟩
              · have e0 : ((k : Int) == 0) = false := by simp [hk0]
                cases h2 : digitI c <;> cases h3 : (c : Int) == 45
                all_goals
                  have h3' : ((c : Int) != 45) = !((c : Int) == 45) := rfl
                  rw [h3] at h3'
                  have H1 := Lib.hid h1; clear h1
                  have H2 := Lib.hid h2; clear h2
                  have H3 := Lib.hid h3
                  go_wp2_with (first | (go_at_call 105; refine (isLetter_any _ _).mono ?_; rw [H1.out]; rintro e w' ⟨rfl, rfl⟩) | (go_at_call 106; refine (isDigit_any _ _).mono ?_; rw [H2.out]; rintro e w' ⟨rfl, rfl⟩))
                  first
                    | (go_ret
                       exact ⟨by rw [BADK.out (by simp [okI, H1.out, H2.out]; simpa using H3.out)]; rfl, by unfold World.iter; go_grown⟩)
                    | (go_roundw
                       case rel => exact ⟨k + 1, by omega, rfl, NOK.out (by simp [okI, H1.out, H2.out]; try simpa using H3.out) (fun e => absurd e hk0)⟩
                       case measure => simp; omega)
            · have H1 := Lib.hid h1; clear h1
              go_wp2_with (go_at_call 105; refine (isLetter_any _ _).mono ?_; rw [H1.out]; rintro e w' ⟨rfl, rfl⟩)
              go_roundw
              case rel => exact ⟨k + 1, by omega, rfl, NOK.out (by simp [okI, H1.out]) (fun _ => H1.out)⟩
              case measure => simp; omega
          · have hhi := decode_high s k hlt (by omega)
            have hnx := fun ty => run_next_any (P := Tryz.prog) w s k ty hlt
            have hbad : nameB s = false := nameB_false (fun h => by
              have h1 := h.2.2.2 k hlt
              simp [okI, smallI, digitI] at h1
              omega)
            have HBAD := Lib.hid hbad; clear hbad
            generalize Utf8.decode s k = rn at *
            obtain ⟨r, n⟩ := rn
            simp only [] at hhi hnx
            have H1 : Hid (smallI (r : Int) = false) := Lib.hid (by simp [smallI]; omega)
            have H2 : Hid (digitI (r : Int) = false) := Lib.hid (by simp [digitI]; omega)
            have h3 : ((r : Int) != 45) = true := by simp; omega
            by_cases hk0 : k = 0
            all_goals
              first
                | (have e0 : ((k : Int) == 0) = true := by simp [hk0])
                | (have e0 : ((k : Int) == 0) = false := by simp [hk0])
              clear hk0
              go_wp2_with (first | (go_at_call 105; refine (isLetter_any _ _).mono ?_; rw [H1.out]; rintro e w' ⟨rfl, rfl⟩) | (go_at_call 106; refine (isDigit_any _ _).mono ?_; rw [H2.out]; rintro e w' ⟨rfl, rfl⟩))
              go_ret
              exact ⟨by rw [HBAD.out]; rfl, by unfold World.iter; go_grown⟩
        · have hnx := fun ty => run_next_end (P := Tryz.prog) w s k ty hlt
          have hE := nameB_true (s := s) ⟨by omega, h12, fun h => (HALL.out 0 h (by omega)).2 rfl, fun i hi => (HALL.out i hi (by omega)).1⟩
          have HE := Lib.hid hE; clear hE
          go_wp2
          go_ret
          exact ⟨by rw [HE.out]; rfl, by unfold World.iter; go_grown⟩
    · have hE := nameB_false (s := s) (fun h => by have := h.2.1; omega)
      rw [hE]
      go_enter Tryz.func87, Tryz.ntmps87
      go_wp2
      go_ret
      exact ⟨rfl, by go_grown⟩

theorem flat_len {α : Type} {enc : α → List Value} {sz : Nat} (h : ∀ z, (enc z).length = sz) (zs : List α) : (zs.flatMap enc).length = zs.length * sz := by
  induction zs with
  | nil => simp
  | cons z zs ih => rw [List.flatMap_cons, List.length_append, ih, h, List.length_cons, Nat.add_mul]; omega

theorem flat_at {α : Type} {enc : α → List Value} {sz : Nat} (h : ∀ z, (enc z).length = sz) (zs : List α) (k j : Nat) (hk : k < zs.length) (hj : j < sz) : (zs.flatMap enc)[k * sz + j]? = (enc zs[k])[j]? := by
  induction zs generalizing k with
  | nil => simp at hk
  | cons z zs ih =>
    cases k with
    | zero => rw [List.flatMap_cons, List.getElem?_append_left (by rw [h]; omega)]; simp
    | succ k =>
      have e : (k + 1) * sz + j - (enc z).length = k * sz + j := by rw [h, Nat.add_mul]; omega
      rw [List.flatMap_cons, List.getElem?_append_right (by rw [h, Nat.add_mul]; omega), e, ih k (by simpa using hk)]
      simp

/-- The slice value reads as n elements of sz cells each, cell for cell. -/
def RdF (w : World) (v : Value) (n sz : Nat) (xs : List Value) : Prop :=
  n ≤ 9223372036854775807 ∧ xs.length = n * sz ∧ ∃ A c, v = .slice A n c ∧ ∀ i, i < n * sz → ∃ b off, A = some ⟨b, off, none⟩ ∧ b < w.heap.size ∧ w.cell? ⟨b, off + i, none⟩ = xs[i]?

theorem RdF_kept {W w1 : World} {v : Value} {n sz : Nat} {xs : List Value} (h : RdF W v n sz xs) (hb : Below W.heap.size W w1) : RdF w1 v n sz xs := by
  obtain ⟨hl, hx, A, c, rfl, hr⟩ := h
  refine ⟨hl, hx, A, c, rfl, fun k hk => ?_⟩
  obtain ⟨b, off, e, hlt, hc⟩ := hr k hk
  exact ⟨b, off, e, Nat.lt_of_lt_of_le hlt hb.size, by rw [kept_cell hb b _ hlt]; exact hc⟩

/-- A row of elements of the call's own (type e, sz cells each), in a block from lo on and below hi. -/
def RowF (e sz : Nat) (w : World) (lo hi : Nat) (v : Value) (n : Nat) (xs : List Value) : Prop :=
  w.ownsRow lo e sz v n xs ∧ ∀ g, v.ownBlock = some g → lo ≤ g ∧ g < hi

theorem RowF_nil (e sz : Nat) (w : World) (lo hi : Nat) : RowF e sz w lo hi (.slice none 0 0) 0 [] := ⟨World.ownsRow_nil _ _ _ _, fun g h => by simp [Value.ownBlock] at h⟩

theorem RowF_form {e sz : Nat} {w : World} {lo hi : Nat} {v : Value} {n : Nat} {xs : List Value} (h : RowF e sz w lo hi v n xs) :
    (n = 0 ∧ xs = [] ∧ v = .slice none 0 0) ∨ ∃ g cap, v = .slice (some ⟨g, 0, none⟩) n cap ∧ lo ≤ g ∧ g < hi ∧ g < w.heap.size ∧ n ≤ cap ∧ cap ≤ maxLen := by
  rcases h.1.2 with ⟨h1, h2⟩ | ⟨g, cap, cur, rfl, hg, hh, h3, h4, _⟩
  · exact Or.inl ⟨h2, List.eq_nil_of_length_eq_zero (by rw [h.1.1, h2, Nat.zero_mul]), h1⟩
  · exact Or.inr ⟨g, cap, rfl, hg, (h.2 g rfl).2, (h.1.lt g rfl).2, h3, h4⟩

theorem RowF_rd {e sz : Nat} {w : World} {lo hi : Nat} {v : Value} {n : Nat} {xs : List Value} (h : RowF e sz w lo hi v n xs) : RdF w v n sz xs := by
  rcases RowF_form h with ⟨rfl, rfl, rfl⟩ | ⟨g, cap, rfl, _, _, hlt, h3, h4⟩
  · exact ⟨by simp, by simp, none, 0, rfl, fun k hk => by simp at hk⟩
  · unfold maxLen at h4
    refine ⟨by omega, h.1.1, some ⟨g, 0, none⟩, cap, rfl, fun k hk => ⟨g, 0, rfl, hlt, ?_⟩⟩
    rw [Nat.zero_add, h.1.cellAt k hk]

theorem RowF_kept {e sz : Nat} {W w1 : World} {lo hi : Nat} {v : Value} {n : Nat} {xs : List Value} (h : RowF e sz W lo hi v n xs) (hb : Below W.heap.size W w1) : RowF e sz w1 lo hi v n xs := ⟨own_kept h.1 hb, h.2⟩

theorem RowF_far {e sz : Nat} {W w1 : World} {lo hi : Nat} {v : Value} {n : Nat} {xs : List Value} {row : Option Nat} (h : RowF e sz W lo hi v n xs) (hg : W.grownBy w1 row) (hr : ∀ g, row = some g → g < lo ∨ hi ≤ g) : RowF e sz w1 lo hi v n xs := by
  refine ⟨h.1.kept hg ?_, h.2⟩
  rcases hv : v.ownBlock with _ | g
  · exact Or.inl rfl
  · refine Or.inr (fun e => ?_)
    have h1 := h.2 g hv
    have h2 := hr g e.symm
    omega

/-- The first elements of a row. -/
theorem RowF_short {e sz : Nat} {w : World} {lo hi g cap m n : Nat} {xs : List Value} (h : RowF e sz w lo hi (.slice (some ⟨g, 0, none⟩) m cap) m xs) (hn : n ≤ m) :
    RowF e sz w lo hi (.slice (some ⟨g, 0, none⟩) n cap) n (xs.take (n * sz)) := by
  refine ⟨⟨?_, ?_⟩, fun g' hg' => h.2 g' hg'⟩
  · rw [List.length_take, h.1.1]
    have := Nat.mul_le_mul_right sz hn
    omega
  · rcases h.1.2 with ⟨h1, h2⟩ | ⟨g', cap', cur, h1, hg, hh, h3, h4, h5, h6⟩
    · simp at h1
    · simp only [Value.slice.injEq, Option.some.injEq, Addr.mk.injEq, and_true, true_and] at h1
      obtain ⟨rfl, rfl⟩ := h1
      refine Or.inr ⟨g, cap, cur, rfl, hg, hh, by omega, h4, h5, ?_⟩
      rw [← h6, List.take_take]
      congr 1
      have := Nat.mul_le_mul_right sz hn
      omega

theorem RowF_lo {e sz : Nat} {w : World} {lo lo' hi hi' : Nat} {v : Value} {n : Nat} {xs : List Value} (h : RowF e sz w lo hi v n xs) (hl : lo' ≤ lo) (hh : hi ≤ hi') : RowF e sz w lo' hi' v n xs :=
  ⟨Joins.ownsRow_le h.1 hl, fun g hg => ⟨by have := (h.2 g hg).1; omega, by have := (h.2 g hg).2; omega⟩⟩

theorem RowF_set {e sz : Nat} {w : World} {lo hi b o n : Nat} {v u : Value} {xs : List Value} (h : RowF e sz w lo hi v n xs) (hb : b < lo) : RowF e sz (w.setCell ⟨b, o, none⟩ u) lo hi v n xs :=
  RowF_far h (grown_set _ _ _) (fun g hg => by simp at hg; omega)

/-- A pair of numbers, cell by cell. -/
def encP (z : Int × Int) : List Value := [.int .i64 z.1, .int .i64 z.2]

def flatP (zs : List (Int × Int)) : List Value := zs.flatMap encP

theorem flatP_len (zs : List (Int × Int)) : (flatP zs).length = zs.length * 2 := flat_len (enc := encP) (fun _ => rfl) zs

theorem flatP_at (zs : List (Int × Int)) (k : Nat) (h : k < zs.length) : (flatP zs)[k * 2]? = some (.int .i64 zs[k].1) ∧ (flatP zs)[k * 2 + 1]? = some (.int .i64 zs[k].2) :=
  ⟨flat_at (enc := encP) (sz := 2) (fun _ => rfl) zs k 0 h (by omega), flat_at (enc := encP) (sz := 2) (fun _ => rfl) zs k 1 h (by omega)⟩

/-- The slice value reads as a list of pairs of numbers. -/
def RdP (w : World) (v : Value) (zs : List (Int × Int)) : Prop := RdF w v zs.length 2 (flatP zs)

theorem RdP_kept {W w1 : World} {v : Value} {zs : List (Int × Int)} (h : RdP W v zs) (hb : Below W.heap.size W w1) : RdP w1 v zs := RdF_kept h hb

theorem RdP_slice {w : World} {v : Value} {zs : List (Int × Int)} (h : RdP w v zs) : ∃ A c, v = .slice A zs.length c ∧ zs.length ≤ 9223372036854775807 ∧
    ∀ k, (hk : k < zs.length) → ∃ b off, A = some ⟨b, off, none⟩ ∧ b < w.heap.size ∧ w.cell? ⟨b, off + k * 2, none⟩ = some (.int .i64 zs[k].1) ∧ w.cell? ⟨b, off + k * 2 + 1, none⟩ = some (.int .i64 zs[k].2) := by
  obtain ⟨hl, hx, A, c, rfl, hr⟩ := h
  refine ⟨A, c, rfl, hl, fun k hk => ?_⟩
  obtain ⟨b, off, rfl, hlt, h0⟩ := hr (k * 2) (by omega)
  obtain ⟨b', off', e, _, h1⟩ := hr (k * 2 + 1) (by omega)
  simp only [Option.some.injEq, Addr.mk.injEq, and_true] at e
  obtain ⟨rfl, rfl⟩ := e
  rw [(flatP_at zs k hk).1] at h0
  rw [(flatP_at zs k hk).2, ← Nat.add_assoc] at h1
  exact ⟨b, off, rfl, hlt, h0, h1⟩

def roomL (n : Nat) : Nat := if n % 6 = 5 then 0 else if n % 3 = 0 then 1 else n

theorem roomL_le (n : Nat) : roomL n ≤ n + 1 := by
  unfold roomL
  split
  · omega
  · split <;> omega

theorem room_any (n : Nat) (hn : n ≤ 9223372036854775807) (w : World) :
    Calls Tryz.prog 48 #[.int .i64 n] w fun e w' => e = .returned (.int .i64 (roomL n : Nat)) ∧ w = w' := by
  unfold roomL
  have e6 : (n : Int).tmod 6 = ((n % 6 : Nat) : Int) := by rw [tmod_pos _ _ (by omega)]; omega
  have e3 : (n : Int).tmod 3 = ((n % 3 : Nat) : Int) := by rw [tmod_pos _ _ (by omega)]; omega
  by_cases h6 : n % 6 = 5
  · rw [h6] at e6
    go_enter Tryz.func48, Tryz.ntmps48
    go_wp2
    go_ret
    exact ⟨by simp [h6], rfl⟩
  · have d6 : ((n : Int).tmod 6 == 5) = false := by rw [e6]; simp; omega
    by_cases h3 : n % 3 = 0
    · rw [h3] at e3
      go_enter Tryz.func48, Tryz.ntmps48
      go_wp2
      go_ret
      exact ⟨by simp [h6, h3], rfl⟩
    · have d3 : ((n : Int).tmod 3 == 0) = false := by rw [e3]; simp; omega
      go_enter Tryz.func48, Tryz.ntmps48
      go_wp2
      go_ret
      exact ⟨by simp [h6, h3], rfl⟩

theorem szC_any (A : Option Addr) (n c : Nat) (left : Int) (h : 0 ≤ left ∧ left ≤ 1000000) (hn : n ≤ 9223372036854775807) (w : World) :
    Calls Tryz.prog 78 #[.slice A n c, .int .i64 left] w fun e w' => e = .returned (.int .i64 (if (n : Int) ≤ left then left - n else -1)) ∧ w = w' := by
  by_cases h1 : (n : Int) ≤ left
  · rw [if_pos h1]
    go_enter Tryz.func78, Tryz.ntmps78
    go_wp2
    go_ret
    exact ⟨rfl, rfl⟩
  · rw [if_neg h1]
    go_enter Tryz.func78, Tryz.ntmps78
    go_wp2
    go_ret
    exact ⟨rfl, rfl⟩

theorem toStep_any (x y : Int) (w : World) :
    Calls Tryz.prog 104 #[.agg #[.int .i64 x, .int .i64 y]] w fun e w' => e = .returned (.agg #[.int .i64 x, .int .i64 y]) ∧ Below w.heap.size w w' := by
  go_enter Tryz.func104, Tryz.ntmps104
  go_wp2
  go_returns
  exact ⟨rfl, by go_grown⟩

def fillP : Int × Int := (-7000000000000000101, -7000000000000000101)

theorem fillStep_any (w : World) :
    Calls Tryz.prog 86 #[] w fun e w' => e = .returned (.agg #[.int .i64 fillP.1, .int .i64 fillP.2]) ∧ Below w.heap.size w w' := by
  unfold fillP
  go_enter Tryz.func86, Tryz.ntmps86
  go_wp2
  go_returns
  exact ⟨rfl, by go_grown⟩

theorem eqStep_same (x y : Int) (w : World) :
    Calls Tryz.prog 120 #[.agg #[.int .i64 x, .int .i64 y], .agg #[.int .i64 x, .int .i64 y]] w fun e w' => e = .returned (.bool true) ∧ Below w.heap.size w w' := by
  go_enter Tryz.func120, Tryz.ntmps120
  go_wp2
  go_ret
  exact ⟨rfl, by go_grown⟩

theorem info_step : (Tryz.prog.info? 130).map (fun i => (i.zero, i.size, i.bytes)) = some (some (.agg #[.int .i64 0, .int .i64 0]), 2, 16) := by kernel_rfl

theorem eqC_same (v1 v2 : Value) (zs : List (Int × Int)) (w : World) (h1 : RdP w v1 zs) (h2 : RdP w v2 zs) :
    Calls Tryz.prog 113 #[v1, v2] w fun e w' => e = .returned (.bool true) ∧ Below w.heap.size w w' := by
  obtain ⟨A, c, rfl, hl, r1⟩ := RdP_slice h1
  obtain ⟨A2, c2, rfl, _, r2⟩ := RdP_slice h2
  clear h1 h2
  have R1 := Lib.hid r1; clear r1
  have R2 := Lib.hid r2; clear r2
  go_enter Tryz.func113, Tryz.ntmps113
  go_wp2_with fail
  go_loopw [5] (fun i wr => ∃ k : Nat, k ≤ zs.length ∧ i = .int .i64 k ∧ Below w.heap.size w wr) (fun i _ => zs.length - (intOf i).toNat)
  case atStart => exact ⟨0, by omega, rfl, Below.refl _ _⟩
  case round =>
    obtain ⟨k, hk, rfl, hb⟩ := hrel
    by_cases hlt : k < zs.length
    · obtain ⟨b, off, rfl, hbl, hc0, hc1⟩ := R1.out k hlt
      obtain ⟨b2, off2, rfl, hbl2, hd0, hd1⟩ := R2.out k hlt
      rw [← kept_cell hb b _ hbl] at hc0 hc1
      rw [← kept_cell hb b2 _ hbl2] at hd0 hd1
      generalize zs[k].1 = x at *
      generalize zs[k].2 = y at *
      have hsz := hb.size
      have hbl' := Nat.lt_of_lt_of_le hbl hsz
      have hbl2' := Nat.lt_of_lt_of_le hbl2 hsz
      go_wp2_with fail
      go_region_held3 (fun w' => w'.cell? ⟨b, off + k * 2, none⟩ = some (.int .i64 x) ∧ w'.cell? ⟨b, off + k * 2 + 1, none⟩ = some (.int .i64 y) ∧ w'.cell? ⟨b2, off2 + k * 2, none⟩ = some (.int .i64 x) ∧ w'.cell? ⟨b2, off2 + k * 2 + 1, none⟩ = some (.int .i64 y)) (go_keep)
        ((go_at_call 120; refine (eqStep_same _ _ _).mono ?_; rintro e w1 ⟨rfl, hb1⟩; replace hb1 := kept_trans (a := wr) (by go_grown) hb1; have hcl := kept_cell hb1))
      go_wp2
      go_roundw
      case rel => exact ⟨k + 1, by omega, by go_num, kept_trans hb (by assumption)⟩
      case measure => simp [intOf]; omega
    · have : k = zs.length := by omega
      subst this
      go_wp2
      go_ret
      exact ⟨rfl, hb⟩

theorem flatP_set (l : List (Int × Int)) (j : Nat) (x y : Int) : ((flatP l).set (j * 2) (.int .i64 x)).set (j * 2 + 1) (.int .i64 y) = flatP (l.set j (x, y)) := by
  induction l generalizing j with
  | nil => simp [flatP]
  | cons z l ih =>
    cases j with
    | zero => simp [flatP, encP]
    | succ j =>
      have := ih j
      simp only [flatP, encP, List.flatMap_cons, List.cons_append, List.nil_append, Nat.succ_mul, List.set_cons_succ] at this ⊢
      rw [this]

theorem fill_step {α : Type} (T : List α) (z : α) (j : Nat) (h : j < T.length) : (T.take j ++ List.replicate (T.length - j) z).set j T[j] = T.take (j + 1) ++ List.replicate (T.length - (j + 1)) z := by
  obtain ⟨m, hm⟩ : ∃ m, T.length - j = m + 1 := ⟨T.length - j - 1, by omega⟩
  rw [hm, show T.length - (j + 1) = m by omega, List.replicate_succ, List.set_append, if_neg (by simp; omega), List.length_take, Nat.min_eq_left (by omega), Nat.sub_self, List.set_cons_zero, ← List.take_append_getElem h, List.append_assoc]
  rfl

/-- What a copy's block holds: the list, and behind it the filler. -/
def copyT (zs : List (Int × Int)) : List (Int × Int) := zs ++ List.replicate (roomL zs.length) fillP

theorem copyT_len (zs : List (Int × Int)) : (copyT zs).length = zs.length + roomL zs.length := by simp [copyT]

/-- A copy of a list of steps that the law made: the whole block is a row of the call's own. -/
def CopyC (w : World) (lo hi : Nat) (v : Value) (zs : List (Int × Int)) : Prop :=
  zs.length ≤ 1000000 ∧ ∃ g, v = .slice (some ⟨g, 0, none⟩) zs.length (copyT zs).length ∧ RowF 130 2 w lo hi (.slice (some ⟨g, 0, none⟩) (copyT zs).length (copyT zs).length) (copyT zs).length (flatP (copyT zs))

theorem CopyC_kept {W w1 : World} {lo hi : Nat} {v : Value} {zs : List (Int × Int)} (h : CopyC W lo hi v zs) (hb : Below W.heap.size W w1) : CopyC w1 lo hi v zs := by
  obtain ⟨hl, g, e, hr⟩ := h
  exact ⟨hl, g, e, RowF_kept hr hb⟩

theorem CopyC_row {w : World} {lo hi : Nat} {v : Value} {zs : List (Int × Int)} (h : CopyC w lo hi v zs) : RowF 130 2 w lo hi v zs.length (flatP zs) := by
  obtain ⟨hl, g, rfl, hr⟩ := h
  have := RowF_short hr (n := zs.length) (by rw [copyT_len]; omega)
  have e : (flatP (copyT zs)).take (zs.length * 2) = flatP zs := by
    rw [show flatP (copyT zs) = flatP zs ++ flatP (List.replicate (roomL zs.length) fillP) by simp [flatP, copyT]]
    rw [← flatP_len, List.take_left]
  rwa [e] at this

theorem CopyC_rd {w : World} {lo hi : Nat} {v : Value} {zs : List (Int × Int)} (h : CopyC w lo hi v zs) : RdP w v zs := RowF_rd (CopyC_row h)

theorem make_steps (n : Nat) (h : n ≤ 4000000) (w : World) :
    (Instr.makeSlice 86 (.int .i64 (n : Int)) (.int .i64 (n : Int))).run Tryz.prog w = .ok (.slice (some ⟨w.heap.size, 0, none⟩) n n) (w.alloc (.cells (madeCells #[.int .i64 0, .int .i64 0] (n * 2)) 130)) := by
  obtain ⟨i, hi, hz, hs, hb⟩ := info_parts info_step
  have hb' : (i.bytes : Int) * (n : Int) ≤ 281474976710656 := by rw [hb]; omega
  have hr := run_make (P := Tryz.prog) w 86 130 i (.agg #[.int .i64 0, .int .i64 0]) Tryz.underlying86 hi hz .i64 .i64 n n (by omega) (Int.le_refl _) hb' (by omega)
  simp only [Int.toNat_natCast, hs] at hr
  exact hr

theorem made_flat (n : Nat) : (madeCells #[.int .i64 0, .int .i64 0] (n * 2)).toList = flatP (List.replicate n (0, 0)) := by
  apply List.ext_getElem?
  intro j
  by_cases hj : j < n * 2
  · have h := flatP_at (List.replicate n ((0 : Int), (0 : Int))) (j / 2) (by simp; omega)
    simp only [List.getElem_replicate] at h
    rcases Nat.mod_two_eq_zero_or_one j with hp | hp
    · rw [show j / 2 * 2 = j by omega] at h
      rw [h.1]
      simp [madeCells, hj, hp]
    · rw [show j / 2 * 2 + 1 = j by omega] at h
      rw [h.2]
      simp [madeCells, hj, hp]
  · rw [List.getElem?_eq_none (by rw [Array.length_toList, size_madeCells]; omega), List.getElem?_eq_none (by rw [flatP_len]; simp; omega)]

theorem copyT_at (zs : List (Int × Int)) (j : Nat) : (h : j < zs.length) → (copyT zs)[j]'(by rw [copyT_len]; omega) = zs[j] := by
  intro h
  simp [copyT, h]

theorem copyT_fill (zs : List (Int × Int)) (j : Nat) (h : zs.length ≤ j) : (h2 : j < (copyT zs).length) → (copyT zs)[j] = fillP := by
  intro h2
  simp [copyT, h]

theorem toC_row (v : Value) (zs : List (Int × Int)) (bare : Bool) (w : World) (h : RdP w v zs) (hn : zs.length ≤ 1000000) (hbare : bare = false ∨ zs ≠ []) :
    Calls Tryz.prog 85 #[v, .bool bare] w fun e w' => ∃ v', e = .returned v' ∧ CopyC w' w.heap.size w'.heap.size v' zs ∧ Below w.heap.size w w' := by
  obtain ⟨A, c, rfl, hl, r1⟩ := RdP_slice h
  clear h
  have R := Lib.hid r1; clear r1
  have hN := copyT_len zs
  have hr := roomL_le zs.length
  have hmk : ∀ w : World, (Instr.makeSlice 86 (.int .i64 ((zs.length : Int) + (roomL zs.length : Int))) (.int .i64 ((zs.length : Int) + (roomL zs.length : Int)))).run Tryz.prog w = .ok (.slice (some ⟨w.heap.size, 0, none⟩) (copyT zs).length (copyT zs).length) (w.alloc (.cells (madeCells #[.int .i64 0, .int .i64 0] ((copyT zs).length * 2)) 130)) := by
    intro w
    have := make_steps (copyT zs).length (by omega) w
    rwa [show (((copyT zs).length : Nat) : Int) = (zs.length : Int) + (roomL zs.length : Int) by omega] at this
  have hcap : (copyT zs).length ≤ maxLen := by unfold maxLen; omega
  have hrow0 : ∀ wa : World, w.heap.size ≤ wa.heap.size → (wa.alloc (.cells (madeCells #[.int .i64 0, .int .i64 0] ((copyT zs).length * 2)) 130)).ownsRow w.heap.size 130 2 (.slice (some ⟨wa.heap.size, 0, none⟩) (copyT zs).length (copyT zs).length) (copyT zs).length (flatP ((copyT zs).take 0 ++ List.replicate ((copyT zs).length - 0) (0, 0))) := by
    intro wa hwa
    have := World.ownsRow_lit wa (e := 130) (size := 2) (madeCells #[.int .i64 0, .int .i64 0] ((copyT zs).length * 2)) (copyT zs).length hwa hcap (size_madeCells _ _)
    rw [made_flat] at this
    simpa using this
  have Hrow := Lib.hid hrow0; clear hrow0
  have hb0 : bare = true → ((zs.length : Int) == 0) = false := by
    intro hb
    have : zs.length ≠ 0 := fun h => by
      rcases hbare with h1 | h1
      · rw [hb] at h1; cases h1
      · exact h1 (List.eq_nil_of_length_eq_zero h)
    simpa using this
  clear hbare
  generalize hNN : (copyT zs).length = N at *
  have HNN := Lib.hid hNN; clear hNN
  have hNb : N ≤ 2000002 ∧ zs.length ≤ N := by omega
  have HN := Lib.hid hN; clear hN
  cases bare
  all_goals
    have hbn := hb0
    simp only [forall_const, reduceCtorEq, false_implies, Bool.false_eq_true] at hbn
    clear hb0
    go_enter Tryz.func85, Tryz.ntmps85
    go_wp2_with (go_at_call 48; refine (room_any _ (by omega) _).mono ?_; rintro e w1 ⟨rfl, rfl⟩)
    go_loopw [6] (fun i wr => ∃ j : Nat, j ≤ zs.length ∧ i = .int .i64 j ∧ wr.ownsRow w.heap.size 130 2 (.slice (some ⟨w.heap.size, 0, none⟩) N N) N (flatP ((copyT zs).take j ++ List.replicate (N - j) (0, 0))) ∧ Below w.heap.size w wr) (fun i _ => zs.length - (intOf i).toNat)
    case atStart => exact ⟨0, by omega, rfl, Hrow.out w (Nat.le_refl _), by go_grown⟩
    case round =>
      obtain ⟨j, hj, rfl, hown, hb⟩ := hrel
      have hsz := hb.size
      by_cases hlt : j < zs.length
      · obtain ⟨b, off, rfl, hbl, hc0, hc1⟩ := R.out j hlt
        rw [← kept_cell hb b _ hbl] at hc0 hc1
        go_wp2_with fail
        refine (toStep_any _ _ _).mono ?_
        rintro e w1 ⟨rfl, hb1⟩
        have hown1 := own_kept hown hb1
        have hlen : (flatP ((copyT zs).take j ++ List.replicate (N - j) (0, 0))).length = N * 2 := hown.1
        obtain ⟨u0, hu0⟩ : ∃ u, w1.cell? ⟨w.heap.size, j * 2, none⟩ = some u := by
          rw [hown1.cellAt _ (by omega)]
          exact ⟨_, List.getElem?_eq_getElem (by omega)⟩
        obtain ⟨u1, hu1⟩ : ∃ u, w1.cell? ⟨w.heap.size, j * 2 + 1, none⟩ = some u := by
          rw [hown1.cellAt _ (by omega)]
          exact ⟨_, List.getElem?_eq_getElem (by omega)⟩
        have hz0 := hown1.frozenAt (j * 2)
        have hz1 := hown1.frozenAt (j * 2 + 1)
        have hs0 := hown1.stored (j * 2) (.int .i64 zs[j].1)
        have hs1 := hs0.1.stored (j * 2 + 1) (.int .i64 zs[j].2)
        rw [flatP_set] at hs1
        have hstep := fill_step (copyT zs) (0, 0) j (by rw [HNN.out]; omega)
        rw [copyT_at zs j hlt, HNN.out] at hstep
        rw [show ((zs[j].1, zs[j].2) : Int × Int) = zs[j] from rfl, hstep] at hs1
        have Hs := Lib.hid hs1.1
        have Hg := Lib.hid (grown_step hs0.2 hs1.2)
        clear hs0 hs1 hstep hown hown1 hlen
        go_wp2
        go_roundw
        case rel => exact ⟨j + 1, by omega, by go_num, Hs.out, grown_below (kept_trans hb hb1) Hg.out (fun g hg => by simp at hg; omega)⟩
        case measure => simp [intOf]; omega
      · have : j = zs.length := by omega
        subst this
        go_wp2_with fail
        go_loopw [7] (fun i wr => ∃ j : Nat, zs.length ≤ j ∧ j ≤ N ∧ i = .int .i64 j ∧ wr.ownsRow w.heap.size 130 2 (.slice (some ⟨w.heap.size, 0, none⟩) N N) N (flatP ((copyT zs).take j ++ List.replicate (N - j) (0, 0))) ∧ Below w.heap.size w wr) (fun i _ => N - (intOf i).toNat)
        case atStart => exact ⟨zs.length, by omega, by omega, rfl, hown, hb⟩
        case round =>
          obtain ⟨j, hj0, hj, rfl, hown, hb⟩ := hrel
          have hsz := hb.size
          by_cases hlt : j < N
          · go_wp2_with fail
            refine (fillStep_any _).mono ?_
            rintro e w1 ⟨rfl, hb1⟩
            have hown1 := own_kept hown hb1
            have hlen : (flatP ((copyT zs).take j ++ List.replicate (N - j) (0, 0))).length = N * 2 := hown.1
            obtain ⟨u0, hu0⟩ : ∃ u, w1.cell? ⟨w.heap.size, j * 2, none⟩ = some u := by
              rw [hown1.cellAt _ (by omega)]
              exact ⟨_, List.getElem?_eq_getElem (by omega)⟩
            obtain ⟨u1, hu1⟩ : ∃ u, w1.cell? ⟨w.heap.size, j * 2 + 1, none⟩ = some u := by
              rw [hown1.cellAt _ (by omega)]
              exact ⟨_, List.getElem?_eq_getElem (by omega)⟩
            have hz0 := hown1.frozenAt (j * 2)
            have hz1 := hown1.frozenAt (j * 2 + 1)
            have hs0 := hown1.stored (j * 2) (.int .i64 fillP.1)
            have hs1 := hs0.1.stored (j * 2 + 1) (.int .i64 fillP.2)
            rw [flatP_set] at hs1
            have hstep := fill_step (copyT zs) (0, 0) j (by rw [HNN.out]; omega)
            rw [copyT_fill zs j hj0 (by rw [HNN.out]; omega), HNN.out] at hstep
            rw [show ((fillP.1, fillP.2) : Int × Int) = fillP from rfl, hstep] at hs1
            have Hs := Lib.hid hs1.1
            have Hg := Lib.hid (grown_step hs0.2 hs1.2)
            clear hs0 hs1 hstep hown hown1 hlen
            go_wp2
            go_roundw
            case rel => exact ⟨j + 1, by omega, by omega, by go_num, Hs.out, grown_below (kept_trans hb hb1) Hg.out (fun g hg => by simp at hg; omega)⟩
            case measure => simp [intOf]; omega
          · have : j = N := by omega
            subst this
            have Hown := Lib.hid hown; clear hown
            go_wp2
            go_ret
            have hT : (copyT zs).take j ++ List.replicate (j - j) (0, 0) = copyT zs := by rw [List.take_of_length_le (by rw [HNN.out]; exact Nat.le_refl _)]; simp
            refine ⟨_, rfl, ⟨hn, w.heap.size, by rw [HNN.out]; rfl, ?_⟩, hb⟩
            rw [HNN.out, ← hT]
            exact ⟨Hown.out, fun g hg => by simp [Value.ownBlock] at hg; subst hg; exact ⟨Nat.le_refl _, (Hown.out.lt _ rfl).2⟩⟩

theorem toC_false (v : Value) (zs : List (Int × Int)) (w : World) (h : RdP w v zs) (hn : zs.length ≤ 1000000) :
    Calls Tryz.prog 85 #[v, .bool false] w fun e w' => ∃ v', e = .returned v' ∧ CopyC w' w.heap.size w'.heap.size v' zs ∧ Below w.heap.size w w' := toC_row v zs false w h hn (Or.inl rfl)

theorem intactC_same (v1 v2 : Value) (zs : List (Int × Int)) (lo1 hi1 lo2 hi2 : Nat) (w : World) (h1 : CopyC w lo1 hi1 v1 zs) (h2 : CopyC w lo2 hi2 v2 zs) :
    Calls Tryz.prog 98 #[v1, v2] w fun e w' => e = .returned (.bool true) ∧ Below w.heap.size w w' := by
  obtain ⟨hn, g1, rfl, r1⟩ := h1
  obtain ⟨_, g2, rfl, r2⟩ := h2
  have q1 : RdP w _ (copyT zs) := RowF_rd r1
  have q2 : RdP w _ (copyT zs) := RowF_rd r2
  clear r1 r2
  have hN := copyT_len zs
  have hr := roomL_le zs.length
  generalize hT : copyT zs = T at *
  clear hT
  have Q1 := Lib.hid q1; clear q1
  have Q2 := Lib.hid q2; clear q2
  generalize hTl : T.length = N at *
  have hN' : (zs.length : Int) + (roomL zs.length : Int) = (N : Int) := by omega
  have hcap : zs.length ≤ N := by omega
  clear hN
  go_enter Tryz.func98, Tryz.ntmps98
  go_wp2_with (go_at_call 48; refine (room_any _ (by omega) _).mono ?_; rintro e w1 ⟨rfl, rfl⟩)
  go_region_held3 (fun _ => True) (trivial)
    ((go_at_call 113; refine (eqC_same _ _ T _ (by exact Q1.out) (by exact Q2.out)).mono ?_; rintro e w1 ⟨rfl, hb1⟩; replace hb1 := kept_trans (a := w) (by go_grown) hb1))
  go_wp2
  go_ret
  exact ⟨rfl, by assumption⟩

/-- The numbers of a list of pairs, one after the other. -/
def flatI (zs : List (Int × Int)) : List Int := zs.flatMap fun z => [z.1, z.2]

theorem flatI_len (zs : List (Int × Int)) : (flatI zs).length = zs.length * 2 := by
  induction zs with
  | nil => rfl
  | cons z zs ih =>
    have : flatI (z :: zs) = z.1 :: z.2 :: flatI zs := by simp [flatI]
    rw [this, List.length_cons, List.length_cons, ih, List.length_cons]
    omega

theorem flatI_eq (zs : List (Int × Int)) : flatP zs = (flatI zs).map (Value.int .i64) := by
  induction zs with
  | nil => rfl
  | cons z zs ih =>
    have h1 : flatI (z :: zs) = z.1 :: z.2 :: flatI zs := by simp [flatI]
    have h2 : flatP (z :: zs) = .int .i64 z.1 :: .int .i64 z.2 :: flatP zs := by simp [flatP, encP]
    rw [h1, h2, ih]
    rfl

theorem markC_any (v : Value) (zs : List (Int × Int)) (lo hi k0 : Nat) (w : World) (h : RowF 130 2 w lo hi v zs.length (flatP zs)) (hk0 : k0 ≤ 10000000) (hn : zs.length ≤ 4000000) :
    Calls Tryz.prog 72 #[v, .int .i64 k0] w fun e w' => e = .returned (.int .i64 ((k0 + zs.length * 2 : Nat) : Int)) ∧ RowF 130 2 w' lo hi v zs.length ((marks k0 (zs.length * 2)).map (Value.int .i64)) ∧ w.grownBy w' v.ownBlock := by
  rcases RowF_form h with ⟨hz, hx, rfl⟩ | ⟨g, cap, rfl, _, _, hlt, _, _⟩
  · have hzs := List.eq_nil_of_length_eq_zero hz
    subst hzs
    go_enter Tryz.func72, Tryz.ntmps72
    go_wp2_with fail
    refine wp_loop_rounds 1 ?_
    rw [rounds_succ]
    go_wp2
    go_ret
    exact ⟨rfl, RowF_nil _ _ _ _ _, World.grownBy.refl _ _⟩
  · have hfl := flatI_eq zs
    have hfn := flatI_len zs
    rw [hfl] at h
    generalize flatI zs = F at *
    generalize hN : zs.length = N at *
    have HN := Lib.hid hN; clear hN
    have HFN := Lib.hid hfn; clear hfn hfl
    have H := Lib.hid h; clear h
    go_enter Tryz.func72, Tryz.ntmps72
    go_wp2_with fail
    go_loopw [1, 5] (fun q i wr => ∃ j : Nat, j ≤ N ∧ i = .int .i64 j ∧ q = .int .i64 ((k0 + j * 2 : Nat) : Int) ∧ wr.ownsRow lo 130 2 (.slice (some ⟨g, 0, none⟩) N cap) N ((marks k0 (j * 2) ++ F.drop (j * 2)).map (Value.int .i64)) ∧ w.grownBy wr (some g)) (fun _ i _ => N - (intOf i).toNat)
    case atStart => exact ⟨0, by omega, rfl, by simp, by have := H.out.1; simpa [marks] using this, World.grownBy.refl _ _⟩
    case round =>
      obtain ⟨j, hj, rfl, rfl, hown, hg⟩ := hrel
      by_cases hlt : j < N
      · have hlen : ((marks k0 (j * 2) ++ F.drop (j * 2)).map (Value.int .i64)).length = N * 2 := hown.1
        obtain ⟨u0, hu0⟩ : ∃ u, wr.cell? ⟨g, j * 2, none⟩ = some u := by
          rw [hown.cellAt _ (by omega)]
          exact ⟨_, List.getElem?_eq_getElem (by omega)⟩
        obtain ⟨u1, hu1⟩ : ∃ u, wr.cell? ⟨g, j * 2 + 1, none⟩ = some u := by
          rw [hown.cellAt _ (by omega)]
          exact ⟨_, List.getElem?_eq_getElem (by omega)⟩
        have hz0 := hown.frozenAt (j * 2)
        have hz1 := hown.frozenAt (j * 2 + 1)
        have hs0 := hown.stored (j * 2) (.int .i64 ((k0 + j * 2 : Nat) : Int))
        rw [← List.map_set, marks_set _ _ _ (by rw [HFN.out]; omega)] at hs0
        have hs1 := hs0.1.stored (j * 2 + 1) (.int .i64 ((k0 + (j * 2 + 1) : Nat) : Int))
        rw [← List.map_set, marks_set _ _ _ (by rw [HFN.out]; omega)] at hs1
        have Hs := Lib.hid hs1.1
        have Hg := Lib.hid (grown_step hs0.2 hs1.2)
        clear hs0 hs1 hlen
        have Hown := Lib.hid hown; clear hown
        go_wp2
        go_roundw
        case rel =>
          refine ⟨j + 1, by omega, by go_num, by go_num, ?_, ?_⟩
          · have := Hs.out
            rw [show (j + 1) * 2 = j * 2 + 1 + 1 by omega]
            simpa [Int.add_assoc] using this
          · have := grown_step hg Hg.out
            simpa [Int.add_assoc] using this
        case measure => simp [intOf]; omega
      · have : j = N := by omega
        subst this
        go_wp2
        go_ret
        refine ⟨rfl, ⟨?_, fun x hx => H.out.2 x hx⟩, hg⟩
        have hd : F.drop (j * 2) = [] := List.drop_eq_nil_of_le (by rw [HFN.out]; omega)
        rw [hd, List.append_nil] at hown
        exact hown

/-- The step i of a list is in order. -/
def OkAt (zs : List (Int × Int)) (i : Nat) (h : i < zs.length) : Prop :=
  (1 ≤ zs[i].1 ∧ zs[i].1 ≤ 1000 ∧ 0 ≤ zs[i].2 ∧ zs[i].2 ≤ 50000) ∧ (0 < i → zs[i - 1].1 < zs[i].1 ∧ zs[i].2 ≤ zs[i - 1].2)

def OkAll (zs : List (Int × Int)) (n : Nat) : Prop := ∀ i, (h : i < zs.length) → i < n → OkAt zs i h

theorem OkAll_step {zs : List (Int × Int)} {n : Nat} (h : OkAll zs n) (hn : n < zs.length) (h1 : OkAt zs n hn) : OkAll zs (n + 1) := by
  intro i hi hlt
  rcases Nat.lt_or_ge i n with h2 | h2
  · exact h i hi h2
  · obtain rfl : i = n := by omega
    exact h1

/-- The list is a load chart. -/
def ChartP (zs : List (Int × Int)) : Prop := OkAll zs zs.length ∧ 1 ≤ zs.length ∧ zs.length ≤ 20

open Classical in
/-- .. as a bool. -/
noncomputable def chartB (zs : List (Int × Int)) : Bool := decide (ChartP zs)

theorem chartB_true {zs : List (Int × Int)} (h : ChartP zs) : chartB zs = true := by simp [chartB, h]

theorem chartB_false {zs : List (Int × Int)} (h : ¬ ChartP zs) : chartB zs = false := by simp [chartB, h]

theorem chartB_iff {zs : List (Int × Int)} : chartB zs = true ↔ ChartP zs := by simp [chartB]

theorem drew_more {w a : World} (h : ∃ q, a = w.drewN q) (n : Nat) : ∃ q, a.drewN n = w.drewN q := by
  obtain ⟨q, rfl⟩ := h
  exact ⟨q + n, World.drewN_drewN _ _ _⟩

theorem specChart_quiet (v : Value) (zs : List (Int × Int)) (w : World) (h : RdP w v zs) :
    Calls Tryz.prog 81 #[v] w fun e w' => e = .returned (.bool (chartB zs)) ∧ ∃ q, w' = w.drewN q := by
  obtain ⟨A, c, rfl, hl, r1⟩ := RdP_slice h
  clear h
  have R := Lib.hid r1; clear r1
  go_enter Tryz.func81, Tryz.ntmps81
  go_wp2_with fail
  go_loopw [3] (fun i wr => ∃ k : Nat, k ≤ zs.length ∧ i = .int .i64 k ∧ OkAll zs k ∧ ∃ q, wr = w.drewN q) (fun i _ => zs.length - (intOf i).toNat)
  case atStart => exact ⟨0, by omega, rfl, fun i _ h => by omega, 0, World.drewN_zero w⟩
  case round =>
    obtain ⟨k, hk, rfl, hall, hq⟩ := hrel
    have hb : Below w.heap.size w wr := by obtain ⟨q, rfl⟩ := hq; exact kept_drewN (Below.refl _ _) _
    have HQ := Lib.hid hq; clear hq
    by_cases hlt : k < zs.length
    · obtain ⟨b, off, rfl, hbl, hc0, hc1⟩ := R.out k hlt
      rw [← kept_cell hb b _ hbl] at hc0 hc1
      have hbad : ¬ OkAt zs k hlt → chartB zs = false := fun hn => chartB_false fun hc => hn (hc.1 k hlt hlt)
      have hgood : OkAt zs k hlt → OkAll zs (k + 1) := OkAll_step hall hlt
      unfold OkAt at hbad hgood
      generalize hx : zs[k].1 = x at *
      generalize hy : zs[k].2 = y at *
      have Hall := Lib.hid hall; clear hall
      have Hbad := Lib.hid hbad; clear hbad
      have Hgood := Lib.hid hgood; clear hgood
      cases i1 : inB x 1 1000
      · go_wp2_with (go_at_call 60; refine (in_any _ _ _ _).mono ?_; rintro e w1 ⟨rfl, rfl⟩)
        go_ret
        exact ⟨by rw [Hbad.out (fun h => inB_false i1 ⟨h.1.1, h.1.2.1⟩)]; rfl, HQ.out⟩
      · have j1 := inB_true i1
        cases i2 : inB y 0 50000
        · go_wp2_with (go_at_call 60; refine (in_any _ _ _ _).mono ?_; rintro e w1 ⟨rfl, rfl⟩)
          go_ret
          exact ⟨by rw [Hbad.out (fun h => inB_false i2 ⟨h.1.2.2.1, h.1.2.2.2⟩)]; rfl, HQ.out⟩
        · have j2 := inB_true i2
          by_cases h0 : k = 0
          · subst h0
            simp only [Nat.zero_mul, Nat.add_zero] at hc0 hc1
            go_wp2_with (go_at_call 60; refine (in_any _ _ _ _).mono ?_; rintro e w1 ⟨rfl, rfl⟩)
            go_quiet (fail)
            go_wp2
            go_roundw
            case rel => exact ⟨1, by omega, by go_num, Hgood.out ⟨by omega, fun h => by omega⟩, drew_more HQ.out _⟩
            case measure => simp [intOf]; omega
          · obtain ⟨m, hm⟩ : ∃ m, k - 1 = m := ⟨k - 1, rfl⟩
            have hkm : (k : Int) - 1 = (m : Int) := by omega
            have hkd : decide (0 < k) = true := by simp; omega
            obtain ⟨b', off', e', _, hd0, hd1⟩ := R.out m (by omega)
            simp only [Option.some.injEq, Addr.mk.injEq, and_true] at e'
            obtain ⟨rfl, rfl⟩ := e'
            rw [← kept_cell hb b _ hbl] at hd0 hd1
            simp only [hm] at Hbad Hgood
            generalize zs[m].1 = x' at *
            generalize zs[m].2 = y' at *
            by_cases h1 : x ≤ x'
            · go_wp2_with (go_at_call 60; refine (in_any _ _ _ _).mono ?_; rintro e w1 ⟨rfl, rfl⟩)
              go_quiet (fail)
              go_wp2
              go_ret
              exact ⟨by rw [Hbad.out (fun h => by omega)]; rfl, drew_more HQ.out _⟩
            · have hd1 : decide (x ≤ x') = false := by simp; omega
              by_cases h2 : y' < y
              · go_wp2_with (go_at_call 60; refine (in_any _ _ _ _).mono ?_; rintro e w1 ⟨rfl, rfl⟩)
                go_quiet (fail)
                go_wp2
                go_ret
                exact ⟨by rw [Hbad.out (fun h => by omega)]; rfl, drew_more HQ.out _⟩
              · go_wp2_with (go_at_call 60; refine (in_any _ _ _ _).mono ?_; rintro e w1 ⟨rfl, rfl⟩)
                go_quiet (fail)
                go_wp2
                go_roundw
                case rel => exact ⟨k + 1, by omega, by go_num, Hgood.out ⟨by omega, fun h => by omega⟩, drew_more HQ.out _⟩
                case measure => simp [intOf]; omega
    · have : k = zs.length := by omega
      subst this
      have E : inB (zs.length : Int) 1 20 = chartB zs := by
        by_cases hc : 1 ≤ zs.length ∧ zs.length ≤ 20
        · rw [chartB_true ⟨hall, hc⟩]
          simp [inB]
          omega
        · rw [chartB_false fun h => hc h.2]
          simp only [inB]
          simp
          omega
      go_wp2_with (go_at_call 60; refine (in_any _ _ _ _).mono ?_; rintro e w1 ⟨rfl, rfl⟩)
      go_ret
      exact ⟨rfl, HQ.out⟩

/-- The step before the step k; ahead of the first one, what no step can fail. -/
def prevP (zs : List (Int × Int)) : Nat → Int × Int
  | 0 => (0, 50000)
  | m + 1 => zs.getD m (0, 50000)

theorem prevP_succ (zs : List (Int × Int)) (k : Nat) (h : k < zs.length) : prevP zs (k + 1) = zs[k] := by simp [prevP, h]

theorem OkAt_prev {zs : List (Int × Int)} {k : Nat} (hall : OkAll zs k) (h : k < zs.length) :
    OkAt zs k h ↔ (prevP zs k).1 < zs[k].1 ∧ zs[k].1 ≤ 1000 ∧ 0 ≤ zs[k].2 ∧ zs[k].2 ≤ (prevP zs k).2 := by
  cases k with
  | zero => simp only [OkAt, prevP]; omega
  | succ m =>
    have h1 := hall m (by omega) (by omega)
    rw [prevP_succ zs m (by omega)]
    simp only [OkAt, Nat.add_sub_cancel] at h1 ⊢
    omega

theorem implChart_any (v : Value) (zs : List (Int × Int)) (w : World) (h : RdP w v zs) :
    Calls Tryz.prog 89 #[v] w fun e w' => e = .returned (.bool (chartB zs)) ∧ Below w.heap.size w w' := by
  obtain ⟨A, c, rfl, hl, r1⟩ := RdP_slice h
  clear h
  have R := Lib.hid r1; clear r1
  by_cases g1 : zs.length < 1
  · have hc : chartB zs = false := chartB_false fun h => by have := h.2; omega
    rw [hc]
    go_enter Tryz.func89, Tryz.ntmps89
    go_wp2
    go_ret
    exact ⟨rfl, Below.refl _ _⟩
  by_cases g2 : 20 < zs.length
  · have hc : chartB zs = false := chartB_false fun h => by have := h.2; omega
    rw [hc]
    go_enter Tryz.func89, Tryz.ntmps89
    go_wp2
    go_ret
    exact ⟨rfl, Below.refl _ _⟩
  go_enter Tryz.func89, Tryz.ntmps89
  go_wp2_with fail
  go_loopw [17] (fun i wr => ∃ k : Nat, k ≤ zs.length ∧ i = .int .i64 k ∧ OkAll zs k ∧ Below w.heap.size w wr ∧ w.heap.size < wr.heap.size ∧ wr.cell? ⟨w.heap.size, 0, none⟩ = some (.int .i64 (prevP zs k).1) ∧ wr.cell? ⟨w.heap.size, 1, none⟩ = some (.int .i64 (prevP zs k).2) ∧ wr.frozen? ⟨w.heap.size, 0, none⟩ = false ∧ wr.frozen? ⟨w.heap.size, 1, none⟩ = false) (fun i _ => zs.length - (intOf i).toNat)
  case atStart => exact ⟨0, by omega, rfl, fun i _ h => by omega, by go_grown, by simp, by simp [prevP], by simp [prevP], by simp, by simp⟩
  case round =>
    obtain ⟨k, hk, rfl, hall, hb, hlw, hp0, hp1, hz0, hz1⟩ := hrel
    by_cases hlt : k < zs.length
    · obtain ⟨b, off, rfl, hbl, hc0, hc1⟩ := R.out k hlt
      rw [← kept_cell hb b _ hbl] at hc0 hc1
      have hiff := OkAt_prev hall hlt
      have hbad : ¬ OkAt zs k hlt → chartB zs = false := fun hn => chartB_false fun hc => hn (hc.1 k hlt hlt)
      have hgood : OkAt zs k hlt → OkAll zs (k + 1) := OkAll_step hall hlt
      have hnext := prevP_succ zs k hlt
      rw [hiff] at hbad hgood
      clear hiff
      rw [show zs[k] = (zs[k].1, zs[k].2) from rfl] at hnext
      generalize zs[k].1 = x at *
      generalize zs[k].2 = y at *
      generalize (prevP zs k).1 = x' at *
      generalize (prevP zs k).2 = y' at *
      have Hall := Lib.hid hall; clear hall
      have Hbad := Lib.hid hbad; clear hbad
      have Hgood := Lib.hid hgood; clear hgood
      have Hnext := Lib.hid hnext; clear hnext
      by_cases h1 : x ≤ x'
      · go_wp2
        go_ret
        exact ⟨by rw [Hbad.out (fun h => by omega)]; rfl, by go_grown⟩
      · have hd1 : decide (x ≤ x') = false := by simp; omega
        by_cases h2 : 1000 < x
        · go_wp2
          go_ret
          exact ⟨by rw [Hbad.out (fun h => by omega)]; rfl, by go_grown⟩
        · by_cases h3 : y < 0
          · go_wp2
            go_ret
            exact ⟨by rw [Hbad.out (fun h => by omega)]; rfl, by go_grown⟩
          · by_cases h4 : y' < y
            · go_wp2
              go_ret
              exact ⟨by rw [Hbad.out (fun h => by omega)]; rfl, by go_grown⟩
            · go_wp2
              go_roundw
              case rel => exact ⟨k + 1, by omega, by go_num, Hgood.out (by omega), by go_grown, by simp; omega, by rw [Hnext.out]; simp [World.cell?_alloc_past, World.cell?_setCell_same', World.cell?_setCell_other, hlw, hp0, hp1], by rw [Hnext.out]; simp [World.cell?_alloc_past, World.cell?_setCell_same', World.cell?_setCell_other, hlw, hp0, hp1], by simp [World.frozen?_alloc_past, hlw, hz0], by simp [World.frozen?_alloc_past, hlw, hz1]⟩
              case measure => simp [intOf]; omega
    · have : k = zs.length := by omega
      subst this
      go_wp2
      go_ret
      exact ⟨by rw [chartB_true ⟨hall, by omega, by omega⟩]; rfl, hb⟩

/-- The index of the first step whose radius is not less; the length if there is none. -/
def findL (zs : List (Int × Int)) (r : Int) : Nat := zs.findIdx fun z => decide (r ≤ z.1)

theorem findL_le (zs : List (Int × Int)) (r : Int) : findL zs r ≤ zs.length := List.findIdx_le_length

theorem findL_before (zs : List (Int × Int)) (r : Int) (k : Nat) (h : k < findL zs r) (h1 : k < zs.length) : zs[k].1 < r := by
  have := List.not_of_lt_findIdx h
  simpa using this

theorem findL_at (zs : List (Int × Int)) (r : Int) (h : findL zs r < zs.length) : r ≤ (zs[findL zs r]).1 := by
  have := List.findIdx_getElem (w := h)
  exact of_decide_eq_true this

theorem findL_is (zs : List (Int × Int)) (r : Int) (k : Nat) (hk : k ≤ zs.length) (hb : ∀ i, (h : i < zs.length) → i < k → zs[i].1 < r) (ha : (h : k < zs.length) → r ≤ zs[k].1) : findL zs r = k := by
  rcases Nat.lt_trichotomy (findL zs r) k with h | h | h
  · have h1 := findL_at zs r (by omega)
    have h2 := hb (findL zs r) (by omega) h
    omega
  · exact h
  · have hl := findL_le zs r
    have h1 := findL_before zs r k h (by omega)
    have h2 := ha (by omega)
    omega

theorem specFind_any (v : Value) (zs : List (Int × Int)) (r : Int) (w : World) (h : RdP w v zs) :
    Calls Tryz.prog 121 #[v, .int .i64 r] w fun e w' => e = .returned (.int .i64 (if findL zs r < zs.length then (findL zs r : Int) else -1)) ∧ w = w' := by
  obtain ⟨A, c, rfl, hl, r1⟩ := RdP_slice h
  clear h
  have R := Lib.hid r1; clear r1
  generalize hF : (if findL zs r < zs.length then (findL zs r : Int) else -1) = F
  have HF := Lib.hid hF; clear hF
  go_enter Tryz.func121, Tryz.ntmps121
  go_wp2_with fail
  go_loop [5] (fun i => ∃ k : Nat, k ≤ zs.length ∧ i = .int .i64 k ∧ ∀ i, (h : i < zs.length) → i < k → zs[i].1 < r) (fun i => zs.length - (intOf i).toNat)
  case atStart => exact ⟨0, by omega, rfl, fun i _ h => by omega⟩
  case round =>
    obtain ⟨k, hk, rfl, hall⟩ := hrel
    by_cases hlt : k < zs.length
    · obtain ⟨b, off, rfl, hbl, hc0, hc1⟩ := R.out k hlt
      have his := findL_is zs r k hk hall
      have Hall := Lib.hid hall; clear hall
      have hgood : zs[k].1 < r → ∀ i, (h : i < zs.length) → i < k + 1 → zs[i].1 < r := by
        intro hg i h hi
        rcases Nat.lt_or_ge i k with h2 | h2
        · exact Hall.out i h h2
        · obtain rfl : i = k := by omega
          exact hg
      have hnot : r ≤ zs[k].1 → findL zs r = k := fun h => his fun _ => h
      clear his
      have Hgood := Lib.hid hgood; clear hgood
      have Hnot := Lib.hid hnot; clear hnot
      generalize zs[k].1 = x at *
      by_cases hx : r ≤ x
      · go_wp2
        go_ret
        exact ⟨by rw [← HF.out, Hnot.out hx, if_pos hlt]; rfl, rfl⟩
      · go_wp2
        go_round
        case rel => exact ⟨k + 1, by omega, by go_num, Hgood.out (by omega)⟩
        case measure => simp [intOf]; omega
    · have : k = zs.length := by omega
      subst this
      have his := findL_is zs r zs.length (Nat.le_refl _) hall (fun h => by omega)
      have Hall := Lib.hid hall; clear hall
      have His := Lib.hid his; clear his
      go_wp2
      go_ret
      exact ⟨by rw [← HF.out, His.out, if_neg (by omega)]; rfl, rfl⟩

set_option maxRecDepth 20000 in
/-- A search in a list of answers that are first false and then true, the answers by a function that makes memory alone. -/
theorem sortSearch_any (n : Nat) (hn : n ≤ 1000000000) (g : FuncId) (he : Enters Tryz.prog g) (cap : Array Value) (p : Nat → Bool) (hmono : ∀ i j, i ≤ j → j < n → p i = true → p j = true) (w : World)
    (hf : ∀ i, i < n → ∀ w1, Below w.heap.size w w1 → Calls Tryz.prog g (#[.int .i64 (i : Nat)] ++ cap) w1 fun e w2 => e = .returned (.bool (p i)) ∧ Below w1.heap.size w1 w2) :
    Calls Tryz.prog 125 #[.int .i64 n, .func (.func g) #[] cap] w fun e w' => ∃ k : Nat, k ≤ n ∧ (∀ i, i < k → p i = false) ∧ (∀ i, k ≤ i → i < n → p i = true) ∧ e = .returned (.int .i64 k) ∧ Below w.heap.size w w' := by
  have Hf := Lib.hid hf; clear hf
  have Hm := Lib.hid hmono; clear hmono
  go_enter Tryz.func125, Tryz.ntmps125
  go_wp2_with fail
  go_loopw [5, 6] (fun i j wr => ∃ a b : Nat, a ≤ b ∧ b ≤ n ∧ i = .int .i64 a ∧ j = .int .i64 b ∧ (∀ i, i < a → p i = false) ∧ (∀ i, b ≤ i → i < n → p i = true) ∧ Below w.heap.size w wr) (fun i j _ => (intOf j).toNat - (intOf i).toNat)
  case atStart => exact ⟨0, n, by omega, Nat.le_refl _, rfl, rfl, fun i h => by omega, fun i h h2 => by omega, Below.refl _ _⟩
  case round =>
    obtain ⟨a, b, hab, hbn, rfl, rfl, hlo, hhi, hb⟩ := hrel
    have Hlo := Lib.hid hlo; clear hlo
    have Hhi := Lib.hid hhi; clear hhi
    by_cases hlt : a < b
    · have hm : ((a : Int) + (b : Int)) / 2 = (((a + b) / 2 : Nat) : Int) := by omega
      have hm1 : (a + b) / 2 < b ∧ a ≤ (a + b) / 2 := by omega
      generalize (a + b) / 2 = m at *
      have hc := Hf.out m (by omega) wr hb
      cases hp : p m
      all_goals
        rw [hp] at hc
        have Hp := Lib.hid hp; clear hp
        have Hc := Lib.hid hc; clear hc
        go_wp2_with fail
        rw [he, Oper.upon_enter]
        refine Hc.out.mono ?_
        rintro e w1 ⟨rfl, hb1⟩
        go_wp2
        go_roundw
        case rel => first
          | exact ⟨m + 1, b, by omega, hbn, by go_num, rfl, fun i hi => (by
              cases hq : p i
              · rfl
              · have := Hm.out i m (by omega) (by omega) hq
                rw [Hp.out] at this
                cases this), Hhi.out, kept_trans hb hb1⟩
          | exact ⟨a, m, by omega, by omega, rfl, rfl, Hlo.out, fun i h1 h2 => Hm.out m i h1 h2 Hp.out, kept_trans hb hb1⟩
        case measure => simp [intOf]; omega
    · have : a = b := by omega
      subst this
      go_wp2
      go_ret
      exact ⟨a, by omega, Hlo.out, Hhi.out, rfl, hb⟩

/-- The radii increase. -/
def Incr (zs : List (Int × Int)) : Prop := ∀ i j, (hi : i < zs.length) → (hj : j < zs.length) → i ≤ j → zs[i].1 ≤ zs[j].1

theorem ChartP_incr {zs : List (Int × Int)} (h : ChartP zs) : Incr zs := by
  intro i j hi hj hij
  induction j with
  | zero =>
    obtain rfl : i = 0 := by omega
    exact Int.le_refl _
  | succ j ih =>
    rcases Nat.lt_or_ge i (j + 1) with h1 | h1
    · have h2 := ih (by omega) (by omega)
      have h3 := (h.1 (j + 1) hj hj).2 (by omega)
      simp only [Nat.add_sub_cancel] at h3
      omega
    · obtain rfl : i = j + 1 := by omega
      exact Int.le_refl _

theorem stepClosure_any (v : Value) (zs : List (Int × Int)) (r : Int) (i : Nat) (hi : i < zs.length) (b1 b2 : Nat) (w : World) (h : RdP w v zs) (h1 : w.cell? ⟨b1, 0, none⟩ = some v) (h2 : w.cell? ⟨b2, 0, none⟩ = some (.int .i64 r)) :
    Calls Tryz.prog 126 #[.int .i64 (i : Nat), .pointer (some ⟨b1, 0, none⟩), .pointer (some ⟨b2, 0, none⟩)] w fun e w' => e = .returned (.bool (decide (r ≤ zs[i].1))) ∧ Below w.heap.size w w' := by
  obtain ⟨A, c, rfl, hl, r1⟩ := RdP_slice h
  clear h
  obtain ⟨b, off, rfl, hbl, hc0, hc1⟩ := r1 i hi
  clear r1
  generalize zs[i].1 = x at *
  cases hx : decide (r ≤ x)
  all_goals
    go_enter Tryz.func126, Tryz.ntmps126
    go_wp2_with fail
    go_quiet (fail)
    go_wp2
    go_ret
    exact ⟨rfl, kept_drewN (Below.refl _ _) _⟩

theorem stepFor_any (v : Value) (zs : List (Int × Int)) (r : Int) (w : World) (h : RdP w v zs) (hs : Incr zs) (hn : zs.length ≤ 1000000) :
    Calls Tryz.prog 118 #[v, .int .i64 r] w fun e w' => e = .returned (.int .i64 (findL zs r)) ∧ Below w.heap.size w w' := by
  obtain ⟨A, c, rfl, hl, _⟩ := RdP_slice h
  have H := Lib.hid h; clear h
  have hmf : ∀ (fn : Fn) (first cap : Array Value) (w : World), (Instr.makeFunc fn first cap).run Tryz.prog w = .ok (.func fn first cap) w := fun _ _ _ _ => rfl
  go_enter Tryz.func118, Tryz.ntmps118
  go_wp2_with fail
  refine (sortSearch_any zs.length (by omega) 126 (enters_of Tryz.func126 (by kernel_rfl) rfl) _ (fun i => decide (r ≤ (zs.getD i (0, 0)).1)) ?_ _ ?_).mono ?_
  · intro i j hij hj hp
    have := hs i j (by omega) hj hij
    simp only [List.getD_eq_getElem?_getD, List.getElem?_eq_getElem hj, List.getElem?_eq_getElem (show i < zs.length by omega), Option.getD_some, decide_eq_true_eq] at hp ⊢
    omega
  · intro i hi w1 hb1
    have hb2 : Below w.heap.size w w1 := kept_trans (a := w) (by go_grown) hb1
    have e1 := kept_cell hb1 w.heap.size 0 (by simp; omega)
    have e2 := kept_cell hb1 (w.heap.size + 1) 0 (by simp)
    have := stepClosure_any _ zs r i hi w.heap.size (w.heap.size + 1) w1 (RdP_kept H.out hb2) (by rw [e1]; simp) (by rw [e2]; simp)
    simp only [List.getD_eq_getElem?_getD, List.getElem?_eq_getElem hi, Option.getD_some]
    exact this
  · rintro e w1 ⟨k, hk, hlo, hhi, rfl, hb1⟩
    have hb2 : Below w.heap.size w w1 := kept_trans (a := w) (by go_grown) hb1
    have hf : findL zs r = k := by
      refine findL_is zs r k hk (fun i hi hik => ?_) (fun hkl => ?_)
      · have := hlo i hik
        simp only [List.getD_eq_getElem?_getD, List.getElem?_eq_getElem hi, Option.getD_some, decide_eq_false_iff_not] at this
        omega
      · have := hhi k (Nat.le_refl _) hkl
        simpa only [List.getD_eq_getElem?_getD, List.getElem?_eq_getElem hkl, Option.getD_some, decide_eq_true_eq] using this
    have Hlo := Lib.hid hlo; clear hlo
    have Hhi := Lib.hid hhi; clear hhi
    have Hff := Lib.hid hf; clear hf
    go_wp2
    go_ret
    exact ⟨by rw [Hff.out]; rfl, hb2⟩

/-- The step k. -/
def atP (zs : List (Int × Int)) (k : Nat) : Int × Int := zs.getD k (0, 0)

theorem atP_is (zs : List (Int × Int)) (k : Nat) (h : k < zs.length) : atP zs k = zs[k] := by simp [atP, h]

theorem rd_at {w : World} {A : Option Addr} {n c : Nat} {zs : List (Int × Int)} (h : RdP w (.slice A n c) zs) (k : Nat) (hk : k < zs.length) :
    n = zs.length ∧ ∃ b off, A = some ⟨b, off, none⟩ ∧ b < w.heap.size ∧ w.cell? ⟨b, off + k * 2, none⟩ = some (.int .i64 (atP zs k).1) ∧ w.cell? ⟨b, off + k * 2 + 1, none⟩ = some (.int .i64 (atP zs k).2) := by
  obtain ⟨A', c', e, hl, r1⟩ := RdP_slice h
  obtain ⟨b, off, rfl, hb, h0, h1⟩ := r1 k hk
  simp only [Value.slice.injEq] at e
  refine ⟨e.2.1, b, off, e.1, hb, ?_, ?_⟩
  · rw [atP_is zs k hk]; exact h0
  · rw [atP_is zs k hk]; exact h1

/-- A quotient, rounded up. -/
def upL (n d : Int) : Int := (n + d - 1) / d

/-- The load of a chart at a radius that it reaches. -/
def loadL (zs : List (Int × Int)) (r : Int) : Int :=
  if findL zs r = 0 then (atP zs 0).2 else
    (atP zs (findL zs r - 1)).2 - upL (((atP zs (findL zs r - 1)).2 - (atP zs (findL zs r)).2) * (r - (atP zs (findL zs r - 1)).1)) ((atP zs (findL zs r)).1 - (atP zs (findL zs r - 1)).1)

theorem mul_bd (a b p q : Int) (h1 : 0 ≤ a ∧ a ≤ p) (h2 : 0 ≤ b ∧ b ≤ q) : 0 ≤ a * b ∧ a * b ≤ p * q :=
  ⟨Int.mul_nonneg h1.1 h2.1, Int.mul_le_mul h1.2 h2.2 h2.1 (by omega)⟩

theorem specUp_any (n d : Int) (h1 : 0 ≤ n ∧ n ≤ 1000000000) (h2 : 1 ≤ d ∧ d ≤ 1000000) (w : World) :
    Calls Tryz.prog 122 #[.int .i64 n, .int .i64 d] w fun e w' => e = .returned (.int .i64 (upL n d)) ∧ w = w' := by
  have e : (n + d - 1).tdiv d = upL n d := by rw [upL, Int.tdiv_eq_ediv_of_nonneg (by omega)]
  have hd : (d == 0) = false := by simp; omega
  have hd2 : ¬ d = 0 := by omega
  have hd3 : ¬ d = -1 := by omega
  have hb : 0 ≤ upL n d ∧ upL n d ≤ 2000000000 := by
    rw [upL]
    refine ⟨Int.ediv_nonneg (by omega) (by omega), ?_⟩
    have := Int.ediv_le_self (a := n + d - 1) d (by omega)
    omega
  generalize upL n d = q at *
  go_enter Tryz.func122, Tryz.ntmps122
  go_wp2
  go_ret
  exact ⟨by first | rfl | rw [e], rfl⟩

theorem implUp_any (n d : Int) (h1 : 0 ≤ n ∧ n ≤ 1000000000) (h2 : 1 ≤ d ∧ d ≤ 1000000) (w : World) :
    Calls Tryz.prog 119 #[.int .i64 n, .int .i64 d] w fun e w' => e = .returned (.int .i64 (upL n d)) ∧ w = w' := by
  have e : (n + d - 1).tdiv d = upL n d := by rw [upL, Int.tdiv_eq_ediv_of_nonneg (by omega)]
  have hd : (d == 0) = false := by simp; omega
  have hd2 : ¬ d = 0 := by omega
  have hd3 : ¬ d = -1 := by omega
  have hb : 0 ≤ upL n d ∧ upL n d ≤ 2000000000 := by
    rw [upL]
    refine ⟨Int.ediv_nonneg (by omega) (by omega), ?_⟩
    have := Int.ediv_le_self (a := n + d - 1) d (by omega)
    omega
  generalize upL n d = q at *
  go_enter Tryz.func119, Tryz.ntmps119
  go_wp2
  go_ret
  exact ⟨by first | rfl | rw [e], rfl⟩

theorem upL_le (m d r : Int) (hm : 0 ≤ m) (hd : 1 ≤ d) (h : r ≤ m * d) (h0 : 0 ≤ r) : 0 ≤ upL r d ∧ upL r d ≤ m := by
  rw [upL]
  refine ⟨Int.ediv_nonneg (by omega) (by omega), ?_⟩
  have : (r + d - 1) / d < m + 1 := Int.ediv_lt_of_lt_mul (by omega) (by rw [Int.add_mul]; omega)
  omega

/-- What is known of the two steps between which a radius lies. -/
def Betw (x0 y0 x1 y1 r : Int) : Prop := (0 ≤ y1 ∧ y1 ≤ y0 ∧ y0 ≤ 50000) ∧ (1 ≤ x0 ∧ x0 < r ∧ r ≤ x1 ∧ x1 ≤ 1000)

theorem betw_of {zs : List (Int × Int)} {r : Int} (h : ChartP zs) (hf : findL zs r < zs.length) (h0 : findL zs r ≠ 0) :
    Betw (atP zs (findL zs r - 1)).1 (atP zs (findL zs r - 1)).2 (atP zs (findL zs r)).1 (atP zs (findL zs r)).2 r := by
  have h1 := findL_at zs r hf
  have h2 := findL_before zs r (findL zs r - 1) (by omega) (by omega)
  have h3 := h.1 (findL zs r) hf hf
  have h4 := h.1 (findL zs r - 1) (by omega) (by omega)
  have h5 := h3.2 (by omega)
  rw [atP_is zs _ hf, atP_is zs (findL zs r - 1) (by omega)]
  have h6 := h3.1
  have h7 := h4.1
  simp only [Betw]
  omega

theorem betw_bd {x0 y0 x1 y1 r : Int} (h : Betw x0 y0 x1 y1 r) :
    (0 ≤ (y0 - y1) * (r - x0) ∧ (y0 - y1) * (r - x0) ≤ 50000000) ∧ 0 ≤ upL ((y0 - y1) * (r - x0)) (x1 - x0) ∧ upL ((y0 - y1) * (r - x0)) (x1 - x0) ≤ y0 - y1 := by
  simp only [Betw] at h
  have m := mul_bd (y0 - y1) (r - x0) 50000 1000 (by omega) (by omega)
  refine ⟨by omega, upL_le (y0 - y1) (x1 - x0) _ (by omega) (by omega) ?_ m.1⟩
  exact Int.mul_le_mul_of_nonneg_left (by omega) (by omega)

theorem specLoad_any (v : Value) (zs : List (Int × Int)) (r : Int) (w : World) (h : RdP w v zs) (hc : ChartP zs) :
    Calls Tryz.prog 115 #[v, .int .i64 r] w fun e w' => e = .returned (.int .i64 (if findL zs r < zs.length then loadL zs r else -1)) ∧ Below w.heap.size w w' := by
  obtain ⟨A, c, rfl, hl, _⟩ := RdP_slice h
  have H := Lib.hid h
  have hlen := hc.2
  have Hf := specFind_any _ zs r w h
  by_cases hf : findL zs r < zs.length
  · rw [if_pos hf] at Hf ⊢
    by_cases h0 : findL zs r = 0
    · have hE : loadL zs r = (atP zs 0).2 := by rw [loadL, if_pos h0]
      rw [hE]
      obtain ⟨_, b, off, rfl, hbl, hc0, hc1⟩ := rd_at h 0 (by omega)
      rw [h0] at Hf
      have Hf := Lib.hid Hf; clear h hc hE h0 hf
      simp only [Nat.zero_mul, Nat.add_zero] at hc0 hc1
      go_enter Tryz.func115, Tryz.ntmps115
      go_wp2_with fail
      refine Hf.out.mono ?_
      rintro e w2 ⟨rfl, rfl⟩
      go_wp2
      go_ret
      exact ⟨rfl, Below.refl _ _⟩
    · have hbt := betw_of hc hf h0
      have hE : loadL zs r = (atP zs (findL zs r - 1)).2 - upL (((atP zs (findL zs r - 1)).2 - (atP zs (findL zs r)).2) * (r - (atP zs (findL zs r - 1)).1)) ((atP zs (findL zs r)).1 - (atP zs (findL zs r - 1)).1) := by rw [loadL, if_neg h0]
      rw [hE]
      obtain ⟨_, b, off, rfl, hbl, hc0, hc1⟩ := rd_at h (findL zs r) hf
      obtain ⟨_, b', off', e', _, hd0, hd1⟩ := rd_at h (findL zs r - 1) (by omega)
      simp only [Option.some.injEq, Addr.mk.injEq, and_true] at e'
      obtain ⟨rfl, rfl⟩ := e'
      generalize hk : findL zs r = k at *
      have hkm : (k : Int) - 1 = ((k - 1 : Nat) : Int) := by omega
      have hk1 : k - 1 < zs.length := by omega
      have hkp : decide ((k : Int) ≤ 0) = false := by simp; omega
      have hkp2 : ¬ (k : Int) ≤ 0 := by omega
      generalize k - 1 = m at *
      have Hf := Lib.hid Hf; clear h hc hE hk
      generalize (atP zs k).1 = x1 at *
      generalize (atP zs k).2 = y1 at *
      generalize (atP zs m).1 = x0 at *
      generalize (atP zs m).2 = y0 at *
      have hbd := betw_bd hbt
      simp only [Betw] at hbt
      have hw1 : IntKind.i64.wrap (y0 - y1) = y0 - y1 := IntWalk.i64_in _ (by omega)
      have hw2 : IntKind.i64.wrap (r - x0) = r - x0 := IntWalk.i64_in _ (by omega)
      have hw3 : IntKind.i64.wrap (x1 - x0) = x1 - x0 := IntWalk.i64_in _ (by omega)
      have hw4 : IntKind.i64.wrap ((y0 - y1) * (r - x0)) = (y0 - y1) * (r - x0) := IntWalk.i64_in _ (by omega)
      have hw5 : IntKind.i64.wrap (y0 - upL ((y0 - y1) * (r - x0)) (x1 - x0)) = y0 - upL ((y0 - y1) * (r - x0)) (x1 - x0) := IntWalk.i64_in _ (by omega)
      go_enter Tryz.func115, Tryz.ntmps115
      go_wp2_with fail
      refine Hf.out.mono ?_
      rintro e w2 ⟨rfl, rfl⟩
      go_wp2_with fail
      go_quiet ((go_at_call 122; exact Calls.quiet_of_same ((specUp_any _ _ (by omega) (by omega) _).mono fun e w' h => ⟨h.1, h.2.symm⟩)))
      go_wp2
      go_ret
      exact ⟨rfl, kept_drewN (Below.refl _ _) _⟩
  · rw [if_neg hf] at Hf ⊢
    have Hf := Lib.hid Hf; clear h hc hf
    go_enter Tryz.func115, Tryz.ntmps115
    go_wp2_with fail
    refine Hf.out.mono ?_
    rintro e w2 ⟨rfl, rfl⟩
    go_wp2
    go_ret
    exact ⟨rfl, Below.refl _ _⟩

theorem implLoadIn_any (v : Value) (zs : List (Int × Int)) (r : Int) (w : World) (h : RdP w v zs) (hc : ChartP zs) (hf : findL zs r < zs.length) :
    Calls Tryz.prog 112 #[v, .int .i64 r] w fun e w' => e = .returned (.int .i64 (loadL zs r)) ∧ Below w.heap.size w w' := by
  obtain ⟨A, c, rfl, hl, _⟩ := RdP_slice h
  have H := Lib.hid h
  have hlen := hc.2
  have Hf := fun (w : World) (h : RdP w (.slice A zs.length c) zs) => stepFor_any _ zs r w h (ChartP_incr hc) (by omega)
  by_cases h0 : findL zs r = 0
  · have hE : loadL zs r = (atP zs 0).2 := by rw [loadL, if_pos h0]
    rw [hE]
    rw [h0] at Hf
    have Hf := Lib.hid Hf; clear h hc hE h0 hf
    go_enter Tryz.func112, Tryz.ntmps112
    go_wp2_with fail
    refine (Hf.out _ H.out).mono ?_
    rintro e w1 ⟨rfl, hb⟩
    have h1 := RdP_kept H.out hb
    obtain ⟨_, b, off, rfl, hbl, hc0, hc1⟩ := rd_at h1 0 (by omega)
    have H1 := Lib.hid h1; clear h1
    simp only [Nat.zero_mul, Nat.add_zero] at hc0 hc1
    go_wp2
    go_ret
    exact ⟨rfl, hb⟩
  · have hbt := betw_of hc hf h0
    have hE : loadL zs r = (atP zs (findL zs r - 1)).2 - upL (((atP zs (findL zs r - 1)).2 - (atP zs (findL zs r)).2) * (r - (atP zs (findL zs r - 1)).1)) ((atP zs (findL zs r)).1 - (atP zs (findL zs r - 1)).1) := by rw [loadL, if_neg h0]
    rw [hE]
    generalize hk : findL zs r = k at *
    have hk0 : ((k : Int) == 0) = false := by simp; omega
    have hkm : (k : Int) - 1 = ((k - 1 : Nat) : Int) := by omega
    have hk1 : k - 1 < zs.length := by omega
    generalize k - 1 = m at *
    have Hf := Lib.hid Hf; clear h hc hE hk
    generalize hx1 : (atP zs k).1 = x1 at *
    generalize hy1 : (atP zs k).2 = y1 at *
    generalize hx0 : (atP zs m).1 = x0 at *
    generalize hy0 : (atP zs m).2 = y0 at *
    have Hx1 := Lib.hid hx1; clear hx1
    have Hy1 := Lib.hid hy1; clear hy1
    have Hx0 := Lib.hid hx0; clear hx0
    have Hy0 := Lib.hid hy0; clear hy0
    go_enter Tryz.func112, Tryz.ntmps112
    go_wp2_with fail
    refine (Hf.out _ H.out).mono ?_
    rintro e w1 ⟨rfl, hb⟩
    have h1 := RdP_kept H.out hb
    obtain ⟨_, b, off, rfl, hbl, hc0, hc1⟩ := rd_at h1 k hf
    obtain ⟨_, b', off', e', _, hd0, hd1⟩ := rd_at h1 m hk1
    simp only [Option.some.injEq, Addr.mk.injEq, and_true] at e'
    obtain ⟨rfl, rfl⟩ := e'
    have H1 := Lib.hid h1; clear h1
    rw [Hx1.out] at hc0
    rw [Hy1.out] at hc1
    rw [Hx0.out] at hd0
    rw [Hy0.out] at hd1
    have hbd := betw_bd hbt
    simp only [Betw] at hbt
    have hU := Lib.hid (fun w => implUp_any ((y0 - y1) * (r - x0)) (x1 - x0) (by omega) (by omega) w)
    have hw1 : IntKind.i64.wrap (y0 - y1) = y0 - y1 := IntWalk.i64_in _ (by omega)
    have hw2 : IntKind.i64.wrap (r - x0) = r - x0 := IntWalk.i64_in _ (by omega)
    have hw3 : IntKind.i64.wrap (x1 - x0) = x1 - x0 := IntWalk.i64_in _ (by omega)
    have hw4 : IntKind.i64.wrap ((y0 - y1) * (r - x0)) = (y0 - y1) * (r - x0) := IntWalk.i64_in _ (by omega)
    have hw5 : IntKind.i64.wrap (y0 - upL ((y0 - y1) * (r - x0)) (x1 - x0)) = y0 - upL ((y0 - y1) * (r - x0)) (x1 - x0) := IntWalk.i64_in _ (by omega)
    go_wp2_with fail
    go_region
    all_goals
      go_wp2_with fail
      go_quiet ((go_at_call 119; exact (hU.out _).mono fun e w' h => ⟨h.1, _, h.2.symm⟩))
      go_wp2
      go_ret
      exact ⟨rfl, kept_drewN (kept_trans (a := w) hb (by go_grown)) _⟩

theorem loadL_bd {zs : List (Int × Int)} {r : Int} (h : ChartP zs) (hf : findL zs r < zs.length) : 0 ≤ loadL zs r ∧ loadL zs r ≤ 50000 := by
  by_cases h0 : findL zs r = 0
  · rw [loadL, if_pos h0]
    have h1 := (h.1 0 (by omega) (by omega)).1
    rw [atP_is zs 0 (by omega)]
    omega
  · have hb := betw_of h hf h0
    have hu := betw_bd hb
    rw [loadL, if_neg h0]
    simp only [Betw] at hb
    omega

/-- The last radius. -/
def lastL (zs : List (Int × Int)) : Int := (atP zs (zs.length - 1)).1

theorem find_last {zs : List (Int × Int)} (h : ChartP zs) (r : Int) : findL zs r < zs.length ↔ r ≤ lastL zs := by
  have hi := ChartP_incr h
  have hn := h.2
  have hle := findL_le zs r
  rw [lastL, atP_is zs _ (by omega)]
  constructor
  · intro hf
    have h1 := findL_at zs r hf
    have h2 := hi (findL zs r) (zs.length - 1) hf (by omega) (by omega)
    omega
  · intro hr
    rcases Nat.lt_or_ge (findL zs r) zs.length with h1 | h1
    · exact h1
    · have := findL_before zs r (zs.length - 1) (by omega) (by omega)
      omega

theorem last_any (v : Value) (zs : List (Int × Int)) (w : World) (h : RdP w v zs) (hn : 1 ≤ zs.length) :
    Calls Tryz.prog 90 #[v] w fun e w' => e = .returned (.int .i64 (lastL zs)) ∧ w = w' := by
  obtain ⟨A, c, rfl, hl, _⟩ := RdP_slice h
  obtain ⟨_, b, off, rfl, hbl, hc0, hc1⟩ := rd_at h (zs.length - 1) (by omega)
  unfold lastL
  have hkm : (zs.length : Int) - 1 = ((zs.length - 1 : Nat) : Int) := by omega
  have hk1 : zs.length - 1 < zs.length := by omega
  clear h
  generalize zs.length - 1 = m at *
  generalize (atP zs m).1 = x at *
  go_enter Tryz.func90, Tryz.ntmps90
  go_wp2
  go_ret
  exact ⟨rfl, rfl⟩

theorem specLast_any (v : Value) (zs : List (Int × Int)) (w : World) (h : RdP w v zs) (hn : 1 ≤ zs.length) :
    Calls Tryz.prog 82 #[v] w fun e w' => e = .returned (.int .i64 (lastL zs)) ∧ w = w' := by
  obtain ⟨A, c, rfl, hl, _⟩ := RdP_slice h
  obtain ⟨_, b, off, rfl, hbl, hc0, hc1⟩ := rd_at h (zs.length - 1) (by omega)
  unfold lastL
  have hkm : (zs.length : Int) - 1 = ((zs.length - 1 : Nat) : Int) := by omega
  have hk1 : zs.length - 1 < zs.length := by omega
  clear h
  generalize zs.length - 1 = m at *
  generalize (atP zs m).1 = x at *
  go_enter Tryz.func82, Tryz.ntmps82
  go_wp2
  go_ret
  exact ⟨rfl, rfl⟩

/-- The digits of a number, none of 0. -/
def dd (u : Nat) : List UInt8 := if u = 0 then [] else Lib.decDigits u

theorem dd_step (u : Nat) (h : u ≠ 0) : dd u = dd (u / 10) ++ [UInt8.ofNat (48 + u % 10)] := by
  unfold dd
  rw [if_neg h, Lib.decDigits]
  by_cases h1 : u < 10
  · rw [dif_pos h1, if_pos (by omega), Nat.mod_eq_of_lt h1]
    rfl
  · rw [dif_neg h1, if_neg (by omega)]

theorem dd_len (m : Nat) (h : m ≤ 9223372036854775808) : (dd m).length ≤ 20 := by
  unfold dd
  split
  · simp
  · rw [Lib.decDigits_length]
    exact Lib.nDigits_le20 m (by omega)

/-- The variable holds an error. -/
def ErrVar (w : World) (g : Nat) : Prop := g < w.heap.size ∧ ∃ te pe, w.cell? ⟨g, 0, none⟩ = some (.iface te pe)

theorem ErrVar_kept {W w1 : World} {g : Nat} (h : ErrVar W g) (hb : Below W.heap.size W w1) : ErrVar w1 g := by
  obtain ⟨hg, te, pe, hc⟩ := h
  exact ⟨Nat.lt_of_lt_of_le hg hb.size, te, pe, by rw [kept_cell hb g 0 hg]; exact hc⟩

theorem errVar_of {P : Program} {W : World} {name s : String} {d : DataW Unit} {g t : Nat} {ms : Array (String × TypeId)} (hg : P.globalNamed name = some g) (hty : (P.globals[g]?).map (·.type) = some t) (ht : P.underlying t = some (.interface ms)) (hct : P.cellsOf t = 1)
    (h : Lib.VarReads P W name (.iface s d)) : ErrVar W g := by
  obtain ⟨g', t', cs, fuel, p, hg', ht', hvar, hd⟩ := h
  obtain rfl := Option.some.inj (hg.symm.trans hg')
  obtain rfl := Option.some.inj (hty.symm.trans ht')
  have hlt : g < W.heap.size := by
    simp only [World.var?, hg, Option.bind_some] at hvar
    rcases Nat.lt_or_ge g W.heap.size with hlt | hge
    · exact hlt
    · rw [Array.getElem?_eq_none hge] at hvar; simp at hvar
  refine ⟨hlt, ?_⟩
  have hcell := World.var?_cell hg hvar 0
  cases fuel with
  | zero => simp [DataW.trod] at hd
  | succ fuel =>
    cases hl : cs.toList with
    | nil => simp [DataW.trod, ht, hl] at hd
    | cons v r =>
      cases r with
      | cons _ _ => simp [DataW.trod, ht, hl] at hd
      | nil =>
        cases v <;> simp [DataW.trod, ht, hl] at hd
        next te pe =>
          refine ⟨te, pe, ?_⟩
          rw [hcell, ← Array.getElem?_toList, hl]
          rfl

theorem str_ne {a b : ByteArray} (h : ¬ a = b) : (a.toList == b.toList) = false := by
  rw [ByteArray.toList_eq, ByteArray.toList_eq, beq_eq_false_iff_ne]
  intro he
  apply h
  cases a
  cases b
  simpa [Array.toList_inj] using he

/-- The text of a mark. -/
def markT (k : Nat) : ByteArray := ⟨(109 :: dd k).toArray⟩

theorem cons_str (c : UInt8) (bs : List UInt8) : ByteArray.mk #[c] ++ ByteArray.mk bs.toArray = ByteArray.mk (c :: bs).toArray := by
  rw [show ByteArray.mk #[c] = ByteArray.mk [c].toArray from rfl, ByteArray.mk_append_mk]
  rfl

set_option maxRecDepth 100000 in
theorem markText_any (m : Nat) (h1 : 1 ≤ m) (h2 : m ≤ 1000000000) (w : World) :
    Calls Tryz.prog 53 #[.int .i64 (m : Int)] w fun e w' => e = .returned (.string (markT m)) ∧ Below w.heap.size w w' := by
  have hdl := dd_len m (by omega)
  unfold markT
  go_enter Tryz.func53, Tryz.ntmps53
  go_wp2_with fail
  go_loopw [0, 3] (fun k o wr => ∃ (u : Nat) (bs : List UInt8), u ≤ m ∧ k = .int .i64 (u : Int) ∧ o = .string ⟨bs.toArray⟩ ∧ dd m = dd u ++ bs ∧ Below w.heap.size w wr) (fun k _ _ => (intOf k).toNat)
  case atStart => exact ⟨m, [], Nat.le_refl _, rfl, rfl, by simp, Below.refl _ _⟩
  case round =>
    obtain ⟨u, bs, hu, rfl, rfl, hdd, hb⟩ := hrel
    by_cases h0 : u = 0
    · subst h0
      have hbs : dd m = bs := by simpa [dd] using hdd
      have hbl : bs.length ≤ 20 := by rw [← hbs]; exact hdl
      have HB := Lib.hid hbs; clear hbs hdd
      go_wp2
      go_ret
      exact ⟨by rw [HB.out]; rfl, hb⟩
    · have hst := dd_step u h0
      rw [hst, List.append_assoc] at hdd
      have hlen : bs.length ≤ 20 := by
        have := congrArg List.length hdd
        simp at this
        omega
      have hmod : (u : Int).tmod 10 = ((u % 10 : Nat) : Int) := by rw [Int.tmod_eq_emod_of_nonneg (by omega)]; omega
      have hdiv : (u : Int).tdiv 10 = ((u / 10 : Nat) : Int) := by rw [Int.tdiv_eq_ediv_of_nonneg (by omega)]; omega
      have hd10 : u % 10 < 10 := Nat.mod_lt _ (by omega)
      have hbyte : ((UInt8.ofNat (48 + u % 10)).toNat : Int) = (48 : Int) + ((u % 10 : Nat) : Int) := by
        rw [UInt8.toNat_ofNat_of_lt' (by have : UInt8.size = 256 := rfl; omega)]
        push_cast
        rfl
      have hsz := hb.size
      have hlt10 : u / 10 < u := Nat.div_lt_self (by omega) (by omega)
      have HD := Lib.hid hdd; clear hdd hst
      generalize UInt8.ofNat (48 + u % 10) = c at *
      generalize u / 10 = q at *
      generalize u % 10 = d at *
      have hw8 : IntKind.u8.wrap ((48 : Int) + (d : Int)) = 48 + (d : Int) := IntWalk.u8_in _ (by omega)
      have hcv := run_convert_bytes_back (P := Tryz.prog) (wr.alloc (.cells #[.int .u8 ((48 : Int) + (d : Int))] 5)) 118 9 5 ⟨wr.heap.size, 0, none⟩ 1 [c] Tryz.underlying118 Tryz.underlying5 Tryz.underlying9 (fun j hj => by
        have : j = 0 := by simp at hj; omega
        subst this
        simp [Addr.add, hbyte])
      simp only [List.length_cons, List.length_nil] at hcv
      go_wp2
      go_roundw
      case rel => exact ⟨q, c :: bs, by omega, by go_num, by rw [cons_str], by simpa using HD.out, by go_grown⟩
      case measure => simp [intOf]; omega

/-- A crane's fields. -/
structure Cr where
  nm : ByteArray
  x : Int
  y : Int
  h : Int
  j : Int
  b : Int
  ch : List (Int × Int)

/-- A crane, cell by cell; c: its chart's slice. -/
def encK (p : Cr × Value) : List Value := [.string p.1.nm, .int .i64 p.1.x, .int .i64 p.1.y, .int .i64 p.1.h, .int .i64 p.1.j, .int .i64 p.1.b, p.2]

def wfK (k : Cr) : Prop := k.nm.size ≤ maxLen ∧ (Lit.int .i64 k.x).wf = true ∧ (Lit.int .i64 k.y).wf = true ∧ (Lit.int .i64 k.h).wf = true ∧ (Lit.int .i64 k.j).wf = true ∧ (Lit.int .i64 k.b).wf = true

def flatK (ks : List (Cr × Value)) : List Value := ks.flatMap encK

theorem flatK_len (ks : List (Cr × Value)) : (flatK ks).length = ks.length * 7 := flat_len (enc := encK) (fun _ => rfl) ks

theorem flatK_at (ks : List (Cr × Value)) (k j : Nat) (h : k < ks.length) (hj : j < 7) : (flatK ks)[k * 7 + j]? = (encK ks[k])[j]? := flat_at (enc := encK) (sz := 7) (fun _ => rfl) ks k j h hj

/-- The slice value reads as a list of cranes: their fields and their charts' slices. -/
def RdK (w : World) (v : Value) (ks : List (Cr × Value)) : Prop := RdF w v ks.length 7 (flatK ks) ∧ ∀ p ∈ ks, RdP w p.2 p.1.ch

theorem RdK_kept {W w1 : World} {v : Value} {ks : List (Cr × Value)} (h : RdK W v ks) (hb : Below W.heap.size W w1) : RdK w1 v ks := ⟨RdF_kept h.1 hb, fun p hp => RdP_kept (h.2 p hp) hb⟩

/-- A crane lies at a place. -/
def CrAt (w : World) (b o : Nat) (k : Cr) (c : Value) : Prop :=
  b < w.heap.size ∧ (w.cell? ⟨b, o, none⟩ = some (.string k.nm) ∧ w.cell? ⟨b, o + 1, none⟩ = some (.int .i64 k.x) ∧ w.cell? ⟨b, o + 2, none⟩ = some (.int .i64 k.y) ∧ w.cell? ⟨b, o + 3, none⟩ = some (.int .i64 k.h) ∧ w.cell? ⟨b, o + 4, none⟩ = some (.int .i64 k.j) ∧ w.cell? ⟨b, o + 5, none⟩ = some (.int .i64 k.b) ∧ w.cell? ⟨b, o + 6, none⟩ = some c) ∧ RdP w c k.ch

theorem CrAt_kept {W w1 : World} {b o : Nat} {k : Cr} {c : Value} (h : CrAt W b o k c) (hb : Below W.heap.size W w1) : CrAt w1 b o k c := by
  obtain ⟨hlt, ⟨h0, h1, h2, h3, h4, h5, h6⟩, hr⟩ := h
  refine ⟨Nat.lt_of_lt_of_le hlt hb.size, ⟨?_, ?_, ?_, ?_, ?_, ?_, ?_⟩, RdP_kept hr hb⟩ <;> (rw [kept_cell hb b _ hlt]; assumption)

theorem RdK_at {w : World} {v : Value} {ks : List (Cr × Value)} (h : RdK w v ks) : ∃ A c, v = .slice A ks.length c ∧ ks.length ≤ 9223372036854775807 ∧
    ∀ i, (hi : i < ks.length) → ∃ b off, A = some ⟨b, off, none⟩ ∧ CrAt w b (off + i * 7) ks[i].1 ks[i].2 := by
  obtain ⟨⟨hl, hx, A, c, rfl, hr⟩, hcs⟩ := h
  refine ⟨A, c, rfl, hl, fun i hi => ?_⟩
  obtain ⟨b, off, rfl, hlt, h0⟩ := hr (i * 7) (by omega)
  have at_ : ∀ j, j < 7 → w.cell? ⟨b, off + (i * 7 + j), none⟩ = (encK ks[i])[j]? := by
    intro j hj
    obtain ⟨b', off', e, _, h1⟩ := hr (i * 7 + j) (by omega)
    simp only [Option.some.injEq, Addr.mk.injEq, and_true] at e
    obtain ⟨rfl, rfl⟩ := e
    rw [h1, flatK_at ks i j hi hj]
  refine ⟨b, off, rfl, hlt, ⟨?_, ?_, ?_, ?_, ?_, ?_, ?_⟩, hcs _ (List.getElem_mem hi)⟩
  · exact at_ 0 (by omega)
  · exact at_ 1 (by omega)
  · exact at_ 2 (by omega)
  · exact at_ 3 (by omega)
  · exact at_ 4 (by omega)
  · exact at_ 5 (by omega)
  · exact at_ 6 (by omega)

/-- Cells that read as a slice of structs of two numbers. -/
theorem open_pairsC {H : Type} {enc : TypeId × Value → H} {P : Program} {W : World} {t e : TypeId} {f0 f1 : Field} {base fuel : Nat} {sp : Nat → Bool} {held : Bool} {cs : List Value} {z : DataW H × List MemPlace}
    (ht : P.underlying t = some (.slice e)) (he : P.underlying e = some (.struct #[f0, f1])) (i0 : P.underlying f0.type = some (.int .i64)) (i1 : P.underlying f1.type = some (.int .i64))
    (ce : P.cellsOf e = 2) (o0 : f0.offset = 0) (o1 : f1.offset = 1) (c0 : P.cellsOf f0.type = 1) (c1 : P.cellsOf f1.type = 1)
    (h : DataW.trod enc P W base sp held fuel t cs = some z) :
    ∃ (v : Value) (zs : List (Int × Int)), cs = [v] ∧ RdP W v zs := by
  rcases Deep.open_slice_pairs ht he ce o0 o1 c0 c1 h with ⟨hcs, hx⟩ | ⟨a, len, cap, m, n, V0, V1, D0, D1, P0, P1, hcs, _, hl, hm, hmm, hx, hi⟩
  · exact ⟨_, [], hcs, ⟨by simp, rfl, none, 0, rfl, fun i hi => by simp at hi⟩⟩
  · have hlm : len ≤ m := by rw [hmm]; split <;> omega
    have each : ∀ i, i < len → ∃ q : Int × Int, V0 i = .int .i64 q.1 ∧ V1 i = .int .i64 q.2 := by
      intro i hlt
      obtain ⟨_, _, g0, g1⟩ := hi i (by omega)
      obtain ⟨x, e0, _, w0⟩ := DataW.trod_int i0 g0
      obtain ⟨y, e1, _, w1⟩ := DataW.trod_int i1 g1
      simp at e0 e1
      exact ⟨(x, y), e0, e1⟩
    obtain ⟨q, hq⟩ := Deep.choose_lt each
    obtain ⟨b, off, spot⟩ := a
    refine ⟨_, (List.range len).map q, hcs, ⟨by simp; unfold maxLen at hm; omega, by rw [flatP_len], some ⟨b, off, spot⟩, cap, by simp, fun j hj => ?_⟩⟩
    simp only [List.length_map, List.length_range] at hj
    obtain ⟨h0, h1, _, _⟩ := hi (j / 2) (by omega)
    have hspot : spot = none := by simpa [Addr.add] using World.cell?_spot (hi 0 (by omega)).1
    subst hspot
    rw [add_plain] at h0 h1
    have hat := flatP_at ((List.range len).map q) (j / 2) (by simp; omega)
    simp only [List.getElem_map, List.getElem_range] at hat
    rw [← (hq (j / 2) (by omega)).1, ← (hq (j / 2) (by omega)).2] at hat
    refine ⟨b, off, rfl, World.block_lt_of_cell? _ _ h0, ?_⟩
    rcases Nat.mod_two_eq_zero_or_one j with hp | hp
    · have e : j / 2 * 2 = j := by omega
      rw [e] at hat h0
      rw [hat.1, ← h0]
    · have e : j / 2 * 2 + 1 = j := by omega
      rw [e] at hat h1
      rw [hat.2, ← h1]

set_option maxRecDepth 100000 in
/-- Cells that read as a crane. -/
theorem open_craneC {H : Type} {enc : TypeId × Value → H} {W : World} {base fuel : Nat} {sp : Nat → Bool} {held : Bool} {cs : List Value} {z : DataW H × List MemPlace}
    (h : DataW.trod enc Tryz.prog W base sp held fuel 98 cs = some z) : ∃ (k : Cr) (c : Value), cs = encK (k, c) ∧ RdP W c k.ch ∧ wfK k := by
  obtain ⟨xs, n, _, _, hl, hlen, hf⟩ := DataW.trod_struct Tryz.underlying98 h
  have hl7 : cs.length = 7 := hl.trans (by kernel_rfl)
  have h0 : DataW.trod enc Tryz.prog W base sp held n 9 ((cs.drop 0).take (Tryz.prog.cellsOf 9)) = xs[0]? := hf 0 _ rfl
  have h1 : DataW.trod enc Tryz.prog W base sp held n 26 ((cs.drop 1).take (Tryz.prog.cellsOf 26)) = xs[1]? := hf 1 _ rfl
  have h2 : DataW.trod enc Tryz.prog W base sp held n 2 ((cs.drop 3).take (Tryz.prog.cellsOf 2)) = xs[2]? := hf 2 _ rfl
  have h3 : DataW.trod enc Tryz.prog W base sp held n 2 ((cs.drop 4).take (Tryz.prog.cellsOf 2)) = xs[3]? := hf 3 _ rfl
  have h4 : DataW.trod enc Tryz.prog W base sp held n 2 ((cs.drop 5).take (Tryz.prog.cellsOf 2)) = xs[4]? := hf 4 _ rfl
  have h5 : DataW.trod enc Tryz.prog W base sp held n 96 ((cs.drop 6).take (Tryz.prog.cellsOf 96)) = xs[5]? := hf 5 _ rfl
  have z0 : Tryz.prog.cellsOf 9 = 1 := by kernel_rfl
  have z1 : Tryz.prog.cellsOf 26 = 2 := by kernel_rfl
  have z2 : Tryz.prog.cellsOf 2 = 1 := by kernel_rfl
  have z3 : Tryz.prog.cellsOf 96 = 1 := by kernel_rfl
  match cs, hl7 with
  | [c0, c1, c2, c3, c4, c5, c6], _ =>
    have i0 : xs[0]? = some (xs[0]'(by rw [hlen]; decide)) := List.getElem?_eq_getElem _
    have i1 : xs[1]? = some (xs[1]'(by rw [hlen]; decide)) := List.getElem?_eq_getElem _
    have i2 : xs[2]? = some (xs[2]'(by rw [hlen]; decide)) := List.getElem?_eq_getElem _
    have i3 : xs[3]? = some (xs[3]'(by rw [hlen]; decide)) := List.getElem?_eq_getElem _
    have i4 : xs[4]? = some (xs[4]'(by rw [hlen]; decide)) := List.getElem?_eq_getElem _
    have i5 : xs[5]? = some (xs[5]'(by rw [hlen]; decide)) := List.getElem?_eq_getElem _
    simp only [i0, i1, i2, i3, i4, i5, z0, z1, z2, z3, List.drop_succ_cons, List.drop_zero, List.take_succ_cons, List.take_zero] at h0 h1 h2 h3 h4 h5
    obtain ⟨s, e0, _, ws⟩ := DataW.trod_string Tryz.underlying9 h0
    obtain ⟨y0, y1, m, _, _, p0', p1'⟩ := trod_struct2 Tryz.underlying26 h1
    have p0 : DataW.trod enc Tryz.prog W base sp held m 2 (([c1, c2].drop 0).take (Tryz.prog.cellsOf 2)) = some y0 := p0'
    have p1 : DataW.trod enc Tryz.prog W base sp held m 2 (([c1, c2].drop 1).take (Tryz.prog.cellsOf 2)) = some y1 := p1'
    simp only [z2, List.drop_succ_cons, List.drop_zero, List.take_succ_cons, List.take_zero] at p0 p1
    obtain ⟨ix, e1, _, w1⟩ := DataW.trod_int Tryz.underlying2 p0
    obtain ⟨iy, e2, _, w2⟩ := DataW.trod_int Tryz.underlying2 p1
    obtain ⟨ih, e3, _, w3⟩ := DataW.trod_int Tryz.underlying2 h2
    obtain ⟨ij, e4, _, w4⟩ := DataW.trod_int Tryz.underlying2 h3
    obtain ⟨ib, e5, _, w5⟩ := DataW.trod_int Tryz.underlying2 h4
    obtain ⟨c, zs, e6, hr⟩ := open_pairsC Tryz.underlying96 Tryz.underlying142 Tryz.underlying2 Tryz.underlying2 (by kernel_rfl) rfl rfl (by kernel_rfl) (by kernel_rfl) h5
    simp only [List.cons.injEq, and_true] at e0 e1 e2 e3 e4 e5 e6
    subst e0 e1 e2 e3 e4 e5 e6
    exact ⟨⟨s, ix, iy, ih, ij, ib, zs⟩, _, rfl, hr, ws, w1, w2, w3, w4, w5⟩

/-- A datum that is a list of n elements. -/
def DataLen {H : Type} (d : DataW H) (n : Nat) : Prop := (d = .nil ∧ n = 0) ∨ ∃ es rs, d = .slice es rs ∧ es.length = n

/-- What is known of an argument's cranes. -/
def wfS (ks : List (Cr × Value)) : Prop := (∀ p ∈ ks, wfK p.1) ∧ ks.length ≤ maxLen

set_option maxRecDepth 100000 in
/-- Cells that read as a slice of cranes. -/
theorem open_cranesC {H : Type} {enc : TypeId × Value → H} {W : World} {base fuel : Nat} {sp : Nat → Bool} {held : Bool} {cs : List Value} {z : DataW H × List MemPlace}
    (h : DataW.trod enc Tryz.prog W base sp held fuel 22 cs = some z) : ∃ (v : Value) (ks : List (Cr × Value)), cs = [v] ∧ RdK W v ks ∧ wfS ks ∧ DataLen z.1 ks.length := by
  rcases Deep.open_slice Tryz.underlying22 h with ⟨hcs, hx⟩ | ⟨a, len, cap, m, n, D, Pl, hcs, _, hl, hm, hmm, hx, hi⟩
  · exact ⟨_, [], hcs, ⟨⟨by simp, rfl, none, 0, rfl, fun i hi => by simp at hi⟩, fun p h => by cases h⟩, ⟨(fun p h => by cases h), by simp⟩, Or.inl ⟨by rw [hx], rfl⟩⟩
  · have hlm : len ≤ m := by rw [hmm]; split <;> omega
    have ce : Tryz.prog.cellsOf 98 = 7 := by kernel_rfl
    have each : ∀ i, i < len → ∃ q : Option (Cr × Value), ∃ p, q = some p ∧ W.cells? base (a.add (i * 7)) 7 = some (encK p) ∧ RdP W p.2 p.1.ch ∧ wfK p.1 := by
      intro i hlt
      obtain ⟨cs', g0, g1⟩ := hi i (by omega)
      obtain ⟨k, c, e, hr, wk⟩ := open_craneC g1
      rw [ce, e] at g0
      exact ⟨some (k, c), (k, c), rfl, g0, hr, wk⟩
    obtain ⟨q, hq⟩ := Deep.choose_lt each
    have each2 : ∀ i, i < len → (q i).isSome = true := fun i hi => by obtain ⟨p, e, _⟩ := hq i hi; rw [e]; rfl
    obtain ⟨b, off, spot⟩ := a
    let ks : List (Cr × Value) := (List.range len).attach.map fun i => (q i.1).get (each2 i.1 (List.mem_range.1 i.2))
    have hkl : ks.length = len := by simp [ks]
    have hks : ∀ i (hi : i < ks.length), ∃ p, ks[i] = p ∧ q i = some p := by
      intro i hi
      refine ⟨ks[i], rfl, ?_⟩
      simp [ks]
    refine ⟨_, ks, hcs, ⟨⟨by rw [hkl]; unfold maxLen at hm; omega, by rw [flatK_len], some ⟨b, off, spot⟩, cap, by rw [hkl], fun j hj => ?_⟩, ?_⟩, ⟨?_, by rw [hkl]; omega⟩, Or.inr ⟨_, _, by rw [hx], by rw [hkl]; simp⟩⟩
    · rw [hkl] at hj
      obtain ⟨p, e, hc, _⟩ := hq (j / 7) (by omega)
      obtain ⟨p', e', e2⟩ := hks (j / 7) (by omega)
      rw [e] at e2
      cases e2
      obtain ⟨_, _, hcell⟩ := World.cells?_some hc
      have hspot : spot = none := by
        obtain ⟨p0, _, hc0, _⟩ := hq 0 (by omega)
        obtain ⟨_, _, hcell0⟩ := World.cells?_some hc0
        have := hcell0 0 (by omega)
        rw [show (encK p0)[0]? = some (.string p0.1.nm) from rfl] at this
        simpa [Addr.add] using World.cell?_spot this
      subst hspot
      have h7 := hcell (j % 7) (by omega)
      rw [add_plain, add_plain, ← e'] at h7
      rw [← flatK_at ks (j / 7) (j % 7) (by omega) (by omega), show j / 7 * 7 + j % 7 = j by omega, Nat.add_assoc, show j / 7 * 7 + j % 7 = j by omega] at h7
      refine ⟨b, off, rfl, ?_, h7⟩
      have hx : (flatK ks)[j]? = some ((flatK ks)[j]'(by rw [flatK_len]; omega)) := List.getElem?_eq_getElem _
      rw [hx] at h7
      exact World.block_lt_of_cell? _ _ h7
    · intro p hp
      obtain ⟨i, hi, rfl⟩ := List.mem_iff_getElem.1 hp
      obtain ⟨p, e, e2⟩ := hks i hi
      obtain ⟨p', e', _, hr, _⟩ := hq i (by omega)
      rw [e'] at e2
      cases e2
      rw [e]
      exact hr
    · intro p hp
      obtain ⟨i, hi, rfl⟩ := List.mem_iff_getElem.1 hp
      obtain ⟨p, e, e2⟩ := hks i hi
      obtain ⟨p', e', _, hr, hw⟩ := hq i (by omega)
      rw [e'] at e2
      cases e2
      rw [e]
      exact hw

set_option maxRecDepth 100000 in
theorem open_site {H : Type} {enc : TypeId × Value → H} {W : World} {base : Nat} {v : Value} {d : DataW H} {p : List MemPlace}
    (hv : Value.okWide Tryz.prog W .any base 24 v) (h : DataW.Trod enc Tryz.prog W 0 (fun _ => true) true 24 v d p) :
    ∃ (c : Value) (ks : List (Cr × Value)), v = .agg #[c] ∧ RdK W c ks ∧ wfS ks ∧ ∃ y, d = .agg [y] ∧ DataLen y ks.length := by
  obtain ⟨cs, rfl, hsz⟩ := okWide_struct Tryz.underlying24 hv
  obtain ⟨fuel, hf⟩ := h
  obtain ⟨y0, n, hx, hl, h0'⟩ := trod_struct1 Tryz.underlying24 (show DataW.trod enc Tryz.prog W 0 (fun _ => true) true fuel 24 cs.toList = some (d, p) from by simpa [Value.cells] using hf)
  have h0 : DataW.trod enc Tryz.prog W 0 (fun _ => true) true n 22 ((cs.toList.drop 0).take (Tryz.prog.cellsOf 22)) = some y0 := h0'
  have hl1 : cs.size = 1 := hsz.trans (by kernel_rfl)
  have z0 : Tryz.prog.cellsOf 22 = 1 := by kernel_rfl
  obtain ⟨c, rfl⟩ : ∃ c, cs = #[c] := by
    rcases cs with ⟨l⟩
    match l, hl1 with
    | [c], _ => exact ⟨c, rfl⟩
  simp only [z0, List.drop_zero, List.take_succ_cons, List.take_zero] at h0
  obtain ⟨v, ks, e, hr, hw, hdl⟩ := open_cranesC h0
  simp at e
  subst e
  exact ⟨_, ks, rfl, hr, hw, y0.1, congrArg Prod.fst hx, hdl⟩

/-- What is left of a measure behind a crane; less than 0: too much. -/
def szK (k : Cr) (left : Int) : Int := if (k.nm.size : Int) + (k.ch.length : Int) ≤ left then left - k.nm.size - k.ch.length else -1

theorem szK_any (k : Cr) (c : Value) (left : Int) (h : 0 ≤ left ∧ left ≤ 1000000) (hs : k.nm.size ≤ maxLen) (w : World) (hr : RdP w c k.ch) :
    Calls Tryz.prog 57 #[.agg #[.string k.nm, .int .i64 k.x, .int .i64 k.y, .int .i64 k.h, .int .i64 k.j, .int .i64 k.b, c], .int .i64 left] w fun e w' => e = .returned (.int .i64 (szK k left)) ∧ Below w.heap.size w w' := by
  obtain ⟨A, cp, rfl, hl, _⟩ := RdP_slice hr
  clear hr
  unfold maxLen at hs
  unfold szK
  obtain ⟨s, x, y, hh, j, b, zs⟩ := k
  dsimp only at *
  by_cases h1 : left < (s.size : Int)
  · rw [if_neg (by omega)]
    go_enter Tryz.func57, Tryz.ntmps57
    go_wp2
    go_ret
    exact ⟨rfl, by go_grown⟩
  · by_cases h2 : (s.size : Int) + (zs.length : Int) ≤ left
    · rw [if_pos h2]
      have e : (if (zs.length : Int) ≤ left - s.size then left - s.size - zs.length else -1) = left - s.size - zs.length := if_pos (by omega)
      go_enter Tryz.func57, Tryz.ntmps57
      go_wp2_with (go_at_call 78; refine ((szC_any _ _ _ _ (by omega) (by omega) _)).mono ?_; rintro e w1 ⟨rfl, rfl⟩)
      go_ret
      exact ⟨rfl, by go_grown⟩
    · rw [if_neg h2]
      go_enter Tryz.func57, Tryz.ntmps57
      go_wp2_with (go_at_call 78; refine ((szC_any _ _ _ _ (by omega) (by omega) _)).mono ?_; rintro e w1 ⟨rfl, rfl⟩)
      go_ret
      exact ⟨rfl, by go_grown⟩

theorem CopyC_set {w : World} {lo hi b o : Nat} {v u : Value} {zs : List (Int × Int)} (h : CopyC w lo hi v zs) (hb : b < lo) : CopyC (w.setCell ⟨b, o, none⟩ u) lo hi v zs := by
  obtain ⟨hl, g, e, hr⟩ := h
  exact ⟨hl, g, e, RowF_far hr (grown_set _ _ _) (fun g hg => by simp at hg; omega)⟩

theorem CopyC_lo {w : World} {lo lo' hi hi' : Nat} {v : Value} {zs : List (Int × Int)} (h : CopyC w lo hi v zs) (hl : lo' ≤ lo) (hh : hi ≤ hi') : CopyC w lo' hi' v zs := by
  obtain ⟨hn, g, e, hr⟩ := h
  exact ⟨hn, g, e, RowF_lo hr hl hh⟩

theorem toK_false (k : Cr) (c : Value) (w : World) (hr : RdP w c k.ch) (hn : k.ch.length ≤ 1000000) :
    Calls Tryz.prog 62 #[.agg #[.string k.nm, .int .i64 k.x, .int .i64 k.y, .int .i64 k.h, .int .i64 k.j, .int .i64 k.b, c], .bool false] w fun e w' => ∃ c', e = .returned (.agg #[.string k.nm, .int .i64 k.x, .int .i64 k.y, .int .i64 k.h, .int .i64 k.j, .int .i64 k.b, c']) ∧ CopyC w' w.heap.size w'.heap.size c' k.ch ∧ Below w.heap.size w w' := by
  obtain ⟨A0, cp0, rfl, _, _⟩ := RdP_slice hr
  have H := Lib.hid hr; clear hr
  obtain ⟨s, x, y, hh, j, b, zs⟩ := k
  dsimp only at *
  go_enter Tryz.func62, Tryz.ntmps62
  go_wp2_with fail
  refine (toPoint_any _ _ _).mono ?_
  rintro e w1 ⟨rfl, b1⟩
  refine kept_at b1 (w.heap.size) (by go_size) fun c1_0 z1_0 s1_0 => ?_
  refine kept_at b1 (w.heap.size + 1) (by go_size) fun c1_1 z1_1 s1_1 => ?_
  refine kept_at b1 (w.heap.size + 2) (by go_size) fun c1_2 z1_2 s1_2 => ?_
  replace b1 := kept_trans (a := w) (by go_grown) b1
  have l1 := kept_cell b1
  have zz1 := b1.size
  go_wp2_with fail
  refine (toC_false _ zs _ (RdP_kept H.out (by go_grown)) hn).mono ?_
  rintro e w2 ⟨c', rfl, hc, hb2⟩
  obtain ⟨A1, cp1, rfl, _, _⟩ := RdP_slice (CopyC_rd hc)
  have HC := Lib.hid hc; clear hc
  refine kept_at hb2 (w.heap.size + 1) (by go_size) fun c2_1 z2_1 s2_1 => ?_
  refine kept_at hb2 (w.heap.size + 2) (by go_size) fun c2_2 z2_2 s2_2 => ?_
  have b2 := kept_trans (a := w) (by go_grown) hb2
  go_wp2
  (try simp only [Exit.inBlock, Exit.then])
  refine bodyPost_ret (v := .agg #[.string s, .int .i64 x, .int .i64 y, .int .i64 hh, .int .i64 j, .int .i64 b, .slice A1 zs.length cp1]) ?_ rfl ⟨_, rfl, ?_, ?_⟩
  · rw [results_cell1 rfl]
    go_simp
  · refine CopyC_lo (lo := w1.heap.size) ?_ (by omega) (show w2.heap.size ≤ _ by simp)
    have := HC.out
    simp only [World.size_setCell] at this
    exact CopyC_set (CopyC_set (CopyC_set (CopyC_set (CopyC_set (CopyC_set (CopyC_set (CopyC_set this (by omega)) (by omega)) (by omega)) (by omega)) (by omega)) (by omega)) (by omega)) (by omega)
  · go_grown

theorem toC_bare (v : Value) (zs : List (Int × Int)) (w : World) (h : RdP w v zs) (hn : zs.length ≤ 1000000) :
    Calls Tryz.prog 85 #[v, .bool true] w fun e w' => ∃ v', e = .returned v' ∧ RowF 130 2 w' w.heap.size w'.heap.size v' zs.length (flatP zs) ∧ Below w.heap.size w w' := by
  by_cases hz : zs = []
  · subst hz
    obtain ⟨A, c, rfl, hl, _⟩ := RdP_slice h
    clear h
    go_enter Tryz.func85, Tryz.ntmps85
    go_wp2
    go_ret
    exact ⟨_, rfl, RowF_nil _ _ _ _ _, Below.refl _ _⟩
  · exact (toC_row v zs true w h hn (Or.inr hz)).mono fun e w' ⟨v', he, hc, hb⟩ => ⟨v', he, CopyC_row hc, hb⟩

theorem toK_true (k : Cr) (c : Value) (w : World) (hr : RdP w c k.ch) (hn : k.ch.length ≤ 1000000) :
    Calls Tryz.prog 62 #[.agg #[.string k.nm, .int .i64 k.x, .int .i64 k.y, .int .i64 k.h, .int .i64 k.j, .int .i64 k.b, c], .bool true] w fun e w' => ∃ c', e = .returned (.agg #[.string k.nm, .int .i64 k.x, .int .i64 k.y, .int .i64 k.h, .int .i64 k.j, .int .i64 k.b, c']) ∧ RowF 130 2 w' w.heap.size w'.heap.size c' k.ch.length (flatP k.ch) ∧ Below w.heap.size w w' := by
  obtain ⟨A0, cp0, rfl, _, _⟩ := RdP_slice hr
  have H := Lib.hid hr; clear hr
  obtain ⟨s, x, y, hh, j, b, zs⟩ := k
  dsimp only at *
  go_enter Tryz.func62, Tryz.ntmps62
  go_wp2_with fail
  refine (toPoint_any _ _ _).mono ?_
  rintro e w1 ⟨rfl, b1⟩
  refine kept_at b1 (w.heap.size) (by go_size) fun c1_0 z1_0 s1_0 => ?_
  refine kept_at b1 (w.heap.size + 1) (by go_size) fun c1_1 z1_1 s1_1 => ?_
  refine kept_at b1 (w.heap.size + 2) (by go_size) fun c1_2 z1_2 s1_2 => ?_
  replace b1 := kept_trans (a := w) (by go_grown) b1
  have l1 := kept_cell b1
  have zz1 := b1.size
  go_wp2_with fail
  refine (toC_bare _ zs _ (RdP_kept H.out (by go_grown)) hn).mono ?_
  rintro e w2 ⟨c', rfl, hc, hb2⟩
  obtain ⟨A1, cp1, rfl, _, _⟩ := RdP_slice (RowF_rd hc)
  have HC := Lib.hid hc; clear hc
  refine kept_at hb2 (w.heap.size + 1) (by go_size) fun c2_1 z2_1 s2_1 => ?_
  refine kept_at hb2 (w.heap.size + 2) (by go_size) fun c2_2 z2_2 s2_2 => ?_
  have b2 := kept_trans (a := w) (by go_grown) hb2
  go_wp2
  (try simp only [Exit.inBlock, Exit.then])
  refine bodyPost_ret (v := .agg #[.string s, .int .i64 x, .int .i64 y, .int .i64 hh, .int .i64 j, .int .i64 b, .slice A1 zs.length cp1]) ?_ rfl ⟨_, rfl, ?_, ?_⟩
  · rw [results_cell1 rfl]
    go_simp
  · refine RowF_lo (lo := w1.heap.size) ?_ (by omega) (show w2.heap.size ≤ _ by simp)
    have := HC.out
    simp only [World.size_setCell] at this
    exact RowF_set (RowF_set (RowF_set (RowF_set (RowF_set (RowF_set (RowF_set (RowF_set this (by omega)) (by omega)) (by omega)) (by omega)) (by omega)) (by omega)) (by omega)) (by omega)
  · go_grown

theorem intactK_same (k : Cr) (c1 c2 : Value) (lo1 hi1 lo2 hi2 : Nat) (w : World) (h1 : CopyC w lo1 hi1 c1 k.ch) (h2 : CopyC w lo2 hi2 c2 k.ch) :
    Calls Tryz.prog 70 #[.agg #[.string k.nm, .int .i64 k.x, .int .i64 k.y, .int .i64 k.h, .int .i64 k.j, .int .i64 k.b, c1], .agg #[.string k.nm, .int .i64 k.x, .int .i64 k.y, .int .i64 k.h, .int .i64 k.j, .int .i64 k.b, c2]] w fun e w' => e = .returned (.bool true) ∧ Below w.heap.size w w' := by
  obtain ⟨A1, cp1, rfl, _, _⟩ := RdP_slice (CopyC_rd h1)
  obtain ⟨A2, cp2, rfl, _, _⟩ := RdP_slice (CopyC_rd h2)
  have H1 := Lib.hid h1; clear h1
  have H2 := Lib.hid h2; clear h2
  obtain ⟨s, x, y, hh, j, b, zs⟩ := k
  dsimp only at *
  go_enter Tryz.func70, Tryz.ntmps70
  go_wp2_with fail
  refine (eqPoint_same _ _ _).mono ?_
  rintro e w1 ⟨rfl, b1⟩
  refine kept_at b1 (w.heap.size) (by go_size) fun c1_0 z1_0 s1_0 => ?_
  refine kept_at b1 (w.heap.size + 1) (by go_size) fun c1_1 z1_1 s1_1 => ?_
  replace b1 := kept_trans (a := w) (by go_grown) b1
  have l1 := kept_cell b1
  have zz1 := b1.size
  go_wp2_with fail
  refine (intactC_same _ _ zs _ _ _ _ _ (CopyC_kept H1.out (by go_grown)) (CopyC_kept H2.out (by go_grown))).mono ?_
  rintro e w2 ⟨rfl, hb2⟩
  have b2 := kept_trans (a := w) (by go_grown) hb2
  go_wp2
  go_ret
  exact ⟨rfl, b2⟩

/-- The crane is valid. -/
noncomputable def craneB (k : Cr) : Bool := nameB k.nm && (okP k.x k.y && (inB k.h 1 2000 && (inB k.j 1 1000 && (inB k.b 0 k.j && (chartB k.ch && decide (lastL k.ch ≤ k.j))))))

theorem specCrane_any (b o : Nat) (k : Cr) (c : Value) (w : World) (h : CrAt w b o k c) (hs : k.nm.size ≤ 1000000) :
    Calls Tryz.prog 58 #[.pointer (some ⟨b, o, none⟩)] w fun e w' => e = .returned (.bool (craneB k)) ∧ Below w.heap.size w w' := by
  obtain ⟨hb, ⟨c0, c1, c2, c3, c4, c5, c6⟩, hr⟩ := h
  obtain ⟨A, cp, rfl, hl, _⟩ := RdP_slice hr
  have H := Lib.hid hr; clear hr
  have HN := Lib.hid (fun u => specIsName_any k.nm u hs)
  have HC := Lib.hid (fun u (q : RdP u (.slice A k.ch.length cp) k.ch) => specChart_quiet _ _ u q)
  have HL := Lib.hid (fun u (q : RdP u (.slice A k.ch.length cp) k.ch) (n : 1 ≤ k.ch.length) => specLast_any _ _ u q n)
  have hlen : chartB k.ch = true → 1 ≤ k.ch.length := fun h => (chartB_iff.1 h).2.1
  unfold craneB
  obtain ⟨s, x, y, hh, j, bb, zs⟩ := k
  dsimp only at *
  generalize nameB s = p1 at *
  generalize chartB zs = p6 at *
  generalize lastL zs = lst at *
  cases p1
  · go_enter Tryz.func58, Tryz.ntmps58
    go_wp2_with (go_at_call 79; refine (HN.out _).mono ?_; rintro e w1 ⟨rfl, rfl⟩)
    go_ret
    exact ⟨rfl, by go_grown⟩
  cases p2 : okP x y
  · go_enter Tryz.func58, Tryz.ntmps58
    go_wp2_with (first | (go_at_call 79; refine (HN.out _).mono ?_; rintro e w1 ⟨rfl, rfl⟩) | (go_at_call 80; refine (specOk_any _ _ _).mono ?_; rintro e w1 ⟨rfl, hb⟩; have hs := hb.size; (try simp at hs); (try (refine kept_at hb (w.heap.size) ?_ (fun hc0 hz0 hs0 => ?_); focus go_size)); (try (refine kept_at hb (w.heap.size + 1) ?_ (fun hc1 hz1 hs1 => ?_); focus go_size)); (try (refine kept_at hb (w.heap.size + 2) ?_ (fun hc2 hz2 hs2 => ?_); focus go_size)); (try (refine kept_at hb (w.heap.size + 3) ?_ (fun hc3 hz3 hs3 => ?_); focus go_size)); (try (refine kept_at hb (w.heap.size + 4) ?_ (fun hc4 hz4 hs4 => ?_); focus go_size)); (try (refine kept_at hb (w.heap.size + 5) ?_ (fun hc5 hz5 hs5 => ?_); focus go_size)); replace hb := kept_trans (a := w) (by go_grown) hb; have hcl := kept_cell hb; have hzl := kept_frozen hb))
    go_ret
    exact ⟨rfl, by go_grown⟩
  cases p3 : inB hh 1 2000
  · go_enter Tryz.func58, Tryz.ntmps58
    go_wp2_with (first | (go_at_call 79; refine (HN.out _).mono ?_; rintro e w1 ⟨rfl, rfl⟩) | (go_at_call 80; refine (specOk_any _ _ _).mono ?_; rintro e w1 ⟨rfl, hb⟩; have hs := hb.size; (try simp at hs); (try (refine kept_at hb (w.heap.size) ?_ (fun hc0 hz0 hs0 => ?_); focus go_size)); (try (refine kept_at hb (w.heap.size + 1) ?_ (fun hc1 hz1 hs1 => ?_); focus go_size)); (try (refine kept_at hb (w.heap.size + 2) ?_ (fun hc2 hz2 hs2 => ?_); focus go_size)); (try (refine kept_at hb (w.heap.size + 3) ?_ (fun hc3 hz3 hs3 => ?_); focus go_size)); (try (refine kept_at hb (w.heap.size + 4) ?_ (fun hc4 hz4 hs4 => ?_); focus go_size)); (try (refine kept_at hb (w.heap.size + 5) ?_ (fun hc5 hz5 hs5 => ?_); focus go_size)); replace hb := kept_trans (a := w) (by go_grown) hb; have hcl := kept_cell hb; have hzl := kept_frozen hb) | (go_at_call 60; refine (in_any _ _ _ _).mono ?_; rintro e w1 ⟨rfl, rfl⟩))
    go_ret
    exact ⟨rfl, by go_grown⟩
  cases p4 : inB j 1 1000
  · go_enter Tryz.func58, Tryz.ntmps58
    go_wp2_with (first | (go_at_call 79; refine (HN.out _).mono ?_; rintro e w1 ⟨rfl, rfl⟩) | (go_at_call 80; refine (specOk_any _ _ _).mono ?_; rintro e w1 ⟨rfl, hb⟩; have hs := hb.size; (try simp at hs); (try (refine kept_at hb (w.heap.size) ?_ (fun hc0 hz0 hs0 => ?_); focus go_size)); (try (refine kept_at hb (w.heap.size + 1) ?_ (fun hc1 hz1 hs1 => ?_); focus go_size)); (try (refine kept_at hb (w.heap.size + 2) ?_ (fun hc2 hz2 hs2 => ?_); focus go_size)); (try (refine kept_at hb (w.heap.size + 3) ?_ (fun hc3 hz3 hs3 => ?_); focus go_size)); (try (refine kept_at hb (w.heap.size + 4) ?_ (fun hc4 hz4 hs4 => ?_); focus go_size)); (try (refine kept_at hb (w.heap.size + 5) ?_ (fun hc5 hz5 hs5 => ?_); focus go_size)); replace hb := kept_trans (a := w) (by go_grown) hb; have hcl := kept_cell hb; have hzl := kept_frozen hb) | (go_at_call 60; refine (in_any _ _ _ _).mono ?_; rintro e w1 ⟨rfl, rfl⟩))
    go_ret
    exact ⟨rfl, by go_grown⟩
  have HK : ∀ u, Below w.heap.size w u → u.cell? ⟨b, o + 4, none⟩ = some (.int .i64 j) ∧ u.cell? ⟨b, o + 5, none⟩ = some (.int .i64 bb) ∧ u.cell? ⟨b, o + 6, none⟩ = some (.slice A zs.length cp) ∧ u.cell? ⟨b, o + 3, none⟩ = some (.int .i64 hh) ∧ RdP u (.slice A zs.length cp) zs :=
    fun u q => ⟨by rw [kept_cell q b _ hb]; exact c4, by rw [kept_cell q b _ hb]; exact c5, by rw [kept_cell q b _ hb]; exact c6, by rw [kept_cell q b _ hb]; exact c3, RdP_kept H.out q⟩
  have HK := Lib.hid HK
  go_enter Tryz.func58, Tryz.ntmps58
  go_wp2_with (go_at_call 79; refine (HN.out _).mono ?_; rintro e w1 ⟨rfl, rfl⟩)
  refine (specOk_any _ _ _).mono ?_
  rw [p2]
  rintro e w1 ⟨rfl, b1⟩
  obtain ⟨d4, d5, d6, d3, dr⟩ := HK.out w1 b1
  go_wp2_with (go_at_call 60; refine (in_any _ _ _ _).mono ?_; rintro e w1 ⟨rfl, rfl⟩)
  have HI := fun u => in_any bb 0 j u
  have HB := Lib.hid b1
  cases p5 : inB bb 0 j <;> rw [p5] at HI <;> have HI := Lib.hid HI
  · go_quiet (first | (go_at_call 60; exact Calls.quiet_of_same ((HI.out _).mono fun e w' h => ⟨h.1, h.2.symm⟩)) | (go_at_call 81; exact Calls.quiet_of (HC.out _ (RdP_kept dr (kept_drewN (Below.refl _ _) _)))) | (go_at_call 82; exact Calls.quiet_of_same ((HL.out _ (RdP_kept dr (kept_drewN (Below.refl _ _) _)) hlen).mono fun e w' h => ⟨h.1, h.2.symm⟩)))
    go_wp2
    go_ret
    exact ⟨by simp [p5], kept_drewN HB.out _⟩
  cases p6
  · go_quiet (first | (go_at_call 60; exact Calls.quiet_of_same ((HI.out _).mono fun e w' h => ⟨h.1, h.2.symm⟩)) | (go_at_call 81; exact Calls.quiet_of (HC.out _ (RdP_kept dr (kept_drewN (Below.refl _ _) _)))) | (go_at_call 82; exact Calls.quiet_of_same ((HL.out _ (RdP_kept dr (kept_drewN (Below.refl _ _) _)) hlen).mono fun e w' h => ⟨h.1, h.2.symm⟩)))
    go_wp2
    go_ret
    exact ⟨by simp [p5], kept_drewN HB.out _⟩
  have hlen := hlen rfl
  by_cases p7 : lst ≤ j
  · go_quiet (first | (go_at_call 60; exact Calls.quiet_of_same ((HI.out _).mono fun e w' h => ⟨h.1, h.2.symm⟩)) | (go_at_call 81; exact Calls.quiet_of (HC.out _ (RdP_kept dr (kept_drewN (Below.refl _ _) _)))) | (go_at_call 82; exact Calls.quiet_of_same ((HL.out _ (RdP_kept dr (kept_drewN (Below.refl _ _) _)) hlen).mono fun e w' h => ⟨h.1, h.2.symm⟩)))
    go_wp2
    go_ret
    exact ⟨by simp [p5, p7], kept_drewN HB.out _⟩
  · have p8 : decide (lst ≤ j) = false := by simp [p7]
    go_quiet (first | (go_at_call 60; exact Calls.quiet_of_same ((HI.out _).mono fun e w' h => ⟨h.1, h.2.symm⟩)) | (go_at_call 81; exact Calls.quiet_of (HC.out _ (RdP_kept dr (kept_drewN (Below.refl _ _) _)))) | (go_at_call 82; exact Calls.quiet_of_same ((HL.out _ (RdP_kept dr (kept_drewN (Below.refl _ _) _)) hlen).mono fun e w' h => ⟨h.1, h.2.symm⟩)))
    go_wp2
    go_ret
    exact ⟨by simp [p5, p7], kept_drewN HB.out _⟩

set_option maxHeartbeats 4000000 in
theorem implCrane_in (s : ByteArray) (x y hh j bb : Int) (A : Option Addr) (zs : List (Int × Int)) (cp : Nat) (lst : Int) (w : World) (g1 : 1 ≤ hh ∧ hh ≤ 2000) (g2 : 1 ≤ j ∧ j ≤ 1000) (g3 : 0 ≤ bb ∧ bb ≤ j) (hlen : 1 ≤ zs.length)
    (H : Hid (RdP w (.slice A zs.length cp) zs))
    (HN : Hid (∀ u, Calls Tryz.prog 87 #[.string s] u fun e w' => e = .returned (.bool true) ∧ Below u.heap.size u w'))
    (HP : Hid (∀ u, Calls Tryz.prog 88 #[.agg #[.int .i64 x, .int .i64 y]] u fun e w' => e = .returned (.bool true) ∧ Below u.heap.size u w'))
    (HC : Hid (∀ u, RdP u (.slice A zs.length cp) zs → Calls Tryz.prog 89 #[.slice A zs.length cp] u fun e w' => e = .returned (.bool true) ∧ Below u.heap.size u w'))
    (HL : Hid (∀ u, RdP u (.slice A zs.length cp) zs → 1 ≤ zs.length → Calls Tryz.prog 90 #[.slice A zs.length cp] u fun e w' => e = .returned (.int .i64 lst) ∧ u = w')) :
    Calls Tryz.prog 64 #[.agg #[.string s, .int .i64 x, .int .i64 y, .int .i64 hh, .int .i64 j, .int .i64 bb, .slice A zs.length cp]] w fun e w' => e = .returned (.bool (decide (lst ≤ j))) ∧ Below w.heap.size w w' := by
  go_enter Tryz.func64, Tryz.ntmps64
  go_wp2_with fail
  refine (HN.out _).mono ?_
  rintro e w1 ⟨rfl, b1⟩
  refine kept_at b1 (w.heap.size) (by go_size) fun c1_0 z1_0 s1_0 => ?_
  replace b1 := kept_trans (a := w) (by go_grown) b1
  have l1 := kept_cell b1
  have zz1 := b1.size
  go_wp2_with fail
  refine (HP.out _).mono ?_
  rintro e w2 ⟨rfl, b2⟩
  refine kept_at b2 (w.heap.size) (by go_size) fun c2_0 z2_0 s2_0 => ?_
  replace b2 := kept_trans (a := w) (by go_grown) b2
  have l2 := kept_cell b2
  have zz2 := b2.size
  go_wp2_with fail
  first
    | go_region_with (first | (go_at_call 89; (refine (HC.out _ (RdP_kept H.out (by go_grown))).mono ?_; rintro e w3 ⟨rfl, b3⟩; refine kept_at b3 w.heap.size (by go_size) fun c3_0 z3_0 s3_0 => ?_; have b4 := kept_trans (a := w) (by go_grown) b3)) | (go_at_call 90; (refine (HL.out _ (RdP_kept H.out (by go_grown)) hlen).mono ?_; rintro e w5 ⟨rfl, rfl⟩)))
    | fail
  all_goals
    go_wp2
    go_ret
    exact ⟨rfl, by go_grown⟩

set_option maxHeartbeats 4000000 in
theorem implCrane_any (k : Cr) (c : Value) (w : World) (hr : RdP w c k.ch) (hs : k.nm.size ≤ 1000000) :
    Calls Tryz.prog 64 #[.agg #[.string k.nm, .int .i64 k.x, .int .i64 k.y, .int .i64 k.h, .int .i64 k.j, .int .i64 k.b, c]] w fun e w' => e = .returned (.bool (craneB k)) ∧ Below w.heap.size w w' := by
  obtain ⟨A, cp, rfl, hl, _⟩ := RdP_slice hr
  have H := Lib.hid hr; clear hr
  have HN := Lib.hid (fun u => implIsName_any k.nm u hs)
  have HC := Lib.hid (fun u (q : RdP u (.slice A k.ch.length cp) k.ch) => implChart_any _ _ u q)
  have HL := Lib.hid (fun u (q : RdP u (.slice A k.ch.length cp) k.ch) (n : 1 ≤ k.ch.length) => last_any _ _ u q n)
  have hlen : chartB k.ch = true → 1 ≤ k.ch.length := fun h => (chartB_iff.1 h).2.1
  unfold craneB
  obtain ⟨s, x, y, hh, j, bb, zs⟩ := k
  dsimp only at *
  generalize nameB s = p1 at *
  generalize chartB zs = p6 at *
  generalize lastL zs = lst at *
  cases p1
  · go_enter Tryz.func64, Tryz.ntmps64
    go_wp2_with fail
    refine (HN.out _).mono ?_
    rintro e w1 ⟨rfl, b1⟩
    refine kept_at b1 (w.heap.size) (by go_size) fun c1_0 z1_0 s1_0 => ?_
    replace b1 := kept_trans (a := w) (by go_grown) b1
    have l1 := kept_cell b1
    have zz1 := b1.size
    go_wp2
    go_ret
    exact ⟨rfl, b1⟩
  have HP := fun u => validPlace_any x y u
  cases p2 : okP x y <;> rw [p2] at HP <;> have HP := Lib.hid HP
  · go_enter Tryz.func64, Tryz.ntmps64
    go_wp2_with fail
    refine (HN.out _).mono ?_
    rintro e w1 ⟨rfl, b1⟩
    refine kept_at b1 (w.heap.size) (by go_size) fun c1_0 z1_0 s1_0 => ?_
    replace b1 := kept_trans (a := w) (by go_grown) b1
    have l1 := kept_cell b1
    have zz1 := b1.size
    go_wp2_with fail
    refine (HP.out _).mono ?_
    rintro e w2 ⟨rfl, b2⟩
    refine kept_at b2 (w.heap.size) (by go_size) fun c2_0 z2_0 s2_0 => ?_
    replace b2 := kept_trans (a := w) (by go_grown) b2
    have l2 := kept_cell b2
    have zz2 := b2.size
    go_wp2
    go_ret
    exact ⟨rfl, b2⟩
  rcases (show (¬ 1 ≤ hh) ∨ (1 ≤ hh ∧ ¬ hh ≤ 2000) ∨ (1 ≤ hh ∧ hh ≤ 2000 ∧ ¬ 1 ≤ j) ∨ (1 ≤ hh ∧ hh ≤ 2000 ∧ 1 ≤ j ∧ ¬ j ≤ 1000) ∨ (1 ≤ hh ∧ hh ≤ 2000 ∧ 1 ≤ j ∧ j ≤ 1000 ∧ ¬ 0 ≤ bb) ∨ (1 ≤ hh ∧ hh ≤ 2000 ∧ 1 ≤ j ∧ j ≤ 1000 ∧ 0 ≤ bb ∧ ¬ bb ≤ j) ∨ (1 ≤ hh ∧ hh ≤ 2000 ∧ 1 ≤ j ∧ j ≤ 1000 ∧ 0 ≤ bb ∧ bb ≤ j) from by omega) with g | g | g | g | g | g | g
  case inr.inr.inr.inr.inr.inr =>
    obtain ⟨g1, g2, g3, g4, g5, g6⟩ := g
    have E : (true && (true && (inB hh 1 2000 && (inB j 1 1000 && (inB bb 0 j && (p6 && decide (lst ≤ j))))))) = (p6 && decide (lst ≤ j)) := by simp [inB, g1, g2, g3, g4, g5, g6]
    rw [E]
    clear E
    cases p6
    · go_enter Tryz.func64, Tryz.ntmps64
      go_wp2_with fail
      refine (HN.out _).mono ?_
      rintro e w1 ⟨rfl, b1⟩
      refine kept_at b1 (w.heap.size) (by go_size) fun c1_0 z1_0 s1_0 => ?_
      replace b1 := kept_trans (a := w) (by go_grown) b1
      have l1 := kept_cell b1
      have zz1 := b1.size
      go_wp2_with fail
      refine (HP.out _).mono ?_
      rintro e w2 ⟨rfl, b2⟩
      refine kept_at b2 (w.heap.size) (by go_size) fun c2_0 z2_0 s2_0 => ?_
      replace b2 := kept_trans (a := w) (by go_grown) b2
      have l2 := kept_cell b2
      have zz2 := b2.size
      go_wp2_with fail
      first
        | go_region_with ((go_at_call 89; refine (HC.out _ (RdP_kept H.out (by go_grown))).mono ?_; rintro e w3 ⟨rfl, b3⟩))
        | fail
      all_goals
        go_wp2
        go_ret
        exact ⟨rfl, kept_trans (a := w) (by go_grown) b3⟩
    · rw [Bool.true_and]
      exact implCrane_in s x y hh j bb A zs cp lst w ⟨g1, g2⟩ ⟨g3, g4⟩ ⟨g5, g6⟩ (hlen rfl) H HN HP HC HL
  all_goals
    have E : (true && (true && (inB hh 1 2000 && (inB j 1 1000 && (inB bb 0 j && (p6 && decide (lst ≤ j))))))) = false := by simp [inB, g]
    rw [E]
    clear E
    go_enter Tryz.func64, Tryz.ntmps64
    go_wp2_with fail
    refine (HN.out _).mono ?_
    rintro e w1 ⟨rfl, b1⟩
    refine kept_at b1 (w.heap.size) (by go_size) fun c1_0 z1_0 s1_0 => ?_
    replace b1 := kept_trans (a := w) (by go_grown) b1
    have l1 := kept_cell b1
    have zz1 := b1.size
    go_wp2_with fail
    refine (HP.out _).mono ?_
    rintro e w2 ⟨rfl, b2⟩
    refine kept_at b2 (w.heap.size) (by go_size) fun c2_0 z2_0 s2_0 => ?_
    replace b2 := kept_trans (a := w) (by go_grown) b2
    have l2 := kept_cell b2
    have zz2 := b2.size
    go_wp2
    go_ret
    exact ⟨rfl, b2⟩

theorem craneB_true {k : Cr} (h : craneB k = true) : okP k.x k.y = true ∧ (1 ≤ k.h ∧ k.h ≤ 2000) ∧ (1 ≤ k.j ∧ k.j ≤ 1000) ∧ (0 ≤ k.b ∧ k.b ≤ k.j) ∧ ChartP k.ch ∧ lastL k.ch ≤ k.j ∧ nameB k.nm = true := by
  simp only [craneB, Bool.and_eq_true, decide_eq_true_eq] at h
  obtain ⟨h1, h2, h3, h4, h5, h6, h7⟩ := h
  exact ⟨h2, inB_true h3, inB_true h4, inB_true h5, chartB_iff.1 h6, h7, h1⟩

/-- The distance of a crane from a place, rounded up. -/
noncomputable def distL (k : Cr) (u v : Int) : Int := rootL ((u - k.x) * (u - k.x) + (v - k.y) * (v - k.y))

noncomputable def reachB (k : Cr) (u v : Int) : Bool := decide (distL k u v ≤ lastL k.ch)

set_option maxHeartbeats 4000000 in
theorem specKLoad_any (b o : Nat) (k : Cr) (c : Value) (u v : Int) (w : World) (h : CrAt w b o k c) (hc : craneB k = true) (hp : okP u v = true) :
    Calls Tryz.prog 101 #[.pointer (some ⟨b, o, none⟩), .agg #[.int .i64 u, .int .i64 v]] w fun e w' => e = .returned (.int .i64 (if reachB k u v then loadL k.ch (distL k u v) else -1)) ∧ Below w.heap.size w w' := by
  have hk := craneB_true hc
  have g1 := okP_true hk.1
  have g2 := okP_true hp
  have E := sq_wrap (k.x - u) (k.y - v) (by omega) (by omega)
  have p := sq_bd (k.x - u) 20000 (by omega) (by omega)
  have q := sq_bd (k.y - v) 20000 (by omega) (by omega)
  have hQ := fun W => l02Square_any k.x k.y u v (by omega) (by omega) (by omega) (by omega) W
  have hD : distL k u v = rootL (wrap64 (wrap64 ((k.x - u) * (k.x - u)) + wrap64 ((k.y - v) * (k.y - v)))) := by rw [E, sq_sym k.x u, sq_sym k.y v]; rfl
  have hR := fun W => l02Root_any (wrap64 (wrap64 ((k.x - u) * (k.x - u)) + wrap64 ((k.y - v) * (k.y - v)))) W (by rw [E]; omega) (by rw [E]; omega)
  rw [← hD] at hR
  clear hD E p q
  generalize wrap64 (wrap64 ((k.x - u) * (k.x - u)) + wrap64 ((k.y - v) * (k.y - v))) = N at *
  have hl := find_last hk.2.2.2.2.1 (distL k u v)
  have hL := fun u' (q : RdP u' c k.ch) => specLoad_any c k.ch (distL k u v) u' q hk.2.2.2.2.1
  have hlast : lastL k.ch ≤ 1000 := by have := hk.2.2.2.2.2.1; have := hk.2.2.1; omega
  have hE : (if findL k.ch (distL k u v) < k.ch.length then loadL k.ch (distL k u v) else -1) = (if reachB k u v then loadL k.ch (distL k u v) else -1) := by
    unfold reachB
    by_cases h1 : distL k u v ≤ lastL k.ch
    · rw [if_pos (hl.2 h1), if_pos (by simp [h1])]
    · rw [if_neg (fun h => h1 (hl.1 h)), if_neg (by simp [h1])]
  simp only [hE] at hL
  have hbig : 1000 < distL k u v → (if reachB k u v then loadL k.ch (distL k u v) else -1) = -1 := by
    intro h1
    rw [if_neg]
    unfold reachB
    simp
    omega
  clear hE hl hlast
  generalize (if reachB k u v then loadL k.ch (distL k u v) else -1) = R at *
  generalize distL k u v = D at *
  obtain ⟨hb, ⟨c0, c1, c2, c3, c4, c5, c6⟩, hr⟩ := h
  obtain ⟨A, cp, rfl, _, _⟩ := RdP_slice hr
  have H := Lib.hid hr; clear hr
  clear hk hc hp c0 c3 c4 c5
  obtain ⟨s, x, y, hh, j, bb, zs⟩ := k
  dsimp only at *
  have HK : ∀ u, Below w.heap.size w u → u.cell? ⟨b, o + 6, none⟩ = some (.slice A zs.length cp) ∧ RdP u (.slice A zs.length cp) zs :=
    fun u q => ⟨by rw [kept_cell q b _ hb]; exact c6, RdP_kept H.out q⟩
  have HK := Lib.hid HK
  have HQ := Lib.hid hQ; clear hQ
  have HR := Lib.hid hR; clear hR
  have HL := Lib.hid hL; clear hL
  by_cases hD : 1000 < D
  · have hb2 := hbig hD
    subst hb2
    go_enter Tryz.func101, Tryz.ntmps101
    go_wp2_with fail
    go_region_held3 (fun w' => w'.cell? ⟨b, o + 1, none⟩ = some (.int .i64 x) ∧ w'.cell? ⟨b, o + 2, none⟩ = some (.int .i64 y) ∧ w'.cell? ⟨w.heap.size, 0, none⟩ = some (.int .i64 u) ∧ w'.cell? ⟨w.heap.size, 1, none⟩ = some (.int .i64 v) ∧ Below w.heap.size w w') (refine ⟨?_, ?_, ?_, ?_, ?_⟩ <;> first | (go_grown; done) | (go_keep; done))
      (first | (go_at_call 114; refine (HR.out _).mono ?_; rintro e w1 ⟨rfl, rfl⟩) | (go_at_call 83; refine (HQ.out _).mono ?_; rintro e w1 ⟨rfl, hb⟩; have hs := hb.size; (try simp at hs); (try (refine kept_at hb (w.heap.size) ?_ (fun hc0 hz0 hs0 => ?_); focus go_size)); (try (refine kept_at hb (w.heap.size + 1) ?_ (fun hc1 hz1 hs1 => ?_); focus go_size)); (try (refine kept_at hb (w.heap.size + 2) ?_ (fun hc2 hz2 hs2 => ?_); focus go_size)); (try (refine kept_at hb (w.heap.size + 3) ?_ (fun hc3 hz3 hs3 => ?_); focus go_size)); (try (refine kept_at hb (w.heap.size + 4) ?_ (fun hc4 hz4 hs4 => ?_); focus go_size)); (try (refine kept_at hb (w.heap.size + 5) ?_ (fun hc5 hz5 hs5 => ?_); focus go_size)); replace hb := kept_trans (a := w) (by go_grown) hb; have hcl := kept_cell hb; have hzl := kept_frozen hb))
    go_wp2
    go_ret
    exact ⟨rfl, hb⟩
  · clear hbig
    go_enter Tryz.func101, Tryz.ntmps101
    go_wp2_with fail
    go_region_held3 (fun w' => w'.cell? ⟨b, o + 1, none⟩ = some (.int .i64 x) ∧ w'.cell? ⟨b, o + 2, none⟩ = some (.int .i64 y) ∧ w'.cell? ⟨w.heap.size, 0, none⟩ = some (.int .i64 u) ∧ w'.cell? ⟨w.heap.size, 1, none⟩ = some (.int .i64 v) ∧ Below w.heap.size w w') (refine ⟨?_, ?_, ?_, ?_, ?_⟩ <;> first | (go_grown; done) | (go_keep; done))
      (first | (go_at_call 114; refine (HR.out _).mono ?_; rintro e w1 ⟨rfl, rfl⟩) | (go_at_call 83; refine (HQ.out _).mono ?_; rintro e w1 ⟨rfl, hb⟩; have hs := hb.size; (try simp at hs); (try (refine kept_at hb (w.heap.size) ?_ (fun hc0 hz0 hs0 => ?_); focus go_size)); (try (refine kept_at hb (w.heap.size + 1) ?_ (fun hc1 hz1 hs1 => ?_); focus go_size)); (try (refine kept_at hb (w.heap.size + 2) ?_ (fun hc2 hz2 hs2 => ?_); focus go_size)); (try (refine kept_at hb (w.heap.size + 3) ?_ (fun hc3 hz3 hs3 => ?_); focus go_size)); (try (refine kept_at hb (w.heap.size + 4) ?_ (fun hc4 hz4 hs4 => ?_); focus go_size)); (try (refine kept_at hb (w.heap.size + 5) ?_ (fun hc5 hz5 hs5 => ?_); focus go_size)); replace hb := kept_trans (a := w) (by go_grown) hb; have hcl := kept_cell hb; have hzl := kept_frozen hb))
    obtain ⟨d6, dr⟩ := HK.out _ hb
    go_wp2_with fail
    refine (HL.out _ dr).mono ?_
    rintro e w5 ⟨rfl, hb5⟩
    go_wp2
    go_ret
    exact ⟨rfl, kept_trans hb hb5⟩

noncomputable def loadPlaceL (k : Cr) (u v : Int) : Int × Int := if craneB k && okP u v then (if reachB k u v then (loadL k.ch (distL k u v), 0) else (0, 3)) else (0, 1)

set_option maxHeartbeats 4000000 in
theorem implRadTo_any (b o : Nat) (k : Cr) (c : Value) (u v : Int) (w : World) (h : CrAt w b o k c) (hc : craneB k = true) (hp : okP u v = true) :
    Calls Tryz.prog 111 #[.pointer (some ⟨b, o, none⟩), .agg #[.int .i64 u, .int .i64 v]] w fun e w' => e = .returned (.tuple #[.int .i64 (if reachB k u v then distL k u v else 0), .bool (reachB k u v)]) ∧ Below w.heap.size w w' := by
  have hk := craneB_true hc
  have hR := fun W => implRadius_any k.x k.y u v W
  have hD : radL k.x k.y u v = (distL k u v, 0) := by simp [radL, hk.1, hp, distL]
  simp only [hD] at hR
  have hL := fun u' (q : RdP u' c k.ch) => last_any c k.ch u' q hk.2.2.2.2.1.2.1
  unfold reachB
  clear hD
  generalize distL k u v = D at *
  generalize lastL k.ch = L at *
  obtain ⟨hb, ⟨c0, c1, c2, c3, c4, c5, c6⟩, hr⟩ := h
  obtain ⟨A, cp, rfl, _, _⟩ := RdP_slice hr
  have H := Lib.hid hr; clear hr
  clear hk hc hp c0 c3 c4 c5
  obtain ⟨s, x, y, hh, j, bb, zs⟩ := k
  dsimp only at *
  have HK : ∀ u, Below w.heap.size w u → u.cell? ⟨b, o + 6, none⟩ = some (.slice A zs.length cp) ∧ RdP u (.slice A zs.length cp) zs :=
    fun u q => ⟨by rw [kept_cell q b _ hb]; exact c6, RdP_kept H.out q⟩
  have HK := Lib.hid HK
  have HR := Lib.hid hR; clear hR
  have HL := Lib.hid hL; clear hL
  by_cases hD : D ≤ L
  · have hd2 : decide (L < D) = false := by simp; omega
    have hd3 : decide (D ≤ L) = true := by simp; omega
    go_enter Tryz.func111, Tryz.ntmps111
    go_wp2_with fail
    go_region_held3 (fun w' => w'.cell? ⟨b, o + 1, none⟩ = some (.int .i64 x) ∧ w'.cell? ⟨b, o + 2, none⟩ = some (.int .i64 y) ∧ w'.cell? ⟨w.heap.size, 0, none⟩ = some (.int .i64 u) ∧ w'.cell? ⟨w.heap.size, 1, none⟩ = some (.int .i64 v) ∧ Below w.heap.size w w') (refine ⟨?_, ?_, ?_, ?_, ?_⟩ <;> first | (go_grown; done) | (go_keep; done))
      ((go_at_call 117; refine (HR.out _).mono ?_; rintro e w1 ⟨rfl, hb⟩; have hs := hb.size; (try simp at hs); (try (refine kept_at hb (w.heap.size) ?_ (fun hc0 hz0 hs0 => ?_); focus go_size)); (try (refine kept_at hb (w.heap.size + 1) ?_ (fun hc1 hz1 hs1 => ?_); focus go_size)); (try (refine kept_at hb (w.heap.size + 2) ?_ (fun hc2 hz2 hs2 => ?_); focus go_size)); (try (refine kept_at hb (w.heap.size + 3) ?_ (fun hc3 hz3 hs3 => ?_); focus go_size)); (try (refine kept_at hb (w.heap.size + 4) ?_ (fun hc4 hz4 hs4 => ?_); focus go_size)); (try (refine kept_at hb (w.heap.size + 5) ?_ (fun hc5 hz5 hs5 => ?_); focus go_size)); replace hb := kept_trans (a := w) (by go_grown) hb; have hcl := kept_cell hb; have hzl := kept_frozen hb))
    obtain ⟨d6, dr⟩ := HK.out _ hb
    go_wp2_with (go_at_call 90; refine (HL.out _ dr).mono ?_; rintro e w1 ⟨rfl, rfl⟩)
    go_ret2
    exact ⟨by simp [hD], hb⟩
  · have hd2 : L < D := by omega
    have hd3 : decide (D ≤ L) = false := by simp; omega
    go_enter Tryz.func111, Tryz.ntmps111
    go_wp2_with fail
    go_region_held3 (fun w' => w'.cell? ⟨b, o + 1, none⟩ = some (.int .i64 x) ∧ w'.cell? ⟨b, o + 2, none⟩ = some (.int .i64 y) ∧ w'.cell? ⟨w.heap.size, 0, none⟩ = some (.int .i64 u) ∧ w'.cell? ⟨w.heap.size, 1, none⟩ = some (.int .i64 v) ∧ Below w.heap.size w w') (refine ⟨?_, ?_, ?_, ?_, ?_⟩ <;> first | (go_grown; done) | (go_keep; done))
      ((go_at_call 117; refine (HR.out _).mono ?_; rintro e w1 ⟨rfl, hb⟩; have hs := hb.size; (try simp at hs); (try (refine kept_at hb (w.heap.size) ?_ (fun hc0 hz0 hs0 => ?_); focus go_size)); (try (refine kept_at hb (w.heap.size + 1) ?_ (fun hc1 hz1 hs1 => ?_); focus go_size)); (try (refine kept_at hb (w.heap.size + 2) ?_ (fun hc2 hz2 hs2 => ?_); focus go_size)); (try (refine kept_at hb (w.heap.size + 3) ?_ (fun hc3 hz3 hs3 => ?_); focus go_size)); (try (refine kept_at hb (w.heap.size + 4) ?_ (fun hc4 hz4 hs4 => ?_); focus go_size)); (try (refine kept_at hb (w.heap.size + 5) ?_ (fun hc5 hz5 hs5 => ?_); focus go_size)); replace hb := kept_trans (a := w) (by go_grown) hb; have hcl := kept_cell hb; have hzl := kept_frozen hb))
    obtain ⟨d6, dr⟩ := HK.out _ hb
    go_wp2_with (go_at_call 90; refine (HL.out _ dr).mono ?_; rintro e w1 ⟨rfl, rfl⟩)
    all_goals first
      | (exfalso; apply hD; apply of_decide_eq_true; assumption)
      | (go_ret2; exact ⟨by simp [hD], hb⟩)

set_option maxHeartbeats 4000000 in
theorem implLoadPlace_any (k : Cr) (c : Value) (u v : Int) (w : World) (hr : RdP w c k.ch) (hs : k.nm.size ≤ 1000000) :
    Calls Tryz.prog 97 #[.agg #[.string k.nm, .int .i64 k.x, .int .i64 k.y, .int .i64 k.h, .int .i64 k.j, .int .i64 k.b, c], .agg #[.int .i64 u, .int .i64 v]] w fun e w' => e = .returned (.tuple #[.int .i64 (loadPlaceL k u v).1, .int .i64 (loadPlaceL k u v).2]) ∧ Below w.heap.size w w' := by
  obtain ⟨A, cp, rfl, _, _⟩ := RdP_slice hr
  have H := Lib.hid hr; clear hr
  have hA : CrAt (w.alloc (.cells #[.string k.nm, .int .i64 k.x, .int .i64 k.y, .int .i64 k.h, .int .i64 k.j, .int .i64 k.b, .slice A k.ch.length cp] 88)) w.heap.size 0 k (.slice A k.ch.length cp) :=
    ⟨by simp, by simp, RdP_kept H.out (by go_grown)⟩
  have HA := Lib.hid hA; clear hA
  have HC := Lib.hid (fun u (q : RdP u (.slice A k.ch.length cp) k.ch) => implCrane_any k _ u q hs)
  have HP := fun u' => validPlace_any u v u'
  cases h1 : craneB k <;> rw [h1] at HC
  · rw [show loadPlaceL k u v = (0, 1) by simp [loadPlaceL, h1]]
    go_enter Tryz.func97, Tryz.ntmps97
    go_wp2_with fail
    refine (HC.out _ (RdP_kept H.out (by go_grown))).mono ?_
    rintro e w1 ⟨rfl, hb1⟩
    have b1 := kept_trans (a := w) (by go_grown) hb1
    go_wp2
    go_ret2
    exact ⟨rfl, b1⟩
  cases h2 : okP u v <;> rw [h2] at HP <;> have HP := Lib.hid HP
  · rw [show loadPlaceL k u v = (0, 1) by simp [loadPlaceL, h1, h2]]
    go_enter Tryz.func97, Tryz.ntmps97
    go_wp2_with fail
    refine (HC.out _ (RdP_kept H.out (by go_grown))).mono ?_
    rintro e w1 ⟨rfl, hb1⟩
    refine kept_at hb1 (w.heap.size + 1) (by go_size) fun c1_1 z1_1 s1_1 => ?_
    have b1 := kept_trans (a := w) (by go_grown) hb1
    go_wp2_with fail
    refine (HP.out _).mono ?_
    rintro e w2 ⟨rfl, b2⟩
    replace b2 := kept_trans (a := w) (by go_grown) b2
    have l2 := kept_cell b2
    have zz2 := b2.size
    go_wp2
    go_ret2
    exact ⟨rfl, b2⟩
  have HL := fun b o u' (q : CrAt u' b o k (.slice A k.ch.length cp)) => implRadTo_any b o k _ u v u' q h1 h2
  have hE : loadPlaceL k u v = if reachB k u v then (loadL k.ch (distL k u v), 0) else (0, 3) := by simp [loadPlaceL, h1, h2]
  rw [hE]
  clear hE
  cases h3 : reachB k u v <;> simp only [h3, if_true, if_false, Bool.false_eq_true] at HL ⊢
  · have HL := Lib.hid HL
    go_enter Tryz.func97, Tryz.ntmps97
    go_wp2_with fail
    refine (HC.out _ (RdP_kept H.out (by go_grown))).mono ?_
    rintro e w1 ⟨rfl, hb1⟩
    have HA1 := Lib.hid (CrAt_kept (CrAt_kept HA.out (by go_grown)) hb1)
    refine kept_at hb1 (w.heap.size + 1) (by go_size) fun c1_1 z1_1 s1_1 => ?_
    have b1 := kept_trans (a := w) (by go_grown) hb1
    go_wp2_with fail
    refine (HP.out _).mono ?_
    rintro e w2 ⟨rfl, hbx2⟩
    refine kept_at hbx2 (w.heap.size + 1) (by go_size) fun c2_1 z2_1 s2_1 => ?_
    have b2 := kept_trans (a := w) (by go_grown) hbx2
    have HA2 := Lib.hid (CrAt_kept HA1.out hbx2)
    go_wp2_with fail
    refine (HL.out _ _ _ HA2.out).mono ?_
    rintro e w3 ⟨rfl, hb3⟩
    have b3 := kept_trans (a := w) (by go_grown) hb3
    go_wp2
    go_ret2
    exact ⟨rfl, b3⟩
  · have hG := fun u' (q : RdP u' (.slice A k.ch.length cp) k.ch) => implLoadIn_any _ k.ch (distL k u v) u' q (craneB_true h1).2.2.2.2.1 ((find_last (craneB_true h1).2.2.2.2.1 _).2 (by simpa [reachB] using h3))
    generalize loadL k.ch (distL k u v) = D at *
    generalize distL k u v = DD at *
    have HL := Lib.hid HL
    have HG := Lib.hid hG; clear hG
    go_enter Tryz.func97, Tryz.ntmps97
    go_wp2_with fail
    refine (HC.out _ (RdP_kept H.out (by go_grown))).mono ?_
    rintro e w1 ⟨rfl, hb1⟩
    have HA1 := Lib.hid (CrAt_kept (CrAt_kept HA.out (by go_grown)) hb1)
    refine kept_at hb1 (w.heap.size + 1) (by go_size) fun c1_1 z1_1 s1_1 => ?_
    refine kept_at hb1 w.heap.size (by go_size) fun c1_0 z1_0 s1_0 => ?_
    have b1 := kept_trans (a := w) (by go_grown) hb1
    go_wp2_with fail
    refine (HP.out _).mono ?_
    rintro e w2 ⟨rfl, hbx2⟩
    refine kept_at hbx2 (w.heap.size + 1) (by go_size) fun c2_1 z2_1 s2_1 => ?_
    refine kept_at hbx2 w.heap.size (by go_size) fun c2_0 z2_0 s2_0 => ?_
    have b2 := kept_trans (a := w) (by go_grown) hbx2
    have HA2 := Lib.hid (CrAt_kept HA1.out hbx2)
    go_wp2_with fail
    refine (HL.out _ _ _ HA2.out).mono ?_
    rintro e w3 ⟨rfl, hb3⟩
    refine kept_at hb3 w.heap.size (by go_size) fun c3_0 z3_0 s3_0 => ?_
    have b3 := kept_trans (a := w) (by go_grown) hb3
    go_wp2_with fail
    refine (HG.out _ (RdP_kept H.out b3)).mono ?_
    rintro e w4 ⟨rfl, hb4⟩
    have b4 := kept_trans b3 hb4
    go_wp2
    go_ret2
    exact ⟨rfl, b4⟩

/-- The measure of a list of cranes, beside its length. -/
def totK : List (Cr × Value) → Nat
  | [] => 0
  | p :: ks => p.1.nm.size + p.1.ch.length + totK ks

theorem totK_step (ks : List (Cr × Value)) (i : Nat) (h : i < ks.length) : totK (ks.drop i) = ks[i].1.nm.size + ks[i].1.ch.length + totK (ks.drop (i + 1)) := by
  rw [List.drop_eq_getElem_cons h]
  rfl

theorem szKs_any (v : Value) (ks : List (Cr × Value)) (left : Int) (w : World) (h : RdK w v ks) (hl : 0 ≤ left ∧ left ≤ 1000000) (hw : ∀ p ∈ ks, wfK p.1) :
    Calls Tryz.prog 30 #[v, .int .i64 left] w fun e w' => e = .returned (.int .i64 (if (ks.length : Int) + totK ks ≤ left then left - ks.length - totK ks else -1)) ∧ Below w.heap.size w w' := by
  obtain ⟨A, c, rfl, hln, r⟩ := RdK_at h
  clear h
  by_cases h1 : left < (ks.length : Int)
  · rw [if_neg (by omega)]
    go_enter Tryz.func30, Tryz.ntmps30
    go_wp2
    go_ret
    exact ⟨rfl, Below.refl _ _⟩
  have R := Lib.hid r; clear r
  have HW := Lib.hid hw; clear hw
  have HS := Lib.hid (fun i (hi : i < ks.length) => totK_step ks i hi)
  have hd0 : totK (ks.drop 0) = totK ks := by simp
  have hdn : totK (ks.drop ks.length) = 0 := by simp [totK]
  have HD0 := Lib.hid hd0; clear hd0
  have HDN := Lib.hid hdn; clear hdn
  go_enter Tryz.func30, Tryz.ntmps30
  go_wp2_with fail
  go_loopw [1, 5] (fun q i wr => ∃ (j : Nat) (l : Int), j ≤ ks.length ∧ i = .int .i64 j ∧ q = .int .i64 l ∧ 0 ≤ l ∧ l ≤ 1000000 ∧ l - totK (ks.drop j) = left - ks.length - totK ks ∧ Below w.heap.size w wr) (fun _ i _ => ks.length - (intOf i).toNat)
  case atStart => exact ⟨0, left - ks.length, by omega, rfl, by simp [IntWalk.i64_in, IntWalk.wrap64_in, *] <;> omega, by omega, by omega, by rw [HD0.out], Below.refl _ _⟩
  case round =>
    obtain ⟨j, l, hj, rfl, rfl, h0, h1, heq, hb⟩ := hrel
    by_cases hlt : j < ks.length
    · obtain ⟨b, off, rfl, hk⟩ := R.out j hlt
      have hs := HS.out j hlt
      have hwk := (HW.out ks[j] (List.getElem_mem hlt)).1
      have hk := CrAt_kept hk hb
      generalize ks[j].1 = k at *
      generalize ks[j].2 = cv at *
      obtain ⟨hlb, ⟨c0, c1, c2, c3, c4, c5, c6⟩, hr⟩ := hk
      obtain ⟨A2, cp2, rfl, _, _⟩ := RdP_slice hr
      have HZ := Lib.hid (szK_any k (.slice A2 k.ch.length cp2) l ⟨h0, h1⟩ hwk wr hr)
      clear hr
      have hszk : szK k l = if (k.nm.size : Int) + (k.ch.length : Int) ≤ l then l - k.nm.size - k.ch.length else -1 := rfl
      generalize szK k l = z at *
      by_cases hz : (k.nm.size : Int) + (k.ch.length : Int) ≤ l
      · rw [if_pos hz] at hszk
        have hz0 : ¬ z < 0 := by omega
        go_wp2_with fail
        refine HZ.out.mono ?_
        rintro e w1 ⟨rfl, hb1⟩
        go_wp2
        go_roundw
        case rel => exact ⟨j + 1, _, by omega, by go_num, rfl, by omega, by omega, by omega, kept_trans hb hb1⟩
        case measure => simp [intOf]; omega
      · rw [if_neg hz] at hszk
        subst hszk
        go_wp2_with fail
        refine HZ.out.mono ?_
        rintro e w1 ⟨rfl, hb1⟩
        go_wp2
        go_ret
        exact ⟨by first | rfl | rw [if_neg (by omega)], kept_trans hb hb1⟩
    · have : j = ks.length := by omega
      subst this
      rw [HDN.out] at heq
      go_wp2
      go_ret
      have hE : (if (ks.length : Int) + (totK ks : Nat) ≤ left then left - (ks.length : Int) - (totK ks : Nat) else -1) = l := by rw [if_pos (by omega)]; omega
      exact ⟨by first | (rw [hE]; rfl) | (rw [show left - (ks.length : Int) - (totK ks : Nat) = l by omega]; rfl), hb⟩

def fillK : Cr := ⟨⟨#[126, 115, 112, 97, 114, 101, 126]⟩, -7000000000000000101, -7000000000000000101, -7000000000000000101, -7000000000000000101, -7000000000000000101, [fillP]⟩

theorem fillPoint_any (w : World) :
    Calls Tryz.prog 75 #[] w fun e w' => e = .returned (.agg #[.int .i64 (-7000000000000000101), .int .i64 (-7000000000000000101)]) ∧ Below w.heap.size w w' := by
  go_enter Tryz.func75, Tryz.ntmps75
  go_wp2
  go_returns
  exact ⟨rfl, by go_grown⟩

set_option maxHeartbeats 4000000 in
theorem fillK_any (w : World) :
    Calls Tryz.prog 63 #[] w fun e w' => ∃ c', e = .returned (.agg #[.string ⟨#[126, 115, 112, 97, 114, 101, 126]⟩, .int .i64 (-7000000000000000101), .int .i64 (-7000000000000000101), .int .i64 (-7000000000000000101), .int .i64 (-7000000000000000101), .int .i64 (-7000000000000000101), c']) ∧ RowF 130 2 w' w.heap.size w'.heap.size c' 1 (flatP [fillP]) ∧ Below w.heap.size w w' := by
  have HR := Lib.hid (fun (u : World) => World.ownsRow_lit (base := w.heap.size) u (e := 130) (size := 2) #[.int .i64 (-7000000000000000101), .int .i64 (-7000000000000000101)] 1)
  have hq := fun u => fillStep_any u
  simp only [fillP] at hq
  have HQ := Lib.hid hq; clear hq
  go_enter Tryz.func63, Tryz.ntmps63
  go_wp2_with fail
  refine (fillPoint_any _).mono ?_
  rintro e w1 ⟨rfl, b1⟩
  refine kept_at b1 (w.heap.size) (by go_size) fun c1_0 z1_0 s1_0 => ?_
  replace b1 := kept_trans (a := w) (by go_grown) b1
  have l1 := kept_cell b1
  have zz1 := b1.size
  go_wp2_with fail
  refine (HQ.out _).mono ?_
  rintro e w2 ⟨rfl, b2⟩
  refine kept_at b2 (w.heap.size) (by go_size) fun c2_0 z2_0 s2_0 => ?_
  replace b2 := kept_trans (a := w) (by go_grown) b2
  have l2 := kept_cell b2
  have zz2 := b2.size
  clear HQ
  go_simp
  go_step
  go_step
  go_simp
  go_step
  go_step
  go_simp
  go_step
  go_step
  go_simp
  repeat go_step
  (try simp only [Exit.inBlock, Exit.then])
  refine bodyPost_ret (v := .agg #[.string ⟨#[126, 115, 112, 97, 114, 101, 126]⟩, .int .i64 (-7000000000000000101), .int .i64 (-7000000000000000101), .int .i64 (-7000000000000000101), .int .i64 (-7000000000000000101), .int .i64 (-7000000000000000101), .slice (some ⟨w2.heap.size, 0, none⟩) 1 1]) ?_ rfl ⟨_, rfl, ?_, ?_⟩
  · rw [results_cell1 rfl]
    go_simp
  · suffices h : ∀ X : World, X.heap.size = w2.heap.size → RowF 130 2 (X.alloc (.cells #[.int .i64 (-7000000000000000101), .int .i64 (-7000000000000000101)] 130)) w.heap.size (X.alloc (.cells #[.int .i64 (-7000000000000000101), .int .i64 (-7000000000000000101)] 130)).heap.size (.slice (some ⟨w2.heap.size, 0, none⟩) 1 1) 1 (flatP [fillP]) from h _ (by simp)
    intro X hX
    have h := HR.out X (by omega) (by unfold maxLen; omega) (by simp)
    rw [hX] at h
    refine ⟨by simpa [flatP, encP, fillP] using h, fun g hg => ?_⟩
    simp [Value.ownBlock] at hg
    subst hg
    simp
    omega
  · go_grown

def zeroK : Cr × Value := (⟨⟨#[]⟩, 0, 0, 0, 0, 0, []⟩, .slice none 0 0)

/-- The block of a slice. -/
def blkOf : Value → Nat
  | .slice (some a) _ _ => a.block
  | _ => 0

theorem info_crane : (Tryz.prog.info? 88).map (fun i => (i.zero, i.size, i.bytes)) = some (some (.agg #[.string ⟨#[]⟩, .int .i64 0, .int .i64 0, .int .i64 0, .int .i64 0, .int .i64 0, .slice none 0 0]), 7, 80) := by kernel_rfl

theorem make_cranes (n : Nat) (h : n ≤ 4000000) (w : World) :
    (Instr.makeSlice 34 (.int .i64 (n : Int)) (.int .i64 (n : Int))).run Tryz.prog w = .ok (.slice (some ⟨w.heap.size, 0, none⟩) n n) (w.alloc (.cells (madeCells #[.string ⟨#[]⟩, .int .i64 0, .int .i64 0, .int .i64 0, .int .i64 0, .int .i64 0, .slice none 0 0] (n * 7)) 88)) := by
  obtain ⟨i, hi, hz, hs, hb⟩ := info_parts info_crane
  have hb' : (i.bytes : Int) * (n : Int) ≤ 281474976710656 := by rw [hb]; omega
  have hr := run_make (P := Tryz.prog) w 34 88 i (.agg #[.string ⟨#[]⟩, .int .i64 0, .int .i64 0, .int .i64 0, .int .i64 0, .int .i64 0, .slice none 0 0]) Tryz.underlying34 hi hz .i64 .i64 n n (by omega) (Int.le_refl _) hb' (by omega)
  simp only [Int.toNat_natCast, hs] at hr
  exact hr

theorem madeK_flat (n : Nat) : (madeCells #[.string ⟨#[]⟩, .int .i64 0, .int .i64 0, .int .i64 0, .int .i64 0, .int .i64 0, .slice none 0 0] (n * 7)).toList = flatK (List.replicate n zeroK) := by
  apply List.ext_getElem?
  intro j
  by_cases hj : j < n * 7
  · have h := flatK_at (List.replicate n zeroK) (j / 7) (j % 7) (by simp; omega) (by omega)
    rw [show j / 7 * 7 + j % 7 = j by omega, List.getElem_replicate] at h
    rw [h]
    have hm := Nat.mod_lt j (show 0 < 7 by omega)
    rcases (show j % 7 = 0 ∨ j % 7 = 1 ∨ j % 7 = 2 ∨ j % 7 = 3 ∨ j % 7 = 4 ∨ j % 7 = 5 ∨ j % 7 = 6 by omega) with hp | hp | hp | hp | hp | hp | hp <;> simp [madeCells, hj, hp, encK, zeroK]
  · rw [List.getElem?_eq_none (by rw [Array.length_toList, size_madeCells]; omega), List.getElem?_eq_none (by rw [flatK_len]; simp; omega)]

theorem flatK_set (L : List (Cr × Value)) (j : Nat) (p : Cr × Value) :
    ((((((((flatK L).set (j * 7) (.string p.1.nm)).set (j * 7 + 1) (.int .i64 p.1.x)).set (j * 7 + 2) (.int .i64 p.1.y)).set (j * 7 + 3) (.int .i64 p.1.h)).set (j * 7 + 4) (.int .i64 p.1.j)).set (j * 7 + 5) (.int .i64 p.1.b)).set (j * 7 + 6) p.2) = flatK (L.set j p) := by
  induction L generalizing j with
  | nil => simp [flatK]
  | cons z L ih =>
    cases j with
    | zero => simp [flatK, encK]
    | succ j =>
      have := ih j
      simp only [flatK, encK, List.flatMap_cons, List.cons_append, List.nil_append, Nat.succ_mul, List.set_cons_succ] at this ⊢
      rw [← this]

/-- A crane is stored in a row, cell by cell. -/
def setK7 (w : World) (g o : Nat) (p : Cr × Value) : World :=
  (((((((w.setCell ⟨g, o, none⟩ (.string p.1.nm)).setCell ⟨g, o + 1, none⟩ (.int .i64 p.1.x)).setCell ⟨g, o + 2, none⟩ (.int .i64 p.1.y)).setCell ⟨g, o + 3, none⟩ (.int .i64 p.1.h)).setCell ⟨g, o + 4, none⟩ (.int .i64 p.1.j)).setCell ⟨g, o + 5, none⟩ (.int .i64 p.1.b)).setCell ⟨g, o + 6, none⟩ p.2)

theorem row_setK7 {w : World} {base g n cap : Nat} {L : List (Cr × Value)} (h : w.ownsRow base 88 7 (.slice (some ⟨g, 0, none⟩) n cap) n (flatK L)) (j : Nat) (p : Cr × Value) :
    (setK7 w g (j * 7) p).ownsRow base 88 7 (.slice (some ⟨g, 0, none⟩) n cap) n (flatK (L.set j p)) ∧ w.grownBy (setK7 w g (j * 7) p) (some g) := by
  have h0 := h.stored (j * 7) (.string p.1.nm)
  have h1 := h0.1.stored (j * 7 + 1) (.int .i64 p.1.x)
  have h2 := h1.1.stored (j * 7 + 2) (.int .i64 p.1.y)
  have h3 := h2.1.stored (j * 7 + 3) (.int .i64 p.1.h)
  have h4 := h3.1.stored (j * 7 + 4) (.int .i64 p.1.j)
  have h5 := h4.1.stored (j * 7 + 5) (.int .i64 p.1.b)
  have h6 := h5.1.stored (j * 7 + 6) p.2
  rw [flatK_set] at h6
  exact ⟨h6.1, grown_step h0.2 (grown_step h1.2 (grown_step h2.2 (grown_step h3.2 (grown_step h4.2 (grown_step h5.2 h6.2)))))⟩

theorem row_cellsK {w : World} {base g n cap : Nat} {L : List (Cr × Value)} (h : w.ownsRow base 88 7 (.slice (some ⟨g, 0, none⟩) n cap) n (flatK L)) (j : Nat) (hj : j < n) :
    ∃ u0 u1 u2 u3 u4 u5 u6, w.cell? ⟨g, j * 7, none⟩ = some u0 ∧ w.cell? ⟨g, j * 7 + 1, none⟩ = some u1 ∧ w.cell? ⟨g, j * 7 + 2, none⟩ = some u2 ∧ w.cell? ⟨g, j * 7 + 3, none⟩ = some u3 ∧ w.cell? ⟨g, j * 7 + 4, none⟩ = some u4 ∧ w.cell? ⟨g, j * 7 + 5, none⟩ = some u5 ∧ w.cell? ⟨g, j * 7 + 6, none⟩ = some u6 := by
  have hl : (flatK L).length = n * 7 := h.1
  have at_ : ∀ o, o < n * 7 → ∃ u, w.cell? ⟨g, o, none⟩ = some u := fun o ho => ⟨_, by rw [h.cellAt o ho]; exact List.getElem?_eq_getElem (by omega)⟩
  obtain ⟨u0, h0⟩ := at_ (j * 7) (by omega)
  obtain ⟨u1, h1⟩ := at_ (j * 7 + 1) (by omega)
  obtain ⟨u2, h2⟩ := at_ (j * 7 + 2) (by omega)
  obtain ⟨u3, h3⟩ := at_ (j * 7 + 3) (by omega)
  obtain ⟨u4, h4⟩ := at_ (j * 7 + 4) (by omega)
  obtain ⟨u5, h5⟩ := at_ (j * 7 + 5) (by omega)
  obtain ⟨u6, h6⟩ := at_ (j * 7 + 6) (by omega)
  exact ⟨u0, u1, u2, u3, u4, u5, u6, h0, h1, h2, h3, h4, h5, h6⟩

/-- A copy of a list of cranes that the law made; Q: what is known of each chart, ρ: of two of them. -/
def SiteQ (Q : World → Nat → Nat → Cr → Value → Prop) (ρ : Value → Value → Prop) (w : World) (lo hi : Nat) (v : Value) (ks : List Cr) : Prop :=
  ks.length ≤ 1000000 ∧ ∃ (g : Nat) (T S : List (Cr × Value)), v = .slice (some ⟨g, 0, none⟩) ks.length (T ++ S).length ∧ lo ≤ g ∧ T.map (·.1) = ks ∧ S.map (·.1) = List.replicate (roomL ks.length) fillK ∧
    RowF 88 7 w lo hi (.slice (some ⟨g, 0, none⟩) (T ++ S).length (T ++ S).length) (T ++ S).length (flatK (T ++ S)) ∧ (∀ p ∈ T, Q w (g + 1) hi p.1 p.2) ∧ (∀ p ∈ S, RowF 130 2 w (g + 1) hi p.2 1 (flatP [fillP])) ∧ T.Pairwise (fun p q => ρ p.2 q.2)

theorem set_mid {α : Type} (T : List α) (z p : α) (m : Nat) : (T ++ List.replicate (m + 1) z).set T.length p = (T ++ [p]) ++ List.replicate m z := by
  rw [List.set_append_right _ _ (Nat.le_refl _), Nat.sub_self, List.replicate_succ, List.set_cons_zero, List.append_assoc]
  rfl

/-- What a chart's predicate must bear. -/
structure ChartQ (Q : World → Nat → Nat → Cr → Value → Prop) : Prop where
  set : ∀ {w : World} {lo hi : Nat} {k : Cr} {c : Value} (b o : Nat) (u : Value), Q w lo hi k c → b < lo → Q (w.setCell ⟨b, o, none⟩ u) lo hi k c
  kept : ∀ {W w1 : World} {lo hi : Nat} {k : Cr} {c : Value}, Q W lo hi k c → Below W.heap.size W w1 → Q w1 lo hi k c
  wide : ∀ {w : World} {lo lo' hi hi' : Nat} {k : Cr} {c : Value}, Q w lo hi k c → lo' ≤ lo → hi ≤ hi' → Q w lo' hi' k c
  form : ∀ {w : World} {lo hi : Nat} {k : Cr} {c : Value}, Q w lo hi k c → ∃ A n cp, c = .slice A n cp

theorem ChartQ_setK7 {Q : World → Nat → Nat → Cr → Value → Prop} (q : ChartQ Q) {w : World} {lo hi g o : Nat} {k : Cr} {c : Value} {p : Cr × Value} (h : Q w lo hi k c) (hb : g < lo) : Q (setK7 w g o p) lo hi k c :=
  q.set _ _ _ (q.set _ _ _ (q.set _ _ _ (q.set _ _ _ (q.set _ _ _ (q.set _ _ _ (q.set _ _ _ h hb) hb) hb) hb) hb) hb) hb

/-- The chart of a filler. -/
def fillQ (w : World) (lo hi : Nat) (_ : Cr) (c : Value) : Prop := RowF 130 2 w lo hi c 1 (flatP [fillP])

theorem fillQ_ok : ChartQ fillQ where
  set := fun b o u h hb => RowF_set h hb
  kept := fun h hb => RowF_kept h hb
  wide := fun h hl hh => RowF_lo h hl hh
  form := fun h => by
    rcases RowF_form h with ⟨h1, _, _⟩ | ⟨g, cap, e, _⟩
    · cases h1
    · exact ⟨_, _, _, e⟩

set_option maxHeartbeats 1000000 in
set_option maxRecDepth 100000 in
theorem toKs_gen (bare : Bool) (Q : World → Nat → Nat → Cr → Value → Prop) (ρ : Value → Value → Prop) (q : ChartQ Q)
    (qρ : ∀ (w w' : World) (lo hi lo' hi' : Nat) (k k' : Cr) (c c' : Value), Q w lo hi k c → Q w' lo' hi' k' c' → hi ≤ lo' → ρ c c')
    (qto : ∀ (k : Cr) (c : Value) (u : World), RdP u c k.ch → k.ch.length ≤ 1000000 → Calls Tryz.prog 62 #[.agg #[.string k.nm, .int .i64 k.x, .int .i64 k.y, .int .i64 k.h, .int .i64 k.j, .int .i64 k.b, c], .bool bare] u fun e w' => ∃ c', e = .returned (.agg #[.string k.nm, .int .i64 k.x, .int .i64 k.y, .int .i64 k.h, .int .i64 k.j, .int .i64 k.b, c']) ∧ Q w' u.heap.size w'.heap.size k c' ∧ Below u.heap.size u w')
    (v : Value) (ks : List (Cr × Value)) (w : World) (h : RdK w v ks) (hn : ks.length ≤ 1000000) (hbare : bare = false ∨ ks ≠ []) (hch : ∀ p ∈ ks, p.1.ch.length ≤ 1000000) :
    Calls Tryz.prog 35 #[v, .bool bare] w fun e w' => ∃ v', e = .returned v' ∧ SiteQ Q ρ w' w.heap.size w'.heap.size v' (ks.map (·.1)) ∧ Below w.heap.size w w' := by
  obtain ⟨A, c, rfl, hl, r1⟩ := RdK_at h
  clear h
  have R := Lib.hid r1; clear r1
  have hr := roomL_le ks.length
  obtain ⟨N, hN⟩ : ∃ N, N = ks.length + roomL ks.length := ⟨_, rfl⟩
  have hmk : ∀ w : World, (Instr.makeSlice 34 (.int .i64 ((ks.length : Int) + (roomL ks.length : Int))) (.int .i64 ((ks.length : Int) + (roomL ks.length : Int)))).run Tryz.prog w = .ok (.slice (some ⟨w.heap.size, 0, none⟩) N N) (w.alloc (.cells (madeCells #[.string ⟨#[]⟩, .int .i64 0, .int .i64 0, .int .i64 0, .int .i64 0, .int .i64 0, .slice none 0 0] (N * 7)) 88)) := by
    intro w
    have := make_cranes N (by omega) w
    rwa [show ((N : Nat) : Int) = (ks.length : Int) + (roomL ks.length : Int) by omega] at this
  have hcap : N ≤ maxLen := by unfold maxLen; omega
  have hrow0 : ∀ wa : World, w.heap.size ≤ wa.heap.size → (wa.alloc (.cells (madeCells #[.string ⟨#[]⟩, .int .i64 0, .int .i64 0, .int .i64 0, .int .i64 0, .int .i64 0, .slice none 0 0] (N * 7)) 88)).ownsRow w.heap.size 88 7 (.slice (some ⟨wa.heap.size, 0, none⟩) N N) N (flatK ([] ++ List.replicate N zeroK)) := by
    intro wa hwa
    have := World.ownsRow_lit wa (e := 88) (size := 7) (madeCells #[.string ⟨#[]⟩, .int .i64 0, .int .i64 0, .int .i64 0, .int .i64 0, .int .i64 0, .slice none 0 0] (N * 7)) N hwa hcap (size_madeCells _ _)
    rw [madeK_flat] at this
    simpa using this
  have Hrow := Lib.hid hrow0; clear hrow0
  have hb0 : bare = true → ((ks.length : Int) == 0) = false := by
    intro hb
    have : ks.length ≠ 0 := fun h => by
      rcases hbare with h1 | h1
      · rw [hb] at h1; cases h1
      · exact h1 (List.eq_nil_of_length_eq_zero h)
    simpa using this
  clear hbare
  have HN := Lib.hid hN
  have hNb : N ≤ 2000002 ∧ ks.length ≤ N ∧ 0 < N := by
    refine ⟨by omega, by omega, ?_⟩
    rcases Nat.eq_zero_or_pos ks.length with h0 | h0
    · rw [h0] at hN; simp [roomL] at hN; omega
    · omega
  clear hN
  have HQ := Lib.hid q; clear q
  have HQT := Lib.hid qto; clear qto
  have HQR := Lib.hid qρ; clear qρ
  have HCH := Lib.hid hch; clear hch
  cases bare
  all_goals
    have hbn := hb0
    simp only [forall_const, reduceCtorEq, false_implies, Bool.false_eq_true] at hbn
    clear hb0
    go_enter Tryz.func35, Tryz.ntmps35
    go_wp2_with (go_at_call 48; refine (room_any _ (by omega) _).mono ?_; rintro e w1 ⟨rfl, rfl⟩)
    go_loopw [6] (fun i wr => ∃ (j : Nat) (T : List (Cr × Value)), j ≤ ks.length ∧ i = .int .i64 j ∧ T.length = j ∧ T.map (·.1) = (ks.take j).map (·.1) ∧ wr.ownsRow w.heap.size 88 7 (.slice (some ⟨w.heap.size, 0, none⟩) N N) N (flatK (T ++ List.replicate (N - j) zeroK)) ∧ (∀ p ∈ T, Q wr (w.heap.size + 1) wr.heap.size p.1 p.2) ∧ T.Pairwise (fun p q => ρ p.2 q.2) ∧ w.heap.size < wr.heap.size ∧ Below w.heap.size w wr) (fun i _ => ks.length - (intOf i).toNat)
    case atStart => exact ⟨0, [], by omega, rfl, rfl, by simp, Hrow.out w (Nat.le_refl _), (fun p hp => by cases hp), List.Pairwise.nil, by simp, by go_grown⟩
    case round =>
      obtain ⟨j, T, hj, rfl, hTl, hTm, hown, hT, hTp, hlw, hb⟩ := hrel
      have hsz := hb.size
      by_cases hlt : j < ks.length
      · obtain ⟨b, off, rfl, hk⟩ := R.out j hlt
        have hkch := HCH.out ks[j] (List.getElem_mem hlt)
        have hk := CrAt_kept hk hb
        have htk : (ks.take (j + 1)).map (·.1) = (ks.take j).map (·.1) ++ [ks[j].1] := by rw [← List.take_append_getElem hlt, List.map_append]; rfl
        generalize ks[j].1 = k at *
        generalize ks[j].2 = cv at *
        obtain ⟨hlb, ⟨c0, c1, c2, c3, c4, c5, c6⟩, hrc⟩ := hk
        obtain ⟨A2, cp2, rfl, _, _⟩ := RdP_slice hrc
        have HRC := Lib.hid hrc; clear hrc
        have HT := Lib.hid hT; clear hT
        have HTP := Lib.hid hTp; clear hTp
        have HTM := Lib.hid hTm; clear hTm
        have HTK := Lib.hid htk; clear htk
        have HOWN := Lib.hid hown; clear hown
        go_wp2_with fail
        refine (HQT.out k _ wr HRC.out hkch).mono ?_
        rintro e w1 ⟨c', rfl, hq, hb1⟩
        obtain ⟨A3, n3, cp3, rfl⟩ := HQ.out.form hq
        have hown1 := own_kept HOWN.out hb1
        obtain ⟨x0, x1, x2, x3, x4, x5, x6, g0, g1, g2, g3, g4, g5, g6⟩ := row_cellsK hown1 j (by omega)
        have z0 := hown1.frozenAt (j * 7)
        have z1 := hown1.frozenAt (j * 7 + 1)
        have z2 := hown1.frozenAt (j * 7 + 2)
        have z3 := hown1.frozenAt (j * 7 + 3)
        have z4 := hown1.frozenAt (j * 7 + 4)
        have z5 := hown1.frozenAt (j * 7 + 5)
        have z6 := hown1.frozenAt (j * 7 + 6)
        have hst := row_setK7 hown1 j (k, Value.slice A3 n3 cp3)
        rw [show N - j = (N - (j + 1)) + 1 by omega, ← hTl, set_mid, hTl] at hst
        have hcq := fun lo hi k' c' (h : Q w1 lo hi k' c') (hb : w.heap.size < lo) => ChartQ_setK7 HQ.out (o := j * 7) (p := (k, Value.slice A3 n3 cp3)) h hb
        unfold setK7 at hst hcq
        dsimp only at hst hcq
        have HST := Lib.hid hst; clear hst hown1
        have HCQ := Lib.hid hcq; clear hcq
        have HQN := Lib.hid hq; clear hq
        have hsz1 := hb1.size
        have HB := Lib.hid (kept_trans hb hb1)
        have HB1 := Lib.hid hb1
        go_wp2
        go_roundw
        case rel =>
          refine ⟨j + 1, T ++ [(k, Value.slice A3 n3 cp3)], by omega, by go_num, by simp [hTl], by rw [HTK.out, List.map_append, HTM.out]; rfl, HST.out.1, ?_, ?_, by simp; omega, grown_below HB.out HST.out.2 (fun g hg => by simp at hg; omega)⟩
          · intro p hp
            refine HQ.out.wide (HCQ.out (w.heap.size + 1) w1.heap.size _ _ ?_ (Nat.lt_succ_self _)) (Nat.le_refl _) (by simp)
            rcases List.mem_append.1 hp with hp | hp
            · exact HQ.out.wide (HQ.out.kept (HT.out p hp) HB1.out) (Nat.le_refl _) hsz1
            · rw [List.mem_singleton.1 hp]
              exact HQ.out.wide HQN.out (by omega) (Nat.le_refl _)
          · refine List.pairwise_append.2 ⟨HTP.out, List.pairwise_singleton _ _, fun p hp p' hp' => ?_⟩
            rw [List.mem_singleton.1 hp']
            exact HQR.out _ _ _ _ _ _ _ _ _ _ (HT.out p hp) HQN.out (Nat.le_refl _)
        case measure => simp [intOf]; omega
      · have : j = ks.length := by omega
        subst this
        have hTm2 : T.map (·.1) = ks.map (·.1) := by rw [hTm, List.take_length]
        have hrep : N - ks.length = roomL ks.length := by have := HN.out; omega
        have HTM := Lib.hid hTm2; clear hTm hTm2
        have HT0 := Lib.hid hT; clear hT
        have HTP := Lib.hid hTp; clear hTp
        have HREP := Lib.hid hrep
        go_wp2_with fail
        go_loopw [7] (fun i wr => ∃ (M : Nat) (S : List (Cr × Value)), M ≤ N ∧ i = .int .i64 (M : Int) ∧ ks.length + S.length = M ∧ S.map (·.1) = List.replicate S.length fillK ∧ wr.ownsRow w.heap.size 88 7 (.slice (some ⟨w.heap.size, 0, none⟩) N N) N (flatK ((T ++ S) ++ List.replicate (N - M) zeroK)) ∧ (∀ p ∈ T, Q wr (w.heap.size + 1) wr.heap.size p.1 p.2) ∧ (∀ p ∈ S, fillQ wr (w.heap.size + 1) wr.heap.size p.1 p.2) ∧ w.heap.size < wr.heap.size ∧ Below w.heap.size w wr) (fun i _ => N - (intOf i).toNat)
        case atStart => exact ⟨ks.length, [], by omega, rfl, by simp, rfl, by simpa using hown, HT0.out, (fun p hp => by cases hp), hlw, hb⟩
        case round =>
          obtain ⟨M, S, hm, rfl, hSl, hSm, hown, hT, hS, hlw, hb⟩ := hrel
          have hsz := hb.size
          by_cases hlt : M < N
          · have HT := Lib.hid hT; clear hT
            have HSS := Lib.hid hS; clear hS
            have HSM := Lib.hid hSm; clear hSm
            have HOWN := Lib.hid hown; clear hown
            go_wp2_with fail
            refine (fillK_any wr).mono ?_
            rintro e w1 ⟨c', rfl, hq, hb1⟩
            obtain ⟨A3, n3, cp3, rfl⟩ := fillQ_ok.form (k := fillK) hq
            have hown1 := own_kept HOWN.out hb1
            obtain ⟨x0, x1, x2, x3, x4, x5, x6, g0, g1, g2, g3, g4, g5, g6⟩ := row_cellsK hown1 M (by omega)
            have z0 := hown1.frozenAt (M * 7)
            have z1 := hown1.frozenAt (M * 7 + 1)
            have z2 := hown1.frozenAt (M * 7 + 2)
            have z3 := hown1.frozenAt (M * 7 + 3)
            have z4 := hown1.frozenAt (M * 7 + 4)
            have z5 := hown1.frozenAt (M * 7 + 5)
            have z6 := hown1.frozenAt (M * 7 + 6)
            have hst := row_setK7 hown1 M (fillK, .slice A3 n3 cp3)
            have hTS : M = (T ++ S).length := by simp [hTl]; omega
            have hset := set_mid (T ++ S) zeroK (fillK, Value.slice A3 n3 cp3) (N - (M + 1))
            rw [← hTS] at hset
            rw [show N - M = (N - (M + 1)) + 1 by omega, hset] at hst
            have hcq := fun lo hi k' c' (h : Q w1 lo hi k' c') (hb : w.heap.size < lo) => ChartQ_setK7 HQ.out (o := M * 7) (p := (fillK, Value.slice A3 n3 cp3)) h hb
            have hcf := fun lo hi k' c' (h : fillQ w1 lo hi k' c') (hb : w.heap.size < lo) => ChartQ_setK7 fillQ_ok (o := M * 7) (p := (fillK, Value.slice A3 n3 cp3)) h hb
            clear hset
            unfold setK7 at hst hcq hcf
            dsimp only at hst hcq hcf
            have hwf : (Value.agg #[.string ⟨#[126, 115, 112, 97, 114, 101, 126]⟩, .int .i64 (-7000000000000000101), .int .i64 (-7000000000000000101), .int .i64 (-7000000000000000101), .int .i64 (-7000000000000000101), .int .i64 (-7000000000000000101), .slice A3 n3 cp3]) = .agg #[.string fillK.nm, .int .i64 fillK.x, .int .i64 fillK.y, .int .i64 fillK.h, .int .i64 fillK.j, .int .i64 fillK.b, .slice A3 n3 cp3] := rfl
            rw [hwf]
            clear hwf
            have hfm : fillK = (⟨fillK.nm, fillK.x, fillK.y, fillK.h, fillK.j, fillK.b, fillK.ch⟩ : Cr) := rfl
            have HFM := Lib.hid hfm; clear hfm
            have HST := Lib.hid hst; clear hst hown1
            have HCQ := Lib.hid hcq; clear hcq
            have HCF := Lib.hid hcf; clear hcf
            have HQN := Lib.hid hq; clear hq
            have hsz1 := hb1.size
            have HB := Lib.hid (kept_trans hb hb1)
            have HB1 := Lib.hid hb1
            have HSL := Lib.hid hSl
            have HOW2 := Lib.hid hTl
            clear hTS hSl hTl
            go_wp2
            go_roundw
            case rel =>
              have hSl := HSL.out
              refine ⟨M + 1, S ++ [(fillK, Value.slice A3 n3 cp3)], by omega, by go_num, by simp; omega, ?_, ?_, ?_, ?_, by simp; omega, grown_below HB.out HST.out.2 (fun g hg => by simp at hg; omega)⟩
              · rw [List.map_append, HSM.out, List.length_append, List.length_singleton, List.replicate_succ']; rfl
              · rw [← List.append_assoc]; exact HST.out.1
              · intro p hp
                exact HQ.out.wide (HCQ.out (w.heap.size + 1) w1.heap.size _ _ (HQ.out.wide (HQ.out.kept (HT.out p hp) HB1.out) (Nat.le_refl _) hsz1) (Nat.lt_succ_self _)) (Nat.le_refl _) (by simp)
              · intro p hp
                refine fillQ_ok.wide (k := p.1) (HCF.out (w.heap.size + 1) w1.heap.size p.1 _ ?_ (Nat.lt_succ_self _)) (Nat.le_refl _) (by simp)
                rcases List.mem_append.1 hp with hp | hp
                · exact fillQ_ok.wide (k := p.1) (fillQ_ok.kept (k := p.1) (HSS.out p hp) HB1.out) (Nat.le_refl _) hsz1
                · rw [List.mem_singleton.1 hp]
                  exact fillQ_ok.wide (k := fillK) HQN.out (by omega) (Nat.le_refl _)
            case measure => simp [intOf]; omega
          · have : M = N := by omega
            subst this
            have hSl2 : S.length = roomL ks.length := by have := HN.out; omega
            have hTS : (T ++ S).length = M := by simp [hTl, hSl2]; exact HN.out.symm
            have HT := Lib.hid hT; clear hT
            have HSS := Lib.hid hS; clear hS
            have HSM := Lib.hid hSm; clear hSm
            have HOWN := Lib.hid hown; clear hown
            have HTS := Lib.hid hTS; clear hTS
            have HSL := Lib.hid hSl2; clear hSl2 hSl hrep
            have HTL := Lib.hid hTl; clear hTl
            go_wp2
            go_ret
            have hTS := HTS.out
            have hSl2 := HSL.out
            refine ⟨_, rfl, ⟨by simpa using hn, w.heap.size, T, S, ?_, Nat.le_refl _, HTM.out, ?_, ?_, HT.out, fun p hp => HSS.out p hp, HTP.out⟩, hb⟩
            · rw [hTS, List.length_map]; rfl
            · rw [List.length_map, HSM.out, hSl2]
            · have h := HOWN.out
              rw [Nat.sub_self, List.replicate_zero, List.append_nil] at h
              rw [hTS]
              exact ⟨h, fun g hg => by simp [Value.ownBlock] at hg; subst hg; exact ⟨Nat.le_refl _, hlw⟩⟩

end Go.Proofs.YtnflaeimiegepabGreatDoor
