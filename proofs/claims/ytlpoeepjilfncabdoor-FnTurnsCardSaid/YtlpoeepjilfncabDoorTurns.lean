/- Proved: for every input the law FnTurns returns true, and each argument reads afterwards as it read before; no condition beside those of the given row. -/
import Derived.Test.YtlpoeepjilfncabDoorRows
import Derived.WalkKit
import Derived.ProofKit
import Derived.OpenShut
import Derived.Lib.Hide
import Derived.Handy
import Derived.BigQuiet
import Derived.Carry
import Derived.ChangeSlices
import Derived.Deep.Draws
import Derived.Deep.QuietTactic
import Derived.Deep.RegionHeld3
import Derived.Laws.ResultCell
import Derived.Lib.LaidTab
import Derived.Lib.SmallJoins
import Derived.OwnWalk
import Derived.WalkLawsBesides
import Derived.Test.YtlpoeepjilfncabDoorCards
import Derived.Test.YtlpoeepjilfncabDoorTie
import Derived.Lib.SmallJoins
import Derived.ChangeMaps5
import Derived.Deep.DeepHandedRow
import Derived.Deep.DeepWitnessRowRef
import Derived.Lib.LaidTab
import Derived.SevenTiedAt
namespace Go.Proofs.YtlpoeepjilfncabDoor
open Go.ChangeShapes Go.WideShapes Go.ChangeAt Go.RowKit
set_option linter.unusedVariables false
set_option linter.unusedSimpArgs false

theorem tmod_pos (n k : Int) (h : 0 ≤ n) : n.tmod k = n % k := Int.tmod_eq_emod_of_nonneg h

theorem tmod_bd (n k : Int) (hk : 0 < k) : -k < n.tmod k ∧ n.tmod k < k ∧ ∃ q, n = k * q + n.tmod k := by
  refine ⟨Int.lt_tmod_of_pos n hk, Int.tmod_lt_of_pos n hk, n.tdiv k, ?_⟩
  have := Int.mul_tdiv_add_tmod n k
  omega

theorem trodAll_stay {H : Type} {enc : TypeId × Value → H} {P : Program} (hl : laidOutB P = true) {W W' : World} (hb : Below W.heap.size W W') :
    ∀ (ts : List TypeId) (vs : List Value) (ds : List (DataW H)) (ps : List MemPlace), ts.all (fun t => P.readableRec t && decide (t < P.types.size)) = true →
      DataW.TrodAll enc P W 0 (fun _ => true) true ts vs ds ps → (∀ x ∈ ps, x.block < W.heap.size) →
      DataW.TrodAll enc P W' 0 (fun b => decide (b < W.heap.size)) true ts vs ds ps := by
  intro ts
  induction ts with
  | nil => intro vs ds ps _ h _; obtain ⟨rfl, rfl, rfl⟩ := trodAll_nil h; exact rfl
  | cons t ts ih =>
    intro vs ds ps hr h hlt
    simp only [List.all_cons, Bool.and_eq_true, decide_eq_true_eq] at hr
    obtain ⟨v, vs', d, ds', p, q, rfl, rfl, rfl, h0, h1⟩ := trodAll_cons h
    exact ⟨p, q, Below.trod hl hr.1.1 hr.1.2 h0 hb (fun x hx => hlt x (by simp [hx])), ih _ _ _ hr.2 h1 (fun x hx => hlt x (by simp [hx])), rfl⟩

/-- Each variable's type is one that can be read. -/
def varsOk (P : Program) (ns : List String) : Bool := ns.all fun n => match P.globalNamed n with
  | some g => (match (P.globals[g]?).map (·.type) with | some t => P.readableRec t && decide (t < P.types.size) | none => true)
  | none => true

theorem trodVars_stay {H : Type} {enc : TypeId × Value → H} {P : Program} (hl : laidOutB P = true) {W W' : World} (hb : Below W.heap.size W W') :
    ∀ (ns : List String) (gs : List (DataW H)) (ps : List MemPlace), varsOk P ns = true → DataW.TrodVars enc P W (fun _ => true) ns gs ps → (∀ x ∈ ps, x.block < W.heap.size) →
      DataW.TrodVars enc P W' (fun b => decide (b < W.heap.size)) ns gs ps := by
  intro ns
  induction ns with
  | nil => intro gs ps _ h _; obtain ⟨rfl, rfl⟩ := trodVars_none h; exact rfl
  | cons n ns ih =>
    intro gs ps hv h hlt
    cases gs with
    | nil => exact h.elim
    | cons d gs =>
      obtain ⟨g, t, cs, fuel, p, q, hg, ht, hvar, hd, hr, rfl⟩ := h
      simp only [varsOk, List.all_cons, Bool.and_eq_true] at hv
      have hv1 := hv.1
      rw [hg] at hv1
      simp only [ht, Bool.and_eq_true, decide_eq_true_eq] at hv1
      have hgl : g < W.heap.size := by
        simp only [World.var?, hg, Option.bind_some] at hvar
        rcases Nat.lt_or_ge g W.heap.size with hlt | hge
        · exact hlt
        · rw [Array.getElem?_eq_none hge] at hvar; simp at hvar
      have h0 : DataW.Trod enc P W 0 (fun _ => true) true t (.agg cs) d p := ⟨fuel, by simpa [Value.cells] using hd⟩
      obtain ⟨fuel', hd'⟩ := Below.trod hl hv1.1 hv1.2 h0 hb (fun x hx => hlt x (by simp [hx]))
      refine ⟨g, t, cs, fuel', p, q, hg, ht, ?_, by simpa [Value.cells] using hd', ih _ _ hv.2 hr (fun x hx => hlt x (by simp [hx])), rfl⟩
      simp only [World.var?, hg, Option.bind_some] at hvar ⊢
      rw [hb.block g hgl]
      exact hvar

/-- A law's row at its end, the listed variables too: it returned true, and of what was there nothing has turned. -/
theorem law_postV {H : Type} {enc : TypeId × Value → H} {P : Program} {f : Func} {s : ChangeSpec} {W W' : World} {args : Array Value} {ds gs : List (DataW H)} {before : List MemPlace} {B : TypeId}
    (hl : laidOutB P = true) (hr : f.params.toList.all (fun t => P.readableRec t && decide (t < P.types.size)) = true) (hvs : varsOk P s.vars = true)
    (hres : f.resultTypes = #[B]) (hB : P.underlying B = some .bool)
    (hW : DataW.Whole enc P f.params.toList s.vars false W args.toList ds gs before)
    (hfn : s.fn H (ds ++ gs) = { results := [.lit (.bool true)], args := ds, vars := gs }) (hb : Below W.heap.size W W') :
    s.post enc P f false true false false W args (.bool true) W' := by
  have hlt : ∀ p ∈ before, p.block < W.heap.size := fun p hp => hW.lt p hp
  have hW' := hW
  obtain ⟨p, q, hA, hV, rfl, _, _⟩ := hW'
  refine ⟨ds, gs, p ++ q, [], p, q, hW, ?_, ?_, ?_, hb.frame _, fun h => by cases h⟩
  · rw [hfn, hres]
    exact trodAll_cons_mk (shut_bool hB _) trodAll_mk0
  · rw [hfn]
    exact trodAll_stay hl hb _ _ _ _ hr hA (fun x hx => hlt x (by simp [hx]))
  · rw [hfn]
    exact trodVars_stay hl hb _ _ _ hvs hV (fun x hx => hlt x (by simp [hx]))

/-- An array of pairs of numbers that reads as a list holds its numbers, cell for cell. -/
theorem cells_of_pairs {H : Type} {enc : TypeId × Value → H} {P : Program} {w : World} {base : Nat} {sp : Nat → Bool} {held : Bool} {fuel : Nat} {t e : TypeId} {n : Nat} {f0 f1 : Field} {cs : List Value} {zs : List (Int × Int)} {p : List MemPlace}
    (ht : P.underlying t = some (.array n e)) (he : P.underlying e = some (.struct #[f0, f1])) (h0 : P.underlying f0.type = some (.int .i64)) (h1 : P.underlying f1.type = some (.int .i64))
    (hce : P.cellsOf e = 2) (c0 : P.cellsOf f0.type = 1) (c1 : P.cellsOf f1.type = 1) (o0 : f0.offset = 0) (o1 : f1.offset = 1)
    (h : DataW.trod enc P w base sp held fuel t cs = some (.agg (zs.map fun z => .agg [.lit (.int .i64 z.1), .lit (.int .i64 z.2)]), p)) :
    ∀ k, (hk : k < zs.length) → cs[2 * k]? = some (.int .i64 zs[k].1) ∧ cs[2 * k + 1]? = some (.int .i64 zs[k].2) := by
  obtain ⟨xs, m, _, hx, _, hxl, hel⟩ := DataW.trod_array ht h
  have hm : zs.map (fun z => (.agg [.lit (.int .i64 z.1), .lit (.int .i64 z.2)] : DataW H)) = xs.map (·.1) := by
    have := congrArg Prod.fst hx
    simpa using this
  have hlen : zs.length = xs.length := by simpa using congrArg List.length hm
  intro k hk
  have hk' : k < xs.length := by omega
  have hs := hel k (by omega)
  rw [List.getElem?_eq_getElem hk'] at hs
  have hd : (xs[k]).1 = .agg [.lit (.int .i64 zs[k].1), .lit (.int .i64 zs[k].2)] := by
    have := congrArg (·[k]?) hm
    simp [hk, hk'] at this
    exact this.symm
  obtain ⟨y0, y1, m', hy, _, g0, g1⟩ := trod_struct2 he hs
  obtain ⟨a, e0, rfl, _⟩ := DataW.trod_int h0 g0
  obtain ⟨b, e1, rfl, _⟩ := DataW.trod_int h1 g1
  rw [hy] at hd
  simp at hd
  rw [o0, c0, hce] at e0
  rw [o1, c1, hce] at e1
  rw [← hd.1, ← hd.2]
  refine ⟨?_, ?_⟩
  · have := congrArg (·[0]?) e0
    simpa [List.getElem?_take, List.getElem?_drop, Nat.mul_comm] using this
  · have := congrArg (·[0]?) e1
    simpa [List.getElem?_take, List.getElem?_drop, Nat.mul_comm] using this

theorem vars_one {H : Type} {enc : TypeId × Value → H} {P : Program} {W : World} {sp : Nat → Bool} {n : String} {gs : List (DataW H)} {q : List MemPlace} (h : DataW.TrodVars enc P W sp [n] gs q) : ∃ g1, gs = [g1] := by
  cases gs with
  | nil => exact h.elim
  | cons g gs =>
    obtain ⟨_, _, _, _, _, _, _, _, _, _, hr, _⟩ := h
    obtain ⟨rfl, _⟩ := trodVars_none hr
    exact ⟨_, rfl⟩

theorem kept_cell {W w1 : World} (hb : Below W.heap.size W w1) (b o : Nat) (h : b < W.heap.size) : w1.cell? ⟨b, o, none⟩ = W.cell? ⟨b, o, none⟩ := hb.cell (p := ⟨b, o, none⟩) h

theorem kept_frozen {W w1 : World} (hb : Below W.heap.size W w1) (b o : Nat) (h : b < W.heap.size) : w1.frozen? ⟨b, o, none⟩ = W.frozen? ⟨b, o, none⟩ := hb.frozen (p := ⟨b, o, none⟩) h

theorem kept_trans {a b c : World} (h : Below a.heap.size a b) (k : Below b.heap.size b c) : Below a.heap.size a c := h.trans (k.mono h.size)

theorem kept_at {W w1 : World} (hb : Below W.heap.size W w1) (b : Nat) {G : Prop} (h : b < W.heap.size)
    (k : (∀ o, w1.cell? ⟨b, o, none⟩ = W.cell? ⟨b, o, none⟩) → (∀ o, w1.frozen? ⟨b, o, none⟩ = W.frozen? ⟨b, o, none⟩) → b < w1.heap.size → G) : G :=
  k (fun o => kept_cell hb b o h) (fun o => kept_frozen hb b o h) (Nat.lt_of_lt_of_le h hb.size)

theorem kept_drewN {B : Nat} {a w : World} (h : Below B a w) (n : Nat) : Below B a (w.drewN n) := { os := h.os, tape := h.tape, output := h.output, size := h.size, block := h.block }

theorem grown_step {a b c : World} {row : Option Nat} (h : a.grownBy b row) (k : b.grownBy c row) : a.grownBy c row :=
  ⟨k.os.trans h.os, k.tape.trans h.tape, k.output.trans h.output, Nat.le_trans h.size k.size, fun i hi hne => (k.block i (Nat.lt_of_lt_of_le hi h.size) hne).trans (h.block i hi hne)⟩

theorem grown_below {a b c : World} {row : Option Nat} (h : Below a.heap.size a b) (k : b.grownBy c row) (hr : ∀ g, row = some g → a.heap.size ≤ g) : Below a.heap.size a c := h.grown k h.size hr

theorem results_cell1 {fn : Func} {p : Tmp} {ty : TypeId} (h : fn.results = #[.cell p ty]) (tmps : Array Value) (P : Program) (w : World) :
    (results fn tmps).run P w = ((asAddr (tmps.getD p undef)).run P w).andThen fun a w₁ => (loadVar ty a).run P w₁ := by
  simp only [results, h]
  simp [Sem.run_bind, Result.andThen]

def inB (n low high : Int) : Bool := decide (low ≤ n) && decide (n ≤ high)

theorem in_any (n low high : Int) (w : World) :
    Calls Tryd.prog 67 #[.int .i64 n, .int .i64 low, .int .i64 high] w fun e w' => e = .returned (.bool (inB n low high)) ∧ w = w' := by
  unfold inB
  by_cases h1 : low ≤ n <;> by_cases h2 : n ≤ high <;>
  · go_enter Tryd.func67, Tryd.ntmps67
    go_wp2
    go_ret
    exact ⟨by simp [*], rfl⟩

theorem mod_any (n : Int) (h1 : -1000000 ≤ n) (h2 : n ≤ 1000000) (w : World) :
    Calls Tryd.prog 111 #[.int .i64 n] w fun e w' => e = .returned (.int .i64 (n % 24)) ∧ w = w' := by
  have hb := tmod_bd n 24 (by omega)
  go_enter Tryd.func111, Tryd.ntmps111
  go_wp2
  go_ret
  have e1 : wrap64 (n.tmod 24 + 24) = n.tmod 24 + 24 := IntWalk.wrap64_in _ (by omega)
  have e2 := tmod_pos (n.tmod 24 + 24) 24 (by omega)
  exact ⟨by simp [e1, e2]; omega, rfl⟩

theorem dir_any (n : Int) (w : World) :
    Calls Tryd.prog 66 #[.int .i64 n] w fun e w' => e = .returned (.bool (inB n 0 23)) ∧ w = w' := by
  go_enter Tryd.func66, Tryd.ntmps66
  go_wp2_with (go_at_call 67; refine (in_any _ _ _ _).mono ?_; rintro e w' ⟨rfl, rfl⟩)
  go_ret
  exact ⟨rfl, rfl⟩

theorem valid_any (n : Int) (w : World) :
    Calls Tryd.prog 69 #[.int .i64 n] w fun e w' => e = .returned (.bool (inB n 0 23)) ∧ w = w' := by
  unfold inB
  by_cases h1 : 0 ≤ n <;> by_cases h2 : n < 24 <;>
  · go_enter Tryd.func69, Tryd.ntmps69
    go_wp2
    go_ret
    exact ⟨by simp [*]; try omega, rfl⟩

theorem validTurn_any (n : Int) (w : World) :
    Calls Tryd.prog 72 #[.int .i64 n] w fun e w' => e = .returned (.bool (inB n (-1000) 1000)) ∧ w = w' := by
  unfold inB
  by_cases h1 : -1000 ≤ n <;> by_cases h2 : n ≤ 1000 <;>
  · go_enter Tryd.func72, Tryd.ntmps72
    go_wp2
    go_ret
    exact ⟨by simp [*], rfl⟩

theorem turned_any (h b : Int) (h1 : -1000 ≤ h) (h2 : h ≤ 1000) (h3 : -1000 ≤ b) (h4 : b ≤ 1000) (w : World) :
    Calls Tryd.prog 73 #[.int .i64 h, .int .i64 b] w fun e w' => e = .returned (.int .i64 ((h + b) % 24)) ∧ w = w' := by
  have hb := tmod_bd (h + b) 24 (by omega)
  go_enter Tryd.func73, Tryd.ntmps73
  go_wp2
  go_ret
  exact ⟨by simp; omega, rfl⟩

theorem inB_true {n a b : Int} (h : inB n a b = true) : a ≤ n ∧ n ≤ b := by simpa [inB] using h

def turnByL (d b : Int) : Int × Int := if inB d 0 23 && inB b (-1000) 1000 then ((d + b) % 24, 0) else (0, 2)

theorem implTurnBy_any (d b : Int) (w : World) :
    Calls Tryd.prog 31 #[.int .i64 d, .int .i64 b] w fun e w' => e = .returned (.tuple #[.int .i64 (turnByL d b).1, .int .i64 (turnByL d b).2]) ∧ w = w' := by
  unfold turnByL
  cases h1 : inB d 0 23 <;> cases h2 : inB b (-1000) 1000
  case true.true =>
    have g1 := inB_true h1
    have g2 := inB_true h2
    go_enter Tryd.func31, Tryd.ntmps31
    go_wp2_with (first | (go_at_call 69; refine (valid_any _ _).mono ?_; rintro e w' ⟨rfl, rfl⟩) | (go_at_call 72; refine (validTurn_any _ _).mono ?_; rintro e w' ⟨rfl, rfl⟩) | (go_at_call 73; refine (turned_any _ _ (by omega) (by omega) (by omega) (by omega) _).mono ?_; rintro e w' ⟨rfl, rfl⟩))
    go_ret2
    exact ⟨by simp [*], rfl⟩
  all_goals
    go_enter Tryd.func31, Tryd.ntmps31
    go_wp2_with (first | (go_at_call 69; refine (valid_any _ _).mono ?_; rintro e w' ⟨rfl, rfl⟩) | (go_at_call 72; refine (validTurn_any _ _).mono ?_; rintro e w' ⟨rfl, rfl⟩))
    go_ret2
    exact ⟨by simp [*], rfl⟩

def turnL (n : Int) : Int := if 12 < n % 24 then n % 24 - 24 else n % 24

def turnBetweenL (a b : Int) : Int × Int := if inB a 0 23 && inB b 0 23 then (turnL (b - a), 0) else (0, 2)

theorem l02Turn_any (a b : Int) (h1 : -1000 ≤ a ∧ a ≤ 1000) (h2 : -1000 ≤ b ∧ b ≤ 1000) (w : World) :
    Calls Tryd.prog 75 #[.int .i64 a, .int .i64 b] w fun e w' => e = .returned (.int .i64 (turnL (b - a))) ∧ w = w' := by
  unfold turnL
  by_cases h : 12 < (b - a) % 24
  all_goals
    go_enter Tryd.func75, Tryd.ntmps75
    go_wp2_with (go_at_call 111; refine (mod_any _ (by omega) (by omega) _).mono ?_; rintro e w1 ⟨rfl, rfl⟩)
    go_ret
    exact ⟨by simp [*], rfl⟩

theorem specTurnBetween_any (a b : Int) (w : World) :
    Calls Tryd.prog 35 #[.int .i64 a, .int .i64 b] w fun e w' => e = .returned (.tuple #[.int .i64 (turnBetweenL a b).1, .int .i64 (turnBetweenL a b).2]) ∧ w = w' := by
  unfold turnBetweenL
  cases h1 : inB a 0 23 <;> cases h2 : inB b 0 23
  case true.true =>
    have g1 := inB_true h1
    have g2 := inB_true h2
    go_enter Tryd.func35, Tryd.ntmps35
    go_wp2_with (first | (go_at_call 66; refine (dir_any _ _).mono ?_; rintro e w1 ⟨rfl, rfl⟩) | (go_at_call 75; refine (l02Turn_any _ _ (by omega) (by omega) _).mono ?_; rintro e w1 ⟨rfl, rfl⟩))
    go_ret2
    exact ⟨by simp [*], rfl⟩
  all_goals
    go_enter Tryd.func35, Tryd.ntmps35
    go_wp2_with (go_at_call 66; refine (dir_any _ _).mono ?_; rintro e w1 ⟨rfl, rfl⟩)
    go_ret2
    exact ⟨by simp [*], rfl⟩

theorem implTurnBetween_any (a b : Int) (w : World) :
    Calls Tryd.prog 32 #[.int .i64 a, .int .i64 b] w fun e w' => e = .returned (.tuple #[.int .i64 (turnBetweenL a b).1, .int .i64 (turnBetweenL a b).2]) ∧ w = w' := by
  unfold turnBetweenL turnL
  cases h1 : inB a 0 23 <;> cases h2 : inB b 0 23
  case true.true =>
    have g1 := inB_true h1
    have g2 := inB_true h2
    by_cases h : 12 < (b + -a) % 24
    all_goals
      go_enter Tryd.func32, Tryd.ntmps32
      go_wp2_with (first | (go_at_call 69; refine (valid_any _ _).mono ?_; rintro e w1 ⟨rfl, rfl⟩) | (go_at_call 73; refine (turned_any _ _ (by omega) (by omega) (by omega) (by omega) _).mono ?_; rintro e w1 ⟨rfl, rfl⟩))
      go_ret2
      exact ⟨by simp [h1, h2, Int.sub_eq_add_neg] <;> omega, rfl⟩
  all_goals
    go_enter Tryd.func32, Tryd.ntmps32
    go_wp2_with (go_at_call 69; refine (valid_any _ _).mono ?_; rintro e w1 ⟨rfl, rfl⟩)
    go_ret2
    exact ⟨by simp [*], rfl⟩

def okP (x y : Int) : Bool := inB x (-10000) 10000 && inB y (-10000) 10000

theorem okP_true {x y : Int} (h : okP x y = true) : (-10000 ≤ x ∧ x ≤ 10000) ∧ -10000 ≤ y ∧ y ≤ 10000 := by
  simp only [okP, Bool.and_eq_true] at h
  exact ⟨inB_true h.1, inB_true h.2⟩

theorem specOk_any (x y : Int) (w : World) :
    Calls Tryd.prog 41 #[.agg #[.int .i64 x, .int .i64 y]] w fun e w' => e = .returned (.bool (okP x y)) ∧ Below w.heap.size w w' := by
  unfold okP
  cases h1 : inB x (-10000) 10000 <;>
  · go_enter Tryd.func41, Tryd.ntmps41
    go_wp2_with (go_at_call 67; refine (in_any _ _ _ _).mono ?_; rintro e w' ⟨rfl, rfl⟩)
    go_ret
    exact ⟨by simp, by go_grown⟩

theorem validPlace_any (x y : Int) (w : World) :
    Calls Tryd.prog 45 #[.agg #[.int .i64 x, .int .i64 y]] w fun e w' => e = .returned (.bool (okP x y)) ∧ Below w.heap.size w w' := by
  unfold okP inB
  rcases (show ¬ -10000 ≤ x ∨ (-10000 ≤ x ∧ ¬ x ≤ 10000) ∨ (-10000 ≤ x ∧ x ≤ 10000 ∧ ¬ -10000 ≤ y) ∨ (-10000 ≤ x ∧ x ≤ 10000 ∧ -10000 ≤ y ∧ ¬ y ≤ 10000) ∨ (-10000 ≤ x ∧ x ≤ 10000 ∧ -10000 ≤ y ∧ y ≤ 10000) from by omega) with h1 | ⟨h1, h2⟩ | ⟨h1, h2, h3⟩ | ⟨h1, h2, h3, h4⟩ | ⟨h1, h2, h3, h4⟩
  all_goals
    go_enter Tryd.func45, Tryd.ntmps45
    go_wp2
    go_ret
    exact ⟨by simp [*] <;> omega, by go_grown⟩

theorem minus_any (x y u v : Int) (h1 : -20000 ≤ x ∧ x ≤ 20000) (h2 : -20000 ≤ y ∧ y ≤ 20000) (h3 : -20000 ≤ u ∧ u ≤ 20000) (h4 : -20000 ≤ v ∧ v ≤ 20000) (w : World) :
    Calls Tryd.prog 77 #[.agg #[.int .i64 x, .int .i64 y], .agg #[.int .i64 u, .int .i64 v]] w fun e w' => e = .returned (.agg #[.int .i64 (x - u), .int .i64 (y - v)]) ∧ Below w.heap.size w w' := by
  go_enter Tryd.func77, Tryd.ntmps77
  go_wp2
  go_returns
  exact ⟨rfl, by go_grown⟩

theorem scalar_any (x y u v : Int) (w : World) :
    Calls Tryd.prog 78 #[.agg #[.int .i64 x, .int .i64 y], .agg #[.int .i64 u, .int .i64 v]] w fun e w' => e = .returned (.int .i64 (wrap64 (wrap64 (x * u) + wrap64 (y * v)))) ∧ Below w.heap.size w w' := by
  go_enter Tryd.func78, Tryd.ntmps78
  go_wp2
  go_returns
  exact ⟨rfl, by go_grown⟩

theorem specValidPlace_any (x y : Int) (w : World) :
    Calls Tryd.prog 37 #[.agg #[.int .i64 x, .int .i64 y]] w fun e w' => e = .returned (.bool (okP x y)) ∧ Below w.heap.size w w' := by
  go_enter Tryd.func37, Tryd.ntmps37
  go_wp2_with (go_at_call 41; refine (specOk_any _ _ _).mono ?_; rintro e w1 ⟨rfl, hb⟩; have hs := hb.size; (try simp at hs); (try (refine kept_at hb (w.heap.size) ?_ (fun hc0 hz0 hs0 => ?_); focus go_size)); (try (refine kept_at hb (w.heap.size + 1) ?_ (fun hc1 hz1 hs1 => ?_); focus go_size)); (try (refine kept_at hb (w.heap.size + 2) ?_ (fun hc2 hz2 hs2 => ?_); focus go_size)); (try (refine kept_at hb (w.heap.size + 3) ?_ (fun hc3 hz3 hs3 => ?_); focus go_size)); (try (refine kept_at hb (w.heap.size + 4) ?_ (fun hc4 hz4 hs4 => ?_); focus go_size)); (try (refine kept_at hb (w.heap.size + 5) ?_ (fun hc5 hz5 hs5 => ?_); focus go_size)); replace hb := kept_trans (a := w) (by go_grown) hb; have hcl := kept_cell hb; have hzl := kept_frozen hb)
  go_ret
  exact ⟨rfl, by go_grown⟩

theorem info_int64 : (Tryd.prog.info? 2).map (fun i => (i.zero, i.size, i.bytes)) = some (some (.int .i64 0), 1, 8) := by kernel_rfl

/-- A row of numbers of the call's own, in a block from lo on and below hi. -/
def RowI (w : World) (lo hi : Nat) (v : Value) (zs : List Int) : Prop :=
  w.ownsRow lo 2 1 v zs.length (zs.map (Value.int .i64)) ∧ ∀ g, v.ownBlock = some g → lo ≤ g ∧ g < hi

theorem RowI_nil (w : World) (lo hi : Nat) : RowI w lo hi (.slice none 0 0) [] := ⟨World.ownsRow_nil _ _ _ _, fun g h => by simp [Value.ownBlock] at h⟩

theorem RowI_form {w : World} {lo hi : Nat} {v : Value} {zs : List Int} (h : RowI w lo hi v zs) :
    (zs = [] ∧ v = .slice none 0 0) ∨ ∃ g cap, v = .slice (some ⟨g, 0, none⟩) zs.length cap ∧ lo ≤ g ∧ g < hi ∧ g < w.heap.size ∧ zs.length ≤ cap ∧ cap ≤ maxLen := by
  rcases h.1.2 with ⟨h1, h2⟩ | ⟨g, cap, cur, rfl, hg, hh, h3, h4, _⟩
  · exact Or.inl ⟨List.eq_nil_of_length_eq_zero h2, h1⟩
  · exact Or.inr ⟨g, cap, rfl, hg, (h.2 g rfl).2, (h.1.lt g rfl).2, h3, h4⟩

def wayL (d s : Int) : Nat → List Int
  | 0 => [d]
  | n + 1 => wayL d s n ++ [(d + s * (n + 1)) % 24]

theorem wayL_len (d s : Int) (n : Nat) : (wayL d s n).length = n + 1 := by
  induction n with
  | zero => rfl
  | succ n ih => simp [wayL, ih]

/-- append of one number to a row of the call's own. -/
theorem wp_appendI {ops : Array Oper} {rest : List Oper} {o : Oper} {a : Act} {Q : Exit → Act → World → Prop} {W wr : World} (hgd : o.guard = none) (s x : Operand)
    (ho : o.op = .call { callee := .builtin .append, args := #[s, x], argTypes := #[28, 28] })
    (lo : Nat) (v : Value) (zs : List Int) (z : Int) (hs : a.eval s = v) (hrow : RowI wr lo wr.heap.size v zs) (hx : a.eval x = .slice (some ⟨wr.heap.size, 0, none⟩) 1 1)
    (hW : Below W.heap.size W wr) (hlo : W.heap.size ≤ lo) (hlo2 : lo ≤ wr.heap.size) (hn : zs.length < 17592186044416)
    (h : ∀ v' w', RowI w' lo w'.heap.size v' (zs ++ [z]) → Below W.heap.size W w' → wr.heap.size ≤ w'.heap.size → wpList Tryd.prog ops Q rest (a.put o.dst v') w') :
    wpList Tryd.prog ops Q (o :: rest) a (wr.alloc (.cells #[.int .i64 z] 2)) := by
  obtain ⟨i0, hi, hz0, hz1, hz2⟩ := info_parts info_int64
  refine wpList_append_own _ hgd s x _ ho lo 2 i0 (.int .i64 0) 1 8 Tryd.underlying28 hi hz0 hz1 hz2 rfl (by decide) v zs.length _ hs (hrow.1.alloc _) ⟨wr.heap.size, 0, none⟩ 1 1 [.int .i64 z] hx rfl ?_ ?_ ?_ ?_ ?_ ?_
  · intro j u hj
    cases j with
    | zero => simp at hj; subst hj; simp [Addr.add]
    | succ j => simp at hj
  · intro u hu; simp at hu; subst hu; rfl
  · unfold maxLen; omega
  · omega
  · simp; omega
  · intro v' w' hown hg _
    have e : (zs.map (Value.int .i64) ++ [.int .i64 z]) = (zs ++ [z]).map (Value.int .i64) := by simp
    rw [e] at hown
    have hrow' : RowI w' lo w'.heap.size v' (zs ++ [z]) := ⟨by simpa using hown, hown.lt⟩
    refine h v' w' hrow' ?_ (Nat.le_trans (by simp) hg.size)
    refine grown_below (hW.alloc hW.size _) hg (fun g hg2 => ?_)
    have := (hrow.2 g hg2).1
    omega

def wayAll (d b : Int) : List Int × Int := if inB d 0 23 && inB b (-1000) 1000 then (if 0 ≤ b then wayL d 1 b.toNat else wayL d (-1) (-b).toNat, 0) else ([], 2)

theorem implWay_up (d : Int) (N : Nat) (h1 : inB d 0 23 = true) (hN : N ≤ 1000) (w : World) :
    Calls Tryd.prog 33 #[.int .i64 d, .int .i64 N] w fun e w' => ∃ v, e = .returned (.tuple #[v, .int .i64 0]) ∧ RowI w' w.heap.size w'.heap.size v (wayL d 1 N) ∧ Below w.heap.size w w' := by
  have g1 := inB_true h1
  have h2 : inB (N : Int) (-1000) 1000 = true := by simp [inB]; omega
  go_enter Tryd.func33, Tryd.ntmps33
  go_wp2_with (first | (go_at_call 69; refine (valid_any _ _).mono ?_; rintro e w1 ⟨rfl, rfl⟩) | (go_at_call 72; refine (validTurn_any _ _).mono ?_; rintro e w1 ⟨rfl, rfl⟩))
  go_loopw [7, 8, 25] (fun o a k wr => ∃ j : Nat, j ≤ N ∧ k = .int .i64 j ∧ a = .int .i64 ((d + j) % 24) ∧ RowI wr w.heap.size wr.heap.size o (wayL d 1 j) ∧ Below w.heap.size w wr) (fun _ _ k _ => N - (intOf k).toNat)
  case atStart => exact ⟨0, by omega, rfl, by simp; omega, ⟨World.ownsRow_lit w #[.int .i64 d] 1 (Nat.le_refl _) (by decide) (by rfl), fun g hg => by simp [Value.ownBlock] at hg; subst hg; simp⟩, by go_grown⟩
  case round =>
    obtain ⟨j, hj, rfl, rfl, hrow, hb⟩ := hrel
    have hsz := hb.size
    by_cases hlt : j < N
    · have e : ((d + (j : Int)) % 24 + 1) % 24 = (d + 1 * ((j : Int) + 1)) % 24 := by omega
      go_wp2_with (first | (go_at_call 73; refine (turned_any _ _ (by omega) (by omega) (by omega) (by omega) _).mono ?_; rw [e]; rintro e w' ⟨rfl, rfl⟩) | (at_builtin; refine wp_appendI rfl (.tmp 30) (.tmp 32) rfl w.heap.size _ _ _ rfl hrow rfl hb (Nat.le_refl _) hsz (by rw [wayL_len]; omega) ?_; intro v' w' hrow' hb' _))
      go_roundw
      case rel => exact ⟨j + 1, by omega, by go_num, by congr 2 <;> omega, by simpa [wayL] using hrow', hb'⟩
      case measure => simp [intOf]; omega
    · have : j = N := by omega
      subst this
      go_wp2
      go_ret2
      exact ⟨_, rfl, hrow, hb⟩

theorem implWay_down (d : Int) (N : Nat) (h1 : inB d 0 23 = true) (h0 : 1 ≤ N) (hN : N ≤ 1000) (w : World) :
    Calls Tryd.prog 33 #[.int .i64 d, .int .i64 (-(N : Int))] w fun e w' => ∃ v, e = .returned (.tuple #[v, .int .i64 0]) ∧ RowI w' w.heap.size w'.heap.size v (wayL d (-1) N) ∧ Below w.heap.size w w' := by
  have g1 := inB_true h1
  have h2 : inB (-(N : Int)) (-1000) 1000 = true := by simp [inB]; omega
  have hneg : decide (0 < N) = true := by simp; omega
  go_enter Tryd.func33, Tryd.ntmps33
  go_wp2_with (first | (go_at_call 69; refine (valid_any _ _).mono ?_; rintro e w1 ⟨rfl, rfl⟩) | (go_at_call 72; refine (validTurn_any _ _).mono ?_; rintro e w1 ⟨rfl, rfl⟩))
  go_loopw [7, 8, 25] (fun o a k wr => ∃ j : Nat, j ≤ N ∧ k = .int .i64 j ∧ a = .int .i64 ((d + -(j : Int)) % 24) ∧ RowI wr w.heap.size wr.heap.size o (wayL d (-1) j) ∧ Below w.heap.size w wr) (fun _ _ k _ => N - (intOf k).toNat)
  case atStart => exact ⟨0, by omega, rfl, by simp; omega, ⟨World.ownsRow_lit w #[.int .i64 d] 1 (Nat.le_refl _) (by decide) (by rfl), fun g hg => by simp [Value.ownBlock] at hg; subst hg; simp⟩, by go_grown⟩
  case round =>
    obtain ⟨j, hj, rfl, rfl, hrow, hb⟩ := hrel
    have hsz := hb.size
    by_cases hlt : j < N
    · have e : ((d + -(j : Int)) % 24 + -1) % 24 = (d + -1 * ((j : Int) + 1)) % 24 := by omega
      go_wp2_with (first | (go_at_call 73; refine (turned_any _ _ (by omega) (by omega) (by omega) (by omega) _).mono ?_; rw [e]; rintro e w' ⟨rfl, rfl⟩) | (at_builtin; refine wp_appendI rfl (.tmp 30) (.tmp 32) rfl w.heap.size _ _ _ rfl hrow rfl hb (Nat.le_refl _) hsz (by rw [wayL_len]; omega) ?_; intro v' w' hrow' hb' _))
      go_roundw
      case rel => exact ⟨j + 1, by omega, by go_num, by congr 2 <;> omega, by simpa [wayL] using hrow', hb'⟩
      case measure => simp [intOf]; omega
    · have : j = N := by omega
      subst this
      go_wp2
      go_ret2
      exact ⟨_, rfl, hrow, hb⟩

theorem implWayOf_any (d b : Int) (w : World) :
    Calls Tryd.prog 33 #[.int .i64 d, .int .i64 b] w fun e w' => ∃ v, e = .returned (.tuple #[v, .int .i64 (wayAll d b).2]) ∧ RowI w' w.heap.size w'.heap.size v (wayAll d b).1 ∧ Below w.heap.size w w' := by
  cases h1 : inB d 0 23 <;> cases h2 : inB b (-1000) 1000
  case true.true =>
    have g2 := inB_true h2
    by_cases hneg : b < 0
    · obtain ⟨N, rfl⟩ : ∃ N : Nat, b = -(N : Int) := ⟨(-b).toNat, by omega⟩
      rw [show wayAll d (-(N : Int)) = (wayL d (-1) N, 0) by simp only [wayAll, h1, h2, Bool.and_self, if_true]; rw [if_neg (by omega)]; simp]
      exact implWay_down d N h1 (by omega) (by omega) w
    · obtain ⟨N, rfl⟩ : ∃ N : Nat, b = (N : Int) := ⟨b.toNat, by omega⟩
      rw [show wayAll d (N : Int) = (wayL d 1 N, 0) by simp only [wayAll, h1, h2, Bool.and_self, if_true]; rw [if_pos (by omega)]; simp]
      exact implWay_up d N h1 (by omega) w
  all_goals
    rw [show wayAll d b = ([], 2) by simp [wayAll, *]]
    go_enter Tryd.func33, Tryd.ntmps33
    go_wp2_with (first | (go_at_call 69; refine (valid_any _ _).mono ?_; rintro e w1 ⟨rfl, rfl⟩) | (go_at_call 72; refine (validTurn_any _ _).mono ?_; rintro e w1 ⟨rfl, rfl⟩))
    go_ret2
    exact ⟨_, rfl, RowI_nil _ _ _, by go_grown⟩

def vec0 : Nat → Int × Int
  | 0 => (1000, 0)
  | 1 => (966, 259)
  | 2 => (866, 500)
  | 3 => (707, 707)
  | 4 => (500, 866)
  | 5 => (259, 966)
  | _ => (0, 0)

def vecQ (p : Int × Int) : Nat → Int × Int
  | 0 => p
  | n + 1 => (-(vecQ p n).2, (vecQ p n).1)

def vecL (d : Int) : Int × Int := vecQ (vec0 (d.toNat % 6)) (d.toNat / 6)

/-- The table of vectors as it lies in memory. -/
structure VecTab (w : World) : Prop where
  size : 0 < w.heap.size
  cell : ∀ k, k < 6 → w.cell? ⟨0, 2 * k, none⟩ = some (.int .i64 (vec0 k).1) ∧ w.cell? ⟨0, 2 * k + 1, none⟩ = some (.int .i64 (vec0 k).2)

theorem VecTab_kept {W w1 : World} (h : VecTab W) (hb : Below W.heap.size W w1) : VecTab w1 :=
  ⟨Nat.lt_of_lt_of_le h.size hb.size, fun k hk => by rw [kept_cell hb _ _ h.size, kept_cell hb _ _ h.size]; exact h.cell k hk⟩

theorem vecQ_q (d : Int) (h : 0 ≤ d) (j : Nat) (h1 : 6 * (j : Int) ≤ d) (h2 : d < 6 * (j : Int) + 6) (r : Nat) (hr : d.toNat % 6 = r) : vecL d = vecQ (vec0 r) j := by
  unfold vecL
  rw [hr, show d.toNat / 6 = j by omega]

theorem vecQ_bd (p : Int × Int) (h : (-1000 ≤ p.1 ∧ p.1 ≤ 1000) ∧ -1000 ≤ p.2 ∧ p.2 ≤ 1000) (j : Nat) : (-1000 ≤ (vecQ p j).1 ∧ (vecQ p j).1 ≤ 1000) ∧ -1000 ≤ (vecQ p j).2 ∧ (vecQ p j).2 ≤ 1000 := by
  induction j with
  | zero => exact h
  | succ j ih => simp only [vecQ]; omega

theorem vector_any (d : Int) (h0 : 0 ≤ d) (h1 : d ≤ 23) (w : World) (ht : VecTab w) :
    Calls Tryd.prog 74 #[.int .i64 d] w fun e w' => e = .returned (.agg #[.int .i64 (vecL d).1, .int .i64 (vecL d).2]) ∧ Below w.heap.size w w' := by
  have hq := vecQ_q d h0
  obtain ⟨r, hr, hr6⟩ : ∃ r : Nat, d.toNat % 6 = r ∧ r < 6 := ⟨_, rfl, by omega⟩
  have e : d % 6 = (r : Int) := by omega
  have hq' := fun j a b => hq j a b r hr
  obtain ⟨p, hp⟩ : ∃ p, p = vec0 r := ⟨_, rfl⟩
  rw [← hp] at hq'
  have hpb : (-1000 ≤ p.1 ∧ p.1 ≤ 1000) ∧ -1000 ≤ p.2 ∧ p.2 ≤ 1000 := by
    rcases (show r = 0 ∨ r = 1 ∨ r = 2 ∨ r = 3 ∨ r = 4 ∨ r = 5 by omega) with rfl | rfl | rfl | rfl | rfl | rfl <;> subst hp <;> decide
  obtain ⟨tx, ty⟩ := ht.cell r hr6
  rw [← hp] at tx ty
  have hs := ht.size
  have HQ := Lib.hid hq'; clear hq hq' hr ht hp
  have e2 : 2 * r = r * 2 := by omega
  rw [e2] at tx ty
  clear e2
  go_enter Tryd.func74, Tryd.ntmps74
  go_wp2
  go_loopw [10] (fun i wr => ∃ j : Nat, 6 * (j : Int) ≤ d ∧ i = .int .i64 j ∧ wr = (w.alloc (.cells #[.int .i64 0, .int .i64 0] 35)).alloc (.cells #[.int .i64 (vecQ p j).1, .int .i64 (vecQ p j).2] 35)) (fun i _ => 10 - (intOf i).toNat)
  case atStart => exact ⟨0, by omega, rfl, rfl⟩
  case round =>
    obtain ⟨j, hj, rfl, rfl⟩ := hrel
    have hb := vecQ_bd p hpb j
    by_cases hlt : (j : Int) < d / 6
    · go_wp2
      go_roundw
      case rel => exact ⟨j + 1, by omega, by go_num, rfl⟩
      case measure => simp [intOf]; omega
    · go_wp2
      go_returns
      exact ⟨by rw [HQ.out j hj (by omega)], by go_grown⟩

def vecOfL (d : Int) : (Int × Int) × Int := if inB d 0 23 then (vecL d, 0) else ((0, 0), 2)

theorem implVectorOf_any (d : Int) (w : World) (ht : VecTab w) :
    Calls Tryd.prog 34 #[.int .i64 d] w fun e w' => e = .returned (.tuple #[.agg #[.int .i64 (vecOfL d).1.1, .int .i64 (vecOfL d).1.2], .int .i64 (vecOfL d).2]) ∧ Below w.heap.size w w' := by
  cases h : inB d 0 23
  · rw [show vecOfL d = ((0, 0), 2) by simp [vecOfL, h]]
    go_enter Tryd.func34, Tryd.ntmps34
    go_wp2_with (go_at_call 69; refine (valid_any _ _).mono ?_; rintro e w1 ⟨rfl, rfl⟩)
    go_returns
    exact ⟨rfl, by go_grown⟩
  · rw [show vecOfL d = (vecL d, 0) by simp [vecOfL, h]]
    have g := inB_true h
    have ht' : VecTab (w.alloc (.cells #[.int .i64 0, .int .i64 0] 35)) := VecTab_kept ht (by go_grown)
    have hs := ht.size
    clear ht
    go_enter Tryd.func34, Tryd.ntmps34
    go_wp2_with (first | (go_at_call 69; refine (valid_any _ _).mono ?_; rintro e w1 ⟨rfl, rfl⟩) | (go_at_call 74; refine (vector_any _ g.1 g.2 _ ht').mono ?_; rintro e w1 ⟨rfl, hb⟩; have hs := hb.size; (try simp at hs); (try (refine kept_at hb (w.heap.size) ?_ (fun hc0 hz0 hs0 => ?_); focus go_size)); (try (refine kept_at hb (w.heap.size + 1) ?_ (fun hc1 hz1 hs1 => ?_); focus go_size)); (try (refine kept_at hb (w.heap.size + 2) ?_ (fun hc2 hz2 hs2 => ?_); focus go_size)); (try (refine kept_at hb (w.heap.size + 3) ?_ (fun hc3 hz3 hs3 => ?_); focus go_size)); (try (refine kept_at hb (w.heap.size + 4) ?_ (fun hc4 hz4 hs4 => ?_); focus go_size)); (try (refine kept_at hb (w.heap.size + 5) ?_ (fun hc5 hz5 hs5 => ?_); focus go_size)); replace hb := kept_trans (a := w) (by go_grown) hb; have hcl := kept_cell hb; have hzl := kept_frozen hb))
    refine bodyPost_ret (v := .tuple #[.agg #[.int .i64 (vecL d).1, .int .i64 (vecL d).2], .int .i64 0]) (by simp [results, Tryd.results34, go_sem, *]) rfl ⟨rfl, ?_⟩
    go_grown

theorem vecTab_of_laid {W : World} (h : laidMetH Tryd.prog [("loop.example/g00932/impl.firstVectors", Rows.laid_loop_example_g00932_impl_firstVectors)] W) : VecTab W := by
  have h' : laidMet Tryd.prog [("loop.example/g00932/impl.firstVectors", Rows.laid_loop_example_g00932_impl_firstVectors)] W := h
  obtain ⟨ps, ⟨g, t, cs, fuel, p, q, hg, ht, hvar, hd, _, _⟩, _⟩ := h'
  obtain rfl : 0 = g := Option.some.inj ((show Tryd.prog.globalNamed "loop.example/g00932/impl.firstVectors" = some 0 by kernel_rfl).symm.trans hg)
  obtain rfl : 149 = t := Option.some.inj ((show (Tryd.prog.globals[0]?).map (·.type) = some 149 by kernel_rfl).symm.trans ht)
  have hc := cells_of_pairs (zs := [(1000, 0), (966, 259), (866, 500), (707, 707), (500, 866), (259, 966)]) Tryd.underlying149 Tryd.underlying35 Tryd.underlying2 Tryd.underlying2 (by kernel_rfl) (by kernel_rfl) (by kernel_rfl) rfl rfl hd
  refine ⟨?_, fun k hk => ?_⟩
  · simp only [World.var?, hg, Option.bind_some] at hvar
    rcases Nat.lt_or_ge 0 W.heap.size with hlt | hge
    · exact hlt
    · rw [Array.getElem?_eq_none hge] at hvar; simp at hvar
  · have := hc k (by simpa using hk)
    rw [World.var?_cell hg hvar, World.var?_cell hg hvar, ← Array.getElem?_toList, ← Array.getElem?_toList, this.1, this.2]
    rcases (show k = 0 ∨ k = 1 ∨ k = 2 ∨ k = 3 ∨ k = 4 ∨ k = 5 by omega) with rfl | rfl | rfl | rfl | rfl | rfl <;> exact ⟨rfl, rfl⟩

theorem vecL_bd (d : Int) : (-1000 ≤ (vecL d).1 ∧ (vecL d).1 ≤ 1000) ∧ -1000 ≤ (vecL d).2 ∧ (vecL d).2 ≤ 1000 := by
  unfold vecL
  refine vecQ_bd _ ?_ _
  have h := Nat.mod_lt d.toNat (show 0 < 6 by omega)
  generalize d.toNat % 6 = r at *
  rcases (show r = 0 ∨ r = 1 ∨ r = 2 ∨ r = 3 ∨ r = 4 ∨ r = 5 by omega) with rfl | rfl | rfl | rfl | rfl | rfl <;> decide

theorem offs_bd (v r : Int) (hv : -1000 ≤ v ∧ v ≤ 1000) (hr : 0 ≤ r ∧ r ≤ 1000) : (-1000000 ≤ v * r ∧ v * r ≤ 1000000) ∧ -1000 ≤ (v * r).tdiv 1000 ∧ (v * r).tdiv 1000 ≤ 1000 := by
  have h1 : v * r ≤ 1000 * r := Int.mul_le_mul_of_nonneg_right hv.2 hr.1
  have h2 : -1000 * r ≤ v * r := Int.mul_le_mul_of_nonneg_right hv.1 hr.1
  generalize v * r = q at *
  have h3 := Int.mul_tdiv_add_tmod q 1000
  have h4 := Int.lt_tmod_of_pos q (show (0 : Int) < 1000 by omega)
  have h5 := Int.tmod_lt_of_pos q (show (0 : Int) < 1000 by omega)
  omega

def offL (x y d r : Int) : Int × Int := (x + ((vecL d).1 * r).tdiv 1000, y + ((vecL d).2 * r).tdiv 1000)

def placeL (x y d r : Int) : (Int × Int) × Int :=
  if okP x y then (if inB d 0 23 && inB r 0 1000 then (if okP (offL x y d r).1 (offL x y d r).2 then (offL x y d r, 0) else ((0, 0), 5)) else ((0, 0), 2)) else ((0, 0), 1)

theorem placeL_cases (x y d r : Int) :
    (okP x y = false ∧ placeL x y d r = ((0, 0), 1)) ∨ (okP x y = true ∧ inB d 0 23 = false ∧ placeL x y d r = ((0, 0), 2)) ∨ (okP x y = true ∧ inB d 0 23 = true ∧ inB r 0 1000 = false ∧ placeL x y d r = ((0, 0), 2)) ∨
    (okP x y = true ∧ inB d 0 23 = true ∧ inB r 0 1000 = true ∧ okP (offL x y d r).1 (offL x y d r).2 = false ∧ placeL x y d r = ((0, 0), 5)) ∨
    (okP x y = true ∧ inB d 0 23 = true ∧ inB r 0 1000 = true ∧ okP (offL x y d r).1 (offL x y d r).2 = true ∧ placeL x y d r = (offL x y d r, 0)) := by
  unfold placeL
  cases okP x y <;> cases inB d 0 23 <;> cases inB r 0 1000 <;> cases okP (offL x y d r).1 (offL x y d r).2 <;> simp

theorem plus_any (x y u v : Int) (h1 : -20000 ≤ x ∧ x ≤ 20000) (h2 : -20000 ≤ y ∧ y ≤ 20000) (h3 : -20000 ≤ u ∧ u ≤ 20000) (h4 : -20000 ≤ v ∧ v ≤ 20000) (w : World) :
    Calls Tryd.prog 70 #[.agg #[.int .i64 x, .int .i64 y], .agg #[.int .i64 u, .int .i64 v]] w fun e w' => e = .returned (.agg #[.int .i64 (x + u), .int .i64 (y + v)]) ∧ Below w.heap.size w w' := by
  go_enter Tryd.func70, Tryd.ntmps70
  go_wp2
  go_returns
  exact ⟨rfl, by go_grown⟩

set_option maxRecDepth 100000 in
theorem offset_any (d r : Int) (g2 : 0 ≤ d ∧ d ≤ 23) (g3 : 0 ≤ r ∧ r ≤ 1000) (w : World) (ht : VecTab w) :
    Calls Tryd.prog 71 #[.int .i64 d, .int .i64 r] w fun e w' => e = .returned (.agg #[.int .i64 (((vecL d).1 * r).tdiv 1000), .int .i64 (((vecL d).2 * r).tdiv 1000)]) ∧ Below w.heap.size w w' := by
  have hts := ht.size
  have hv := vecL_bd d
  have b1 := offs_bd _ r hv.1 g3
  have b2 := offs_bd _ r hv.2 g3
  have hV := vector_any d g2.1 g2.2
  generalize vecL d = v at *
  obtain ⟨vx, vy⟩ := v
  simp only [] at *
  have HV := Lib.hid hV; clear hV
  have HT := Lib.hid ht; clear ht
  go_enter Tryd.func71, Tryd.ntmps71
  go_wp2_with fail
  refine (HV.out _ (VecTab_kept HT.out (by go_grown))).mono ?_
  rintro e w1 ⟨rfl, b1⟩
  refine kept_at b1 (w.heap.size) (by go_size) fun c1_0 z1_0 s1_0 => ?_
  replace b1 := kept_trans (a := w) (by go_grown) b1
  have l1 := kept_cell b1
  have zz1 := b1.size
  go_wp2
  (try simp only [Exit.inBlock, Exit.then])
  refine bodyPost_ret (v := .agg #[.int .i64 ((vx * r).tdiv 1000), .int .i64 ((vy * r).tdiv 1000)]) ?_ rfl ⟨rfl, ?_⟩
  · rw [results_cell1 rfl]
    go_simp
  · go_grown

set_option maxHeartbeats 4000000 in
set_option maxRecDepth 100000 in
theorem implPlaceAt_any (x y d r : Int) (w : World) (ht : VecTab w) :
    Calls Tryd.prog 29 #[.agg #[.int .i64 x, .int .i64 y], .int .i64 d, .int .i64 r] w fun e w' => e = .returned (.tuple #[.agg #[.int .i64 (placeL x y d r).1.1, .int .i64 (placeL x y d r).1.2], .int .i64 (placeL x y d r).2]) ∧ Below w.heap.size w w' := by
  have hts := ht.size
  rcases placeL_cases x y d r with ⟨h1, E⟩ | ⟨h1, h2, E⟩ | ⟨h1, h2, h3, E⟩ | ⟨h1, h2, h3, h4, E⟩ | ⟨h1, h2, h3, h4, E⟩
  all_goals rw [E]
  all_goals clear E
  case inl =>
    clear ht
    go_enter Tryd.func29, Tryd.ntmps29
    go_wp2_with (go_at_call 45; refine (validPlace_any _ _ _).mono ?_; rintro e w1 ⟨rfl, hb⟩; have hs := hb.size; (try simp at hs); (try (refine kept_at hb (w.heap.size) ?_ (fun hc0 hz0 hs0 => ?_); focus go_size)); (try (refine kept_at hb (w.heap.size + 1) ?_ (fun hc1 hz1 hs1 => ?_); focus go_size)); (try (refine kept_at hb (w.heap.size + 2) ?_ (fun hc2 hz2 hs2 => ?_); focus go_size)); (try (refine kept_at hb (w.heap.size + 3) ?_ (fun hc3 hz3 hs3 => ?_); focus go_size)); (try (refine kept_at hb (w.heap.size + 4) ?_ (fun hc4 hz4 hs4 => ?_); focus go_size)); (try (refine kept_at hb (w.heap.size + 5) ?_ (fun hc5 hz5 hs5 => ?_); focus go_size)); replace hb := kept_trans (a := w) (by go_grown) hb; have hcl := kept_cell hb; have hzl := kept_frozen hb)
    refine bodyPost_ret (v := .tuple #[.agg #[.int .i64 0, .int .i64 0], .int .i64 1]) (by simp [results, Tryd.results29, go_sem, *]) rfl ⟨rfl, ?_⟩
    go_grown
  case inr.inl =>
    clear ht
    go_enter Tryd.func29, Tryd.ntmps29
    go_wp2_with (first | (go_at_call 45; refine (validPlace_any _ _ _).mono ?_; rintro e w1 ⟨rfl, hb⟩; have hs := hb.size; (try simp at hs); (try (refine kept_at hb (w.heap.size) ?_ (fun hc0 hz0 hs0 => ?_); focus go_size)); (try (refine kept_at hb (w.heap.size + 1) ?_ (fun hc1 hz1 hs1 => ?_); focus go_size)); (try (refine kept_at hb (w.heap.size + 2) ?_ (fun hc2 hz2 hs2 => ?_); focus go_size)); (try (refine kept_at hb (w.heap.size + 3) ?_ (fun hc3 hz3 hs3 => ?_); focus go_size)); (try (refine kept_at hb (w.heap.size + 4) ?_ (fun hc4 hz4 hs4 => ?_); focus go_size)); (try (refine kept_at hb (w.heap.size + 5) ?_ (fun hc5 hz5 hs5 => ?_); focus go_size)); replace hb := kept_trans (a := w) (by go_grown) hb; have hcl := kept_cell hb; have hzl := kept_frozen hb) | (go_at_call 69; refine (valid_any _ _).mono ?_; rintro e w1 ⟨rfl, rfl⟩))
    refine bodyPost_ret (v := .tuple #[.agg #[.int .i64 0, .int .i64 0], .int .i64 2]) (by simp [results, Tryd.results29, go_sem, *]) rfl ⟨rfl, ?_⟩
    go_grown
  case inr.inr.inl =>
    clear ht
    have h3' : r < 0 ∨ (0 ≤ r ∧ 1000 < r) := by simp [inB] at h3; omega
    clear h3
    rcases h3' with h3 | ⟨h3, h3'⟩
    all_goals
      go_enter Tryd.func29, Tryd.ntmps29
      go_wp2_with (first | (go_at_call 45; refine (validPlace_any _ _ _).mono ?_; rintro e w1 ⟨rfl, hb⟩; have hs := hb.size; (try simp at hs); (try (refine kept_at hb (w.heap.size) ?_ (fun hc0 hz0 hs0 => ?_); focus go_size)); (try (refine kept_at hb (w.heap.size + 1) ?_ (fun hc1 hz1 hs1 => ?_); focus go_size)); (try (refine kept_at hb (w.heap.size + 2) ?_ (fun hc2 hz2 hs2 => ?_); focus go_size)); (try (refine kept_at hb (w.heap.size + 3) ?_ (fun hc3 hz3 hs3 => ?_); focus go_size)); (try (refine kept_at hb (w.heap.size + 4) ?_ (fun hc4 hz4 hs4 => ?_); focus go_size)); (try (refine kept_at hb (w.heap.size + 5) ?_ (fun hc5 hz5 hs5 => ?_); focus go_size)); replace hb := kept_trans (a := w) (by go_grown) hb; have hcl := kept_cell hb; have hzl := kept_frozen hb) | (go_at_call 69; refine (valid_any _ _).mono ?_; rintro e w1 ⟨rfl, rfl⟩))
      refine bodyPost_ret (v := .tuple #[.agg #[.int .i64 0, .int .i64 0], .int .i64 2]) (by simp [results, Tryd.results29, go_sem, *]) rfl ⟨rfl, ?_⟩
      go_grown
  case inr.inr.inr.inl =>
    have g2 := inB_true h2
    have g3 := inB_true h3
    have g1 := okP_true h1
    have hv := vecL_bd d
    have b1 := offs_bd _ r hv.1 g3
    have b2 := offs_bd _ r hv.2 g3
    have hV := offset_any d r g2 g3
    unfold offL at *
    generalize vecL d = v at *
    obtain ⟨vx, vy⟩ := v
    simp only [] at *
    generalize (vx * r).tdiv 1000 = ox at *
    generalize (vy * r).tdiv 1000 = oy at *
    have HV := Lib.hid hV; clear hV
    have HO := Lib.hid (validPlace_any (x + ox) (y + oy))
    have HT := Lib.hid ht; clear ht
    go_enter Tryd.func29, Tryd.ntmps29
    go_wp2_with fail
    refine (validPlace_any x y _).mono ?_
    rintro e w1 ⟨rfl, b1⟩
    refine kept_at b1 (w.heap.size) (by go_size) fun c1_0 z1_0 s1_0 => ?_
    refine kept_at b1 (w.heap.size + 1) (by go_size) fun c1_1 z1_1 s1_1 => ?_
    replace b1 := kept_trans (a := w) (by go_grown) b1
    have l1 := kept_cell b1
    have zz1 := b1.size
    go_wp2_with (go_at_call 69; refine (valid_any _ _).mono ?_; rintro e w1 ⟨rfl, rfl⟩)
    go_region_with (first
          | (go_at_call 71; (refine (HV.out _ (VecTab_kept HT.out (by go_grown))).mono ?_; rintro e w2 ⟨rfl, hb2⟩); refine kept_at hb2 w.heap.size (by go_size) fun c2_0 z2_0 s2_0 => ?_; refine kept_at hb2 (w.heap.size + 1) (by go_size) fun c2_1 z2_1 s2_1 => ?_; (try (refine kept_at hb2 w1.heap.size ?_ (fun c2_2 z2_2 s2_2 => ?_); focus go_size)); have b2 := kept_trans (a := w) (by go_grown) hb2)
          | (go_at_call 70; refine (plus_any _ _ _ _ (by omega) (by omega) (by omega) (by omega) _).mono ?_; rintro e w3 ⟨rfl, hb3⟩; refine kept_at hb3 (w.heap.size + 1) (by go_size) fun c3_0 z3_0 s3_0 => ?_; (try (refine kept_at hb3 w1.heap.size ?_ (fun c3_1 z3_1 s3_1 => ?_); focus go_size)); (try (refine kept_at hb3 w2.heap.size ?_ (fun c3_2 z3_2 s3_2 => ?_); focus go_size)); have b3 := kept_trans (a := w) (by go_grown) hb3))
    all_goals
      go_wp2_with fail
      refine (HO.out _).mono ?_
      rintro e w4 ⟨rfl, hb4⟩
      refine kept_at hb4 (w.heap.size + 1) (by go_size) fun c4_0 z4_0 s4_0 => ?_
      (try (refine kept_at hb4 w1.heap.size ?_ (fun c4_1 z4_1 s4_1 => ?_); focus go_size))
      (try (refine kept_at hb4 w2.heap.size ?_ (fun c4_2 z4_2 s4_2 => ?_); focus go_size))
      (try (refine kept_at hb4 w3.heap.size ?_ (fun c4_3 z4_3 s4_3 => ?_); focus go_size))
      have b4 := kept_trans (a := w) (by go_grown) hb4
      go_wp2
      refine bodyPost_ret (v := .tuple #[.agg #[.int .i64 0, .int .i64 0], .int .i64 5]) ?_ rfl ⟨rfl, ?_⟩
      · rw [results_cell_tmp rfl]
        go_simp
      · go_grown
  case inr.inr.inr.inr =>
    have g2 := inB_true h2
    have g3 := inB_true h3
    have g1 := okP_true h1
    have hv := vecL_bd d
    have b1 := offs_bd _ r hv.1 g3
    have b2 := offs_bd _ r hv.2 g3
    have hV := offset_any d r g2 g3
    unfold offL at *
    generalize vecL d = v at *
    obtain ⟨vx, vy⟩ := v
    simp only [] at *
    generalize (vx * r).tdiv 1000 = ox at *
    generalize (vy * r).tdiv 1000 = oy at *
    have HV := Lib.hid hV; clear hV
    have HO := Lib.hid (validPlace_any (x + ox) (y + oy))
    have HT := Lib.hid ht; clear ht
    go_enter Tryd.func29, Tryd.ntmps29
    go_wp2_with fail
    refine (validPlace_any x y _).mono ?_
    rintro e w1 ⟨rfl, b1⟩
    refine kept_at b1 (w.heap.size) (by go_size) fun c1_0 z1_0 s1_0 => ?_
    refine kept_at b1 (w.heap.size + 1) (by go_size) fun c1_1 z1_1 s1_1 => ?_
    replace b1 := kept_trans (a := w) (by go_grown) b1
    have l1 := kept_cell b1
    have zz1 := b1.size
    go_wp2_with (go_at_call 69; refine (valid_any _ _).mono ?_; rintro e w1 ⟨rfl, rfl⟩)
    go_region_with (first
          | (go_at_call 71; (refine (HV.out _ (VecTab_kept HT.out (by go_grown))).mono ?_; rintro e w2 ⟨rfl, hb2⟩); refine kept_at hb2 w.heap.size (by go_size) fun c2_0 z2_0 s2_0 => ?_; refine kept_at hb2 (w.heap.size + 1) (by go_size) fun c2_1 z2_1 s2_1 => ?_; (try (refine kept_at hb2 w1.heap.size ?_ (fun c2_2 z2_2 s2_2 => ?_); focus go_size)); have b2 := kept_trans (a := w) (by go_grown) hb2)
          | (go_at_call 70; refine (plus_any _ _ _ _ (by omega) (by omega) (by omega) (by omega) _).mono ?_; rintro e w3 ⟨rfl, hb3⟩; refine kept_at hb3 (w.heap.size + 1) (by go_size) fun c3_0 z3_0 s3_0 => ?_; (try (refine kept_at hb3 w1.heap.size ?_ (fun c3_1 z3_1 s3_1 => ?_); focus go_size)); (try (refine kept_at hb3 w2.heap.size ?_ (fun c3_2 z3_2 s3_2 => ?_); focus go_size)); have b3 := kept_trans (a := w) (by go_grown) hb3))
    all_goals
      go_wp2_with fail
      refine (HO.out _).mono ?_
      rintro e w4 ⟨rfl, hb4⟩
      refine kept_at hb4 (w.heap.size + 1) (by go_size) fun c4_0 z4_0 s4_0 => ?_
      (try (refine kept_at hb4 w1.heap.size ?_ (fun c4_1 z4_1 s4_1 => ?_); focus go_size))
      (try (refine kept_at hb4 w2.heap.size ?_ (fun c4_2 z4_2 s4_2 => ?_); focus go_size))
      (try (refine kept_at hb4 w3.heap.size ?_ (fun c4_3 z4_3 s4_3 => ?_); focus go_size))
      have b4 := kept_trans (a := w) (by go_grown) hb4
      go_wp2
      refine bodyPost_ret (v := .tuple #[.agg #[.int .i64 (x + ox), .int .i64 (y + oy)], .int .i64 0]) ?_ rfl ⟨rfl, ?_⟩
      · rw [results_cell_tmp rfl]
        go_simp
      · go_grown

def scal (p q : Int) (d : Int) : Int := (vecL d).1 * p + (vecL d).2 * q

/-- The best direction, and its product, among the first k. -/
def stL (p q : Int) : Nat → Int × Int
  | 0 => (0, 0)
  | k + 1 => if k = 0 ∨ (stL p q k).2 < scal p q k then ((k : Int), scal p q k) else stL p q k

theorem stL_scal (p q : Int) (k : Nat) (hk : 1 ≤ k) : (stL p q k).2 = scal p q (stL p q k).1 ∧ 0 ≤ (stL p q k).1 ∧ (stL p q k).1 < k := by
  induction k with
  | zero => omega
  | succ k ih =>
    unfold stL
    split
    · exact ⟨rfl, by simp, by simp; omega⟩
    · next h =>
      have := ih (by omega)
      exact ⟨this.1, this.2.1, by omega⟩

theorem scal_bd (p q d : Int) (hp : -20000 ≤ p ∧ p ≤ 20000) (hq : -20000 ≤ q ∧ q ≤ 20000) :
    (-20000000 ≤ (vecL d).1 * p ∧ (vecL d).1 * p ≤ 20000000) ∧ (-20000000 ≤ (vecL d).2 * q ∧ (vecL d).2 * q ≤ 20000000) := by
  have h := vecL_bd d
  have key : ∀ a b : Int, (-1000 ≤ a ∧ a ≤ 1000) → (-20000 ≤ b ∧ b ≤ 20000) → -20000000 ≤ a * b ∧ a * b ≤ 20000000 := by
    intro a b ha hb
    have hn : (a * b).natAbs ≤ 1000 * 20000 := by
      rw [Int.natAbs_mul]
      exact Nat.mul_le_mul (by omega) (by omega)
    omega
  exact ⟨key _ _ h.1 hp, key _ _ h.2 hq⟩

theorem scalar_in (x y u v : Int) (h1 : -4000000000000000000 ≤ x * u ∧ x * u ≤ 4000000000000000000) (h2 : -4000000000000000000 ≤ y * v ∧ y * v ≤ 4000000000000000000) (w : World) :
    Calls Tryd.prog 78 #[.agg #[.int .i64 x, .int .i64 y], .agg #[.int .i64 u, .int .i64 v]] w fun e w' => e = .returned (.int .i64 (x * u + y * v)) ∧ Below w.heap.size w w' := by
  have h := scalar_any x y u v w
  rw [IntWalk.wrap64_in (x * u) (by omega), IntWalk.wrap64_in (y * v) (by omega), IntWalk.wrap64_in _ (by omega)] at h
  exact h

theorem stL_step (p q : Int) (k : Nat) (hk : 1 ≤ k) : (stL p q (k + 1)).1 = if scal p q (stL p q k).1 < scal p q k then (k : Int) else (stL p q k).1 := by
  have h := stL_scal p q k hk
  rw [← h.1]
  show (if k = 0 ∨ (stL p q k).2 < scal p q k then ((k : Int), scal p q k) else stL p q k).1 = _
  by_cases hc : (stL p q k).2 < scal p q k
  · rw [if_pos (.inr hc), if_pos hc]
  · rw [if_neg (by omega), if_neg hc]

def dirToL (x y u v : Int) : Int × Int := if okP x y && okP u v then (if x = u ∧ y = v then (0, 6) else ((stL (u - x) (v - y) 24).1, 0)) else (0, 1)

theorem dirToL_cases (x y u v : Int) :
    (okP x y = false ∧ dirToL x y u v = (0, 1)) ∨ (okP x y = true ∧ okP u v = false ∧ dirToL x y u v = (0, 1)) ∨ (okP x y = true ∧ okP u v = true ∧ x = u ∧ y = v ∧ dirToL x y u v = (0, 6)) ∨
    (okP x y = true ∧ okP u v = true ∧ (x == u) = false ∧ dirToL x y u v = ((stL (u - x) (v - y) 24).1, 0)) ∨ (okP x y = true ∧ okP u v = true ∧ (x == u) = true ∧ (y == v) = false ∧ dirToL x y u v = ((stL (u - x) (v - y) 24).1, 0)) := by
  unfold dirToL
  cases okP x y <;> cases okP u v <;> by_cases h1 : x = u <;> by_cases h2 : y = v <;> simp [h1, h2]

theorem implDirectionTo_any (x y u v : Int) (w : World) (ht : VecTab w) :
    Calls Tryd.prog 38 #[.agg #[.int .i64 x, .int .i64 y], .agg #[.int .i64 u, .int .i64 v]] w fun e w' => e = .returned (.tuple #[.int .i64 (dirToL x y u v).1, .int .i64 (dirToL x y u v).2]) ∧ Below w.heap.size w w' := by
  have HT := Lib.hid ht; clear ht
  rcases dirToL_cases x y u v with ⟨h1, E⟩ | ⟨h1, h2, E⟩ | ⟨h1, h2, rfl, rfl, E⟩ | ⟨h1, h2, h3, E⟩ | ⟨h1, h2, h30, h3, E⟩
  all_goals rw [E]; clear E
  case inl =>
    go_enter Tryd.func38, Tryd.ntmps38
    go_wp2_with fail
    refine (validPlace_any x y _).mono ?_
    rintro e w1 ⟨rfl, b1⟩
    refine kept_at b1 (w.heap.size) (by go_size) fun c1_0 z1_0 s1_0 => ?_
    refine kept_at b1 (w.heap.size + 1) (by go_size) fun c1_1 z1_1 s1_1 => ?_
    replace b1 := kept_trans (a := w) (by go_grown) b1
    have l1 := kept_cell b1
    have zz1 := b1.size
    go_wp2
    go_ret2
    exact ⟨rfl, by go_grown⟩
  case inr.inl =>
    go_enter Tryd.func38, Tryd.ntmps38
    go_wp2_with fail
    refine (validPlace_any x y _).mono ?_
    rintro e w1 ⟨rfl, b1⟩
    refine kept_at b1 (w.heap.size) (by go_size) fun c1_0 z1_0 s1_0 => ?_
    refine kept_at b1 (w.heap.size + 1) (by go_size) fun c1_1 z1_1 s1_1 => ?_
    replace b1 := kept_trans (a := w) (by go_grown) b1
    have l1 := kept_cell b1
    have zz1 := b1.size
    go_wp2_with fail
    refine (validPlace_any u v _).mono ?_
    rintro e w2 ⟨rfl, b2⟩
    refine kept_at b2 (w.heap.size) (by go_size) fun c2_0 z2_0 s2_0 => ?_
    refine kept_at b2 (w.heap.size + 1) (by go_size) fun c2_1 z2_1 s2_1 => ?_
    replace b2 := kept_trans (a := w) (by go_grown) b2
    have l2 := kept_cell b2
    have zz2 := b2.size
    go_wp2
    go_ret2
    exact ⟨rfl, by go_grown⟩
  case inr.inr.inl =>
    go_enter Tryd.func38, Tryd.ntmps38
    go_wp2_with fail
    refine (validPlace_any _ _ _).mono ?_
    rintro e w1 ⟨rfl, b1⟩
    refine kept_at b1 (w.heap.size) (by go_size) fun c1_0 z1_0 s1_0 => ?_
    refine kept_at b1 (w.heap.size + 1) (by go_size) fun c1_1 z1_1 s1_1 => ?_
    replace b1 := kept_trans (a := w) (by go_grown) b1
    have l1 := kept_cell b1
    have zz1 := b1.size
    go_wp2_with fail
    refine (validPlace_any _ _ _).mono ?_
    rintro e w2 ⟨rfl, b2⟩
    refine kept_at b2 (w.heap.size) (by go_size) fun c2_0 z2_0 s2_0 => ?_
    refine kept_at b2 (w.heap.size + 1) (by go_size) fun c2_1 z2_1 s2_1 => ?_
    replace b2 := kept_trans (a := w) (by go_grown) b2
    have l2 := kept_cell b2
    have zz2 := b2.size
    go_wp2
    go_ret2
    exact ⟨rfl, by go_grown⟩
  all_goals
    have g1 := okP_true h1
    have g2 := okP_true h2
    go_enter Tryd.func38, Tryd.ntmps38
    go_wp2_with fail
    refine (validPlace_any _ _ _).mono ?_
    rintro e w1 ⟨rfl, b1⟩
    refine kept_at b1 (w.heap.size) (by go_size) fun c1_0 z1_0 s1_0 => ?_
    refine kept_at b1 (w.heap.size + 1) (by go_size) fun c1_1 z1_1 s1_1 => ?_
    replace b1 := kept_trans (a := w) (by go_grown) b1
    have l1 := kept_cell b1
    have zz1 := b1.size
    go_wp2_with fail
    refine (validPlace_any _ _ _).mono ?_
    rintro e w2 ⟨rfl, b2⟩
    refine kept_at b2 (w.heap.size) (by go_size) fun c2_0 z2_0 s2_0 => ?_
    refine kept_at b2 (w.heap.size + 1) (by go_size) fun c2_1 z2_1 s2_1 => ?_
    replace b2 := kept_trans (a := w) (by go_grown) b2
    have l2 := kept_cell b2
    have zz2 := b2.size
    go_wp2_with fail
    refine (minus_any _ _ _ _ (by omega) (by omega) (by omega) (by omega) _).mono ?_
    rintro e w3 ⟨rfl, b3⟩
    refine kept_at b3 (w.heap.size) (by go_size) fun c3_0 z3_0 s3_0 => ?_
    refine kept_at b3 (w.heap.size + 1) (by go_size) fun c3_1 z3_1 s3_1 => ?_
    replace b3 := kept_trans (a := w) (by go_grown) b3
    have l3 := kept_cell b3
    have zz3 := b3.size
    go_wp2_with fail
    have hsz3 := b3.size
    go_loopw [7, 8] (fun b i wr => ∃ k : Nat, 1 ≤ k ∧ k ≤ 24 ∧ i = .int .i64 k ∧ b = .int .i64 (stL (u - x) (v - y) k).1 ∧ Below w.heap.size w wr ∧ w3.heap.size < wr.heap.size ∧ wr.cell? ⟨w3.heap.size, 0, none⟩ = some (.int .i64 (u - x)) ∧ wr.cell? ⟨w3.heap.size, 1, none⟩ = some (.int .i64 (v - y))) (fun _ i _ => 24 - (intOf i).toNat)
    case atStart => exact ⟨1, by omega, by omega, rfl, by simp [stL], by go_grown, by simp, by simp, by simp⟩
    case round =>
      obtain ⟨k, hk1, hk, rfl, rfl, hbw, hszw, hc0, hc1⟩ := hrel
      have hst := stL_scal (u - x) (v - y) k hk1
      have hbd := scal_bd (u - x) (v - y) k (by omega) (by omega)
      have hbd2 := scal_bd (u - x) (v - y) (stL (u - x) (v - y) k).1 (by omega) (by omega)
      have hstep := stL_step (u - x) (v - y) k hk1
      have HST := Lib.hid hstep; clear hstep
      by_cases hlt : k < 24
      · have h01 : 0 ≤ (stL (u - x) (v - y) k).1 := hst.2.1
        have h02 : (stL (u - x) (v - y) k).1 < k := hst.2.2
        clear hst
        unfold scal at *
        generalize (stL (u - x) (v - y) k).1 = sb at *
        by_cases hd : (vecL sb).1 * (u - x) + (vecL sb).2 * (v - y) < (vecL k).1 * (u - x) + (vecL k).2 * (v - y)
        all_goals
          go_wp2_with fail
          go_region_held3 (fun w' => w'.cell? ⟨w3.heap.size, 0, none⟩ = some (.int .i64 (u - x)) ∧ w'.cell? ⟨w3.heap.size, 1, none⟩ = some (.int .i64 (v - y))) (first | go_keep | (simp [go_sem, *]; done))
            (first | (go_at_call 74; refine (vector_any _ (by omega) (by omega) _ (VecTab_kept HT.out (by go_grown))).mono ?_; rintro e wn ⟨rfl, bn⟩; refine kept_at bn w3.heap.size (by go_size) fun cn zn sn => ?_; replace bn := kept_trans (a := w) (by go_grown) bn) | (go_at_call 78; refine (scalar_in _ _ _ _ (by omega) (by omega) _).mono ?_; rintro e wn ⟨rfl, bn⟩; refine kept_at bn w3.heap.size (by go_size) fun cn zn sn => ?_; replace bn := kept_trans (a := w) (by go_grown) bn))
          obtain ⟨e0, e1⟩ := ‹_ ∧ _›
          go_wp2
          go_roundw
          case rel => exact ⟨k + 1, by omega, by omega, by go_num, by rw [HST.out]; first | rw [if_pos hd] | rw [if_neg (Int.not_lt.mpr hd)], by assumption, by assumption, e0, e1⟩
          case measure => simp [intOf]; omega
      · have : k = 24 := by omega
        subst this
        go_wp2
        go_ret2
        exact ⟨rfl, hbw⟩

/-- The slice reads as bytes, none of them in block x. -/
def RdB (w : World) (A : Option Addr) (n x : Nat) : Prop := ∀ k, k < n → ∃ b off z, A = some ⟨b, off, none⟩ ∧ b < w.heap.size ∧ b ≠ x ∧ w.cell? ⟨b, off + k, none⟩ = some (.int .u8 z) ∧ 0 ≤ z ∧ z ≤ 255

/-- A source of choices in block b: its bytes, how far it has come, its seed. -/
def SrcAt (w : World) (b : Nat) (v : Value) (N : Nat) : Prop := ∃ seed : Int, 0 ≤ seed ∧ seed ≤ 18446744073709551615 ∧ w.heap[b]? = some (.cells #[v, .int .i64 N, .int .u64 seed] 133 (0, 0))

/-- What a step of the source comes to. -/
def NextR (b : Nat) (v : Value) (N : Nat) (lo hi : Int) (w : World) (e : Ending) (w' : World) : Prop := ∃ x : Int, lo ≤ x ∧ x ≤ hi ∧ e = .returned (.int .i64 x) ∧ SrcAt w' b v N ∧ w.grownBy w' (some b)

theorem wrap_u64_bd (x : Int) : 0 ≤ IntKind.u64.wrap x ∧ IntKind.u64.wrap x ≤ 18446744073709551615 := by
  rw [IntKind.wrap_u64]
  omega

theorem and255_bd (a : Int) (h0 : 0 ≤ a) (h1 : a ≤ 18446744073709551615) : 0 ≤ bits .and .u64 a 255 ∧ bits .and .u64 a 255 ≤ 255 := by
  rw [u64_and a 255 h0 (by omega) (by omega) (by omega)]
  have : a.toNat &&& (255 : Int).toNat ≤ (255 : Int).toNat := Nat.and_le_right
  have e : (255 : Int).toNat = 255 := rfl
  omega

theorem src_after {w : World} {b : Nat} {v i s : Value} (hb : w.heap[b]? = some (.cells #[v, i, s] 133 (0, 0))) (k1 k2 : Nat) (i' s' : Value) :
    ((((w.drewN k1).setCell ⟨b, 1, none⟩ i').setCell ⟨b, 2, none⟩ s').drewN k2).heap[b]? = some (.cells #[v, i', s'] 133 (0, 0)) ∧
    w.grownBy ((((w.drewN k1).setCell ⟨b, 1, none⟩ i').setCell ⟨b, 2, none⟩ s').drewN k2) (some b) := by
  have h0 : (w.drewN k1).heap[b]? = some (.cells #[v, i, s] 133 (0, 0)) := hb
  have h1 := heap_setCell_same (w.drewN k1) b 1 _ _ i' h0
  have h2 := heap_setCell_same _ b 2 _ _ s' h1
  refine ⟨h2, ⟨rfl, rfl, rfl, ?_, fun k hk hne => ?_⟩⟩
  · show w.heap.size ≤ ((((w.drewN k1).setCell ⟨b, 1, none⟩ i').setCell ⟨b, 2, none⟩ s')).heap.size
    simp [World.setCell]
  · have hne' : k ≠ b := fun e => hne (by rw [e])
    show ((((w.drewN k1).setCell ⟨b, 1, none⟩ i').setCell ⟨b, 2, none⟩ s')).heap[k]? = _
    rw [heap_setCell_other _ _ _ _ hne', heap_setCell_other _ _ _ _ hne']
    rfl

theorem next_any (b : Nat) (A : Option Addr) (n c N : Nat) (w : World) (hs : SrcAt w b (.slice A n c) N) (hr : RdB w A n b) (hN : N < 1000000000) (hn : n ≤ 1000000) :
    Calls Tryd.prog 125 #[.pointer (some ⟨b, 0, none⟩)] w (NextR b (.slice A n c) (N + 1) 0 255 w) := by
  obtain ⟨seed, s0, s1, hb⟩ := hs
  have c0 : w.cell? ⟨b, 0, none⟩ = some (.slice A n c) := by rw [cell_of_row w b 0 _ _ _ hb]; rfl
  have c1 : w.cell? ⟨b, 1, none⟩ = some (.int .i64 N) := by rw [cell_of_row w b 1 _ _ _ hb]; rfl
  have c2 : w.cell? ⟨b, 2, none⟩ = some (.int .u64 seed) := by rw [cell_of_row w b 2 _ _ _ hb]; rfl
  have f1 := frozen_of_row w b 1 _ _ hb
  have f2 := frozen_of_row w b 2 _ _ hb
  have HB := Lib.hid hb; clear hb
  by_cases hlt : N < n
  · obtain ⟨g, off, z, rfl, hg, hgb, hz, z0, z1⟩ := hr N hlt
    clear hr
    go_enter Tryd.func125, Tryd.ntmps125
    go_wp2_with fail
    go_quiet (fail)
    go_wp2_with fail
    go_quiet (fail)
    go_wp2_with fail
    go_quiet (fail)
    go_wp2
    go_ret
    have h := src_after HB.out
    exact ⟨z, z0, z1, rfl, ⟨_, (wrap_u64_bd _).1, (wrap_u64_bd _).2, (h _ _ _ _).1⟩, (h _ _ _ _).2⟩
  · clear hr
    go_enter Tryd.func125, Tryd.ntmps125
    go_wp2_with fail
    go_quiet (fail)
    go_wp2_with fail
    go_quiet (fail)
    have hw := wrap_u64_bd (IntKind.u64.wrap (IntKind.u64.wrap (seed * 6364136223846793005)) + 1442695040888963407)
    go_wp2
    go_ret
    have h := src_after HB.out
    generalize hS : IntKind.u64.wrap (IntKind.u64.wrap (IntKind.u64.wrap (seed * 6364136223846793005)) + 1442695040888963407) = S at *
    have ha := and255_bd (S / 1099511627776) (by omega) (by omega)
    refine ⟨bits .and .u64 (S / 1099511627776) 255, ha.1, ha.2, ?_, ⟨S, hw.1, hw.2, (h _ _ _ _).1⟩, (h _ _ _ _).2⟩
    show Ending.returned (Value.int IntKind.i64 (wrap64 _)) = _
    rw [IntWalk.wrap64_in _ (by omega)]

theorem RdB_kept {W w1 : World} {A : Option Addr} {n b : Nat} (h : RdB W A n b) (hg : W.grownBy w1 (some b)) : RdB w1 A n b := by
  intro k hk
  obtain ⟨g, off, z, e, hlt, hne, hc, z0, z1⟩ := h k hk
  exact ⟨g, off, z, e, Nat.lt_of_lt_of_le hlt hg.size, hne, hg.cell hc (fun e => hne (by injection e)), z0, z1⟩

theorem pick_any (b : Nat) (A : Option Addr) (n c N : Nat) (m : Int) (w : World) (hs : SrcAt w b (.slice A n c) N) (hr : RdB w A n b) (hN : N < 900000000) (hn : n ≤ 1000000) (hm1 : 200 < m) (hm2 : m ≤ 60000) :
    Calls Tryd.prog 94 #[.pointer (some ⟨b, 0, none⟩), .int .i64 m] w (NextR b (.slice A n c) (N + 2) 0 (m - 1) w) := by
  have HR := Lib.hid hr; clear hr
  have hgt : ¬ m ≤ 1 := by omega
  go_enter Tryd.func94, Tryd.ntmps94
  go_wp2_with fail
  refine (next_any b A n c N _ hs HR.out (by omega) hn).mono ?_
  rintro e w1 ⟨x, x0, x1, rfl, hs1, hg1⟩
  go_wp2_with fail
  refine (next_any b A n c (N + 1) _ hs1 (RdB_kept HR.out hg1) (by omega) hn).mono ?_
  rintro e w2 ⟨y, y0, y1, rfl, hs2, hg2⟩
  have hne : (m == 0) = false := by simp; omega
  have hrem : (x * 256 + y).tmod m = (x * 256 + y) % m := tmod_pos _ _ (by omega)
  have h0 := Int.emod_nonneg (x * 256 + y) (show m ≠ 0 by omega)
  have h1 := Int.emod_lt_of_pos (x * 256 + y) (show 0 < m by omega)
  have HREM := Lib.hid hrem; clear hrem
  go_wp2
  go_ret
  refine ⟨(x * 256 + y) % m, h0, by omega, ?_, hs2, grown_step hg1 hg2⟩
  first | rfl | (show Ending.returned _ = _; simp [HREM.out])

def DrawR (b : Nat) (v : Value) (N : Nat) (w : World) (e : Ending) (w' : World) : Prop :=
  ∃ x y : Int, (-600 ≤ x ∧ x ≤ 600) ∧ (-600 ≤ y ∧ y ≤ 600) ∧ e = .returned (.agg #[.int .i64 x, .int .i64 y]) ∧ SrcAt w' b v N ∧ w.grownBy w' (some b)

theorem draw_any (b : Nat) (A : Option Addr) (n c N : Nat) (w : World) (hs : SrcAt w b (.slice A n c) N) (hr : RdB w A n b) (hN : N < 800000000) (hn : n ≤ 1000000) (hb : b < w.heap.size) :
    Calls Tryd.prog 76 #[.pointer (some ⟨b, 0, none⟩)] w (DrawR b (.slice A n c) (N + 4) w) := by
  have HR := Lib.hid hr; clear hr
  go_enter Tryd.func76, Tryd.ntmps76
  go_wp2_with fail
  have hg0 : w.grownBy (w.alloc (.cells #[.int .i64 0, .int .i64 0] 35)) (some b) := World.grownBy_alloc _ _ _
  have hs0 : SrcAt (w.alloc (.cells #[.int .i64 0, .int .i64 0] 35)) b (.slice A n c) N := by
    obtain ⟨s, s0, s1, h⟩ := hs
    exact ⟨s, s0, s1, by rw [Below.heap_alloc _ _ _ hb]; exact h⟩
  refine (pick_any b A n c N 1201 _ hs0 (RdB_kept HR.out hg0) (by omega) hn (by omega) (by omega)).mono ?_
  rintro e w1 ⟨x, x0, x1, rfl, hs1, hg1⟩
  go_wp2_with fail
  refine (pick_any b A n c (N + 2) 1201 _ hs1 (RdB_kept (RdB_kept HR.out hg0) hg1) (by omega) hn (by omega) (by omega)).mono ?_
  rintro e w2 ⟨y, y0, y1, rfl, hs2, hg2⟩
  have hg3 := grown_step hg1 hg2
  have hblk : w2.heap[w.heap.size]? = some (.cells #[.int .i64 0, .int .i64 0] 35 (0, 0)) := by
    rw [hg3.block w.heap.size (by simp) (fun e => by injection e with e; omega)]
    exact heap_alloc_new w _
  have c0 := cell_of_row w2 w.heap.size 0 _ _ _ hblk
  have c1 := cell_of_row w2 w.heap.size 1 _ _ _ hblk
  have f0 := frozen_of_row w2 w.heap.size 0 _ _ hblk
  have f1 := frozen_of_row w2 w.heap.size 1 _ _ hblk
  simp at c0 c1
  have HB := Lib.hid hblk; clear hblk
  go_wp2
  refine bodyPost_ret (v := .agg #[.int .i64 (x - 600), .int .i64 (y - 600)]) (by simp [results, Tryd.results76, go_sem, c0, c1, f0, f1]) rfl ?_
  refine ⟨x - 600, y - 600, by omega, by omega, rfl, ?_, ?_⟩
  · obtain ⟨s, s0, s1, h⟩ := hs2
    refine ⟨s, s0, s1, ?_⟩
    rw [heap_setCell_other _ _ _ _ (show b ≠ w.heap.size by omega), heap_setCell_other _ _ _ _ (show b ≠ w.heap.size by omega)]
    exact h
  · have hg4 := grown_step hg0 hg3
    refine ⟨hg4.os, hg4.tape, hg4.output, by simp [World.setCell]; exact hg4.size, fun k hk hne => ?_⟩
    rw [heap_setCell_other _ _ _ _ (show k ≠ w.heap.size by omega), heap_setCell_other _ _ _ _ (show k ≠ w.heap.size by omega)]
    exact hg4.block k hk hne

/-- The slice reads as bytes. -/
def RdC (w : World) (A : Option Addr) (n : Nat) : Prop := ∀ k, k < n → ∃ b off z, A = some ⟨b, off, none⟩ ∧ b < w.heap.size ∧ w.cell? ⟨b, off + k, none⟩ = some (.int .u8 z) ∧ 0 ≤ z ∧ z ≤ 255

theorem RdC_B {w w1 : World} {A : Option Addr} {n x : Nat} (h : RdC w A n) (hb : Below w.heap.size w w1) (hx : w.heap.size ≤ x) : RdB w1 A n x := by
  intro k hk
  obtain ⟨b, off, z, e, hlt, hc, z0, z1⟩ := h k hk
  exact ⟨b, off, z, e, Nat.lt_of_lt_of_le hlt hb.size, by omega, by rw [kept_cell hb b _ hlt]; exact hc, z0, z1⟩

theorem from_any (v : Value) (w : World) (A : Option Addr) (n c : Nat) (hv : v = .slice A n c) :
    Calls Tryd.prog 51 #[v] w fun e w' => e = .returned (.pointer (some ⟨w.heap.size, 0, none⟩)) ∧ w.alloc (.cells #[v, .int .i64 0, .int .u64 0] 133) = w' := by
  subst hv
  go_enter Tryd.func51, Tryd.ntmps51
  go_wp2
  go_ret
  exact ⟨rfl, rfl⟩

theorem blk_grown {w w4 : World} {b B : Nat} {o : Obj} (h : w.heap[b]? = some o) (hg : w.grownBy w4 (some B)) (hne : b ≠ B) : w4.heap[b]? = some o := by
  have hlt : b < w.heap.size := by
    rcases Nat.lt_or_ge b w.heap.size with h' | h'
    · exact h'
    · rw [Array.getElem?_eq_none h'] at h; cases h
  rw [hg.block b hlt (fun e => hne (by injection e))]
  exact h

theorem blk_pair {w : World} {b : Nat} {p q : Value} {t : TypeId} (h : w.heap[b]? = some (.cells #[p, q] t (0, 0))) :
    w.cell? ⟨b, 0, none⟩ = some p ∧ w.cell? ⟨b, 1, none⟩ = some q ∧ w.frozen? ⟨b, 0, none⟩ = false ∧ w.frozen? ⟨b, 1, none⟩ = false :=
  ⟨by rw [cell_of_row w b 0 _ _ _ h]; rfl, by rw [cell_of_row w b 1 _ _ _ h]; rfl, frozen_of_row w b 0 _ _ h, frozen_of_row w b 1 _ _ h⟩

theorem undrew {w w1 : World} {row : Option Nat} (h : w.drew.grownBy w1 row) : w.grownBy w1 row := { os := h.os, tape := h.tape, output := h.output, size := h.size, block := h.block }

def PlacesR (w : World) (e : Ending) (w' : World) : Prop :=
  ∃ x1 y1 x2 y2 x3 y3 : Int, ((-600 ≤ x1 ∧ x1 ≤ 600) ∧ -600 ≤ y1 ∧ y1 ≤ 600) ∧ ((-600 ≤ x2 ∧ x2 ≤ 600) ∧ -600 ≤ y2 ∧ y2 ≤ 600) ∧ ((-600 ≤ x3 ∧ x3 ≤ 600) ∧ -600 ≤ y3 ∧ y3 ≤ 600) ∧
    e = .returned (.tuple #[.agg #[.int .i64 x1, .int .i64 y1], .agg #[.int .i64 x2, .int .i64 y2], .agg #[.int .i64 x3, .int .i64 y3]]) ∧ Below w.heap.size w w'

theorem places_any (A : Option Addr) (n c : Nat) (w : World) (hr : RdC w A n) (hn : n ≤ 1000000) :
    Calls Tryd.prog 36 #[.slice A n c] w (PlacesR w) := by
  have HR := Lib.hid hr; clear hr
  go_enter Tryd.func36, Tryd.ntmps36
  go_wp2_with fail
  refine (from_any _ _ A n c rfl).mono ?_
  rintro e w1 ⟨rfl, h1⟩
  simp only [World.size_alloc] at h1 ⊢
  have hb1 : Below w.heap.size w w1 := by rw [← h1]; go_grown
  have hs1 : SrcAt w1 (w.heap.size + 1 + 1 + 1) (.slice A n c) 0 := ⟨0, by omega, by omega, by
    rw [← h1]
    have := heap_alloc_new (((w.alloc (.cells #[.int .i64 0, .int .i64 0] 35)).alloc (.cells #[.int .i64 0, .int .i64 0] 35)).alloc (.cells #[.int .i64 0, .int .i64 0] 35)) (.cells #[.slice A n c, .int .i64 0, .int .u64 0] 133)
    simpa using this⟩
  have hz1 : w1.heap.size = w.heap.size + 1 + 1 + 1 + 1 := by rw [← h1]; simp
  have r0 : w1.heap[w.heap.size]? = some (.cells #[.int .i64 0, .int .i64 0] 35 (0, 0)) := by
    rw [← h1, Below.heap_alloc _ _ _ (by go_size), Below.heap_alloc _ _ _ (by go_size), Below.heap_alloc _ _ _ (by go_size)]
    exact heap_alloc_new w _
  have r1 : w1.heap[w.heap.size + 1]? = some (.cells #[.int .i64 0, .int .i64 0] 35 (0, 0)) := by
    rw [← h1, Below.heap_alloc _ _ _ (by go_size), Below.heap_alloc _ _ _ (by go_size)]
    have := heap_alloc_new (w.alloc (.cells #[.int .i64 0, .int .i64 0] 35)) (.cells #[.int .i64 0, .int .i64 0] 35)
    simpa using this
  have r2 : w1.heap[w.heap.size + 1 + 1]? = some (.cells #[.int .i64 0, .int .i64 0] 35 (0, 0)) := by
    rw [← h1, Below.heap_alloc _ _ _ (by go_size)]
    have := heap_alloc_new ((w.alloc (.cells #[.int .i64 0, .int .i64 0] 35)).alloc (.cells #[.int .i64 0, .int .i64 0] 35)) (.cells #[.int .i64 0, .int .i64 0] 35)
    simpa using this
  clear h1
  generalize hB : w.heap.size + 1 + 1 + 1 = B at *
  have HB := Lib.hid hB; clear hB
  have q1 := RdC_B HR.out hb1 (show w.heap.size ≤ B by have := HB.out; omega)
  have Q1 := Lib.hid q1; clear q1
  have H0 := Lib.hid r0; clear r0
  have H1 := Lib.hid r1; clear r1
  have H2 := Lib.hid r2; clear r2
  have HZ := Lib.hid hz1; clear hz1
  go_wp2_with fail
  refine (draw_any B A n c 0 _ hs1 Q1.out (by omega) hn (by have := HZ.out; omega)).mono ?_
  rintro e w2 ⟨x1, y1, hx1, hy1, rfl, hs2, hg2⟩
  have hz2 := hg2.size
  go_wp2_with fail
  have hs2' : SrcAt (w2.alloc (.cells #[.int .i64 x1, .int .i64 y1] 35)) B (.slice A n c) 4 := by
    obtain ⟨s, s0, s1, h⟩ := hs2
    exact ⟨s, s0, s1, by rw [Below.heap_alloc _ _ _ (by have := HZ.out; omega)]; exact h⟩
  have g2 := grown_step hg2 (World.grownBy_alloc w2 (.cells #[.int .i64 x1, .int .i64 y1] 35) (some B))
  refine (draw_any B A n c 4 _ hs2' (RdB_kept Q1.out g2) (by omega) hn (by simp; have := HZ.out; omega)).mono ?_
  rintro e w3 ⟨x2, y2, hx2, hy2, rfl, hs3, hg3⟩
  have hz3 := hg3.size
  simp at hz3
  go_wp2_with fail
  have hs3' : SrcAt (w3.alloc (.cells #[.int .i64 x2, .int .i64 y2] 35)) B (.slice A n c) 8 := by
    obtain ⟨s, s0, s1, h⟩ := hs3
    exact ⟨s, s0, s1, by rw [Below.heap_alloc _ _ _ (by have := HZ.out; omega)]; exact h⟩
  have g3 := grown_step g2 (grown_step hg3 (World.grownBy_alloc w3 (.cells #[.int .i64 x2, .int .i64 y2] 35) (some B)))
  have ba2 : (w2.alloc (.cells #[.int .i64 x1, .int .i64 y1] 35)).heap[w2.heap.size]? = some (.cells #[.int .i64 x1, .int .i64 y1] 35 (0, 0)) := heap_alloc_new _ _
  have ba := blk_grown ba2 (grown_step hg3 (World.grownBy_alloc w3 (.cells #[.int .i64 x2, .int .i64 y2] 35) (some B))) (by have := HZ.out; omega)
  have bb : (w3.alloc (.cells #[.int .i64 x2, .int .i64 y2] 35)).heap[w3.heap.size]? = some (.cells #[.int .i64 x2, .int .i64 y2] 35 (0, 0)) := heap_alloc_new _ _
  obtain ⟨a0, a1, _, _⟩ := blk_pair ba
  obtain ⟨a2, a3, _, _⟩ := blk_pair bb
  have lt0 : w.heap.size < w2.heap.size := by have := HB.out; have := HZ.out; omega
  have lt1 : w.heap.size + 1 < w2.heap.size := by have := HB.out; have := HZ.out; omega
  have lt2 : w.heap.size + 1 + 1 < w2.heap.size := by have := HB.out; have := HZ.out; omega
  have n0 : ¬ w.heap.size = w2.heap.size := by omega
  have n1 : ¬ w.heap.size + 1 = w2.heap.size := by omega
  have n2 : ¬ w.heap.size + 1 + 1 = w2.heap.size := by omega
  have n3 : ¬ w.heap.size = w3.heap.size := by omega
  have n4 : ¬ w.heap.size + 1 = w3.heap.size := by omega
  have n5 : ¬ w.heap.size + 1 + 1 = w3.heap.size := by omega
  have K0 := Lib.hid (blk_grown H0.out g3 (by have := HB.out; omega))
  have K1 := Lib.hid (blk_grown H1.out g3 (by have := HB.out; omega))
  have K2 := Lib.hid (blk_grown H2.out g3 (by have := HB.out; omega))
  have Q3 := Lib.hid (RdB_kept Q1.out g3)
  have S3 := Lib.hid hs3'; clear hs3'
  have BA := Lib.hid ba
  have BB := Lib.hid bb
  clear ba2 ba bb
  go_region_held3 (fun w' => w'.cell? ⟨w2.heap.size, 0, none⟩ = some (.int .i64 x1) ∧ w'.cell? ⟨w2.heap.size, 1, none⟩ = some (.int .i64 y1) ∧ w'.cell? ⟨w3.heap.size, 0, none⟩ = some (.int .i64 x2) ∧ w'.cell? ⟨w3.heap.size, 1, none⟩ = some (.int .i64 y2)) (go_keep)
    (first | (go_at_call 76; refine (draw_any B A n c 8 _ (by exact S3.out) (by exact Q3.out) (by omega) hn (by simp; have := HZ.out; omega)).mono ?_; rintro e w4 ⟨x3, y3, hx3, hy3, rfl, hs4, hg4⟩; have hz4 := hg4.size; simp at hz4; (first | (replace hg4 := undrew hg4) | skip); obtain ⟨c0, c1, f0, f1⟩ := blk_pair (blk_grown (w4 := w4) K0.out (by exact hg4) (by have := HB.out; omega)); obtain ⟨d0, d1, i0, i1⟩ := blk_pair (blk_grown (w4 := w4) K1.out (by exact hg4) (by have := HB.out; omega)); obtain ⟨m0, m1, j0, j1⟩ := blk_pair (blk_grown (w4 := w4) K2.out (by exact hg4) (by have := HB.out; omega)); obtain ⟨p0, p1, _, _⟩ := blk_pair (blk_grown (w4 := w4) BA.out (by exact hg4) (by have := HB.out; have := HZ.out; omega)); obtain ⟨q0, q1, _, _⟩ := blk_pair (blk_grown (w4 := w4) BB.out (by exact hg4) (by have := HB.out; have := HZ.out; omega))))
  have hbB : ∀ g, some B = some g → w.heap.size ≤ g := fun g e => by injection e with e; have := HB.out; omega
  have hf1 : Below w.heap.size w (w3.alloc (.cells #[.int .i64 x2, .int .i64 y2] 35)) := grown_below hb1 g3 hbB
  have hf2 : Below w.heap.size w w4 := grown_below hf1 (by exact hg4) hbB
  go_wp2
  refine bodyPost_ret (v := .tuple #[.agg #[.int .i64 x1, .int .i64 y1], .agg #[.int .i64 x2, .int .i64 y2], .agg #[.int .i64 x3, .int .i64 y3]]) (by simp [results, Tryd.results36, go_sem, c0, c1, f0, f1, d0, d1, i0, i1, m0, m1, j0, j1]) rfl ?_
  refine ⟨x1, y1, x2, y2, x3, y3, ⟨hx1, hy1⟩, ⟨hx2, hy2⟩, ⟨hx3, hy3⟩, rfl, ?_⟩
  exact (((((hf2.setCell (by simp) _).setCell (by simp) _).setCell (by simp) _).setCell (by simp) _).setCell (by simp; omega) _).setCell (by simp; omega) _

/-- A slice of bytes that came in, opened. -/
theorem open_bytes {H : Type} {enc : TypeId × Value → H} {P : Program} {W : World} {r : Reach} {b0 base : Nat} {sp : Nat → Bool} {held : Bool} {t e : TypeId} {v : Value} {d : DataW H} {p : List MemPlace}
    (ht : P.underlying t = some (.slice e)) (he : P.underlying e = some (.int .u8)) (hc : P.cellsOf e = 1) (hv : Value.okWide P W r b0 t v) (hd : DataW.Trod enc P W base sp held t v d p) :
    ∃ A n c, v = .slice A n c ∧ RdC W A n ∧ n ≤ maxLen := by
  obtain ⟨A, n, c, rfl⟩ := okWide_slice ht hv
  obtain ⟨fuel, hf⟩ := hd
  rcases open_ints ht he hc hf with ⟨hcs, _⟩ | ⟨a, l, cap, zs, hcs, _, hl, hm, hz, _, hcell, hwf⟩
  · simp [Value.cells] at hcs
    obtain ⟨rfl, rfl, rfl⟩ := hcs
    exact ⟨_, _, _, rfl, fun k hk => by omega, by omega⟩
  · simp [Value.cells] at hcs
    obtain ⟨rfl, rfl, rfl⟩ := hcs
    refine ⟨_, _, _, rfl, fun k hk => ?_, by omega⟩
    have hlen : n ≤ zs.length := by rw [hz]; split <;> omega
    obtain ⟨b, off, rfl, hc2⟩ := ints_at hcell (by omega)
    have hk2 := hc2 k (by omega)
    have hz2 := bounds_u8 (hwf (zs.getD k 0) (by simp [List.getD, show k < zs.length by omega]))
    exact ⟨b, off, zs.getD k 0, rfl, block_lt_of_cell hk2, hk2, hz2.1, hz2.2⟩

theorem okP_small {x y : Int} (hx : -600 ≤ x ∧ x ≤ 600) (hy : -600 ≤ y ∧ y ≤ 600) : okP x y = true := by
  simp [okP, inB]
  omega

theorem long_no (A B : Option Addr) (n c m d : Nat) (hn : n ≤ 3000) (hm : m ≤ 3000) (w : World) :
    Calls Tryd.prog 17 #[.slice A n c, .slice B m d] w fun e w' => e = .returned (.bool false) ∧ w = w' := by
  have h1 : (n : Int) ≤ 3000 := by omega
  have h2 : (m : Int) ≤ 3000 := by omega
  go_enter Tryd.func17, Tryd.ntmps17
  go_wp2
  go_ret
  exact ⟨by simp <;> omega, rfl⟩

/-- d is the first direction with the greatest product. -/
def firstBest (p q : Int) (d : Nat) : Bool := (List.range 24).all fun e => decide (scal p q e < scal p q d) || (decide (d ≤ e) && decide (scal p q e ≤ scal p q d))

theorem firstBest_st (p q : Int) (d : Nat) (hd : d < 24) (h : firstBest p q d = true) : (stL p q 24).1 = d := by
  have hall : ∀ e : Nat, e < 24 → scal p q e < scal p q d ∨ (d ≤ e ∧ scal p q e ≤ scal p q d) := by
    intro e he
    have := List.all_eq_true.mp h e (by simpa using he)
    simpa using this
  have key : ∀ k : Nat, k ≤ 24 → (k ≤ d → k = 0 ∨ (stL p q k).2 < scal p q d) ∧ (d < k → stL p q k = ((d : Int), scal p q d)) := by
    intro k
    induction k with
    | zero => intro _; exact ⟨fun _ => .inl rfl, fun h => by omega⟩
    | succ k ih =>
      intro hk
      have ih := ih (by omega)
      have e : stL p q (k + 1) = if k = 0 ∨ (stL p q k).2 < scal p q k then ((k : Int), scal p q k) else stL p q k := rfl
      rw [e]
      have hk' := hall k (by omega)
      constructor
      · intro hle
        right
        rcases ih.1 (by omega) with h0 | h0
        · rw [if_pos (.inl h0)]
          rcases hk' with h1 | h1
          · exact h1
          · omega
        · split
          · rcases hk' with h1 | h1
            · exact h1
            · omega
          · exact h0
      · intro hlt
        by_cases hkd : k = d
        · subst hkd
          rcases ih.1 (Nat.le_refl _) with h0 | h0
          · rw [if_pos (.inl h0)]
          · rw [if_pos (.inr h0)]
        · have h0 := ih.2 (by omega)
          rw [h0]
          simp only []
          rw [if_neg]
          rcases hk' with h1 | h1
          · omega
          · omega
  have := (key 24 (Nat.le_refl _)).2 hd
  rw [this]

def okD (d : Nat) : Bool := (List.range 256).all fun k => firstBest (((vecL d).1 * (100 + (k : Int))).tdiv 1000) (((vecL d).2 * (100 + (k : Int))).tdiv 1000) d &&
  (decide (((vecL d).1 * (100 + (k : Int))).tdiv 1000 ≠ 0) || decide (((vecL d).2 * (100 + (k : Int))).tdiv 1000 ≠ 0))

theorem okD_all : (List.range 24).all okD = true := by decide +kernel

theorem turn_dir (d k : Int) (hd : 0 ≤ d ∧ d ≤ 23) (hk : 0 ≤ k ∧ k ≤ 255) :
    (((vecL d).1 * (100 + k)).tdiv 1000 ≠ 0 ∨ ((vecL d).2 * (100 + k)).tdiv 1000 ≠ 0) ∧ (stL (((vecL d).1 * (100 + k)).tdiv 1000) (((vecL d).2 * (100 + k)).tdiv 1000) 24).1 = d := by
  obtain ⟨d, rfl⟩ : ∃ m : Nat, d = m := ⟨d.toNat, by omega⟩
  obtain ⟨k, rfl⟩ : ∃ m : Nat, k = m := ⟨k.toNat, by omega⟩
  have h := List.all_eq_true.mp okD_all d (by simp; omega)
  have h2 := List.all_eq_true.mp h k (by simp; omega)
  simp only [Bool.and_eq_true, Bool.or_eq_true, decide_eq_true_eq] at h2
  exact ⟨h2.2, firstBest_st _ _ d (by omega) h2.1⟩

def NumR (lo hi : Int) (w : World) (e : Ending) (w' : World) : Prop := ∃ x : Int, (lo ≤ x ∧ x ≤ hi) ∧ e = .returned (.int .i64 x) ∧ w = w'

theorem at_any (A : Option Addr) (n c : Nat) (i m : Int) (w : World) (hr : RdC w A n) (hn : n ≤ 1000000) (hi : 0 ≤ i) (hm : 1 ≤ m ∧ m ≤ 256) :
    Calls Tryd.prog 23 #[.slice A n c, .int .i64 i, .int .i64 m] w (NumR 0 (m - 1) w) := by
  by_cases hlt : i < n
  · obtain ⟨b, off, z, rfl, hb, hc, z0, z1⟩ := hr i.toNat (by omega)
    obtain ⟨k, rfl⟩ : ∃ k : Nat, i = k := ⟨i.toNat, by omega⟩
    rw [Int.toNat_natCast] at hc
    clear hr
    have h0 := Int.emod_nonneg z (show m ≠ 0 by omega)
    have h1 := Int.emod_lt_of_pos z (show 0 < m by omega)
    have hne : (m == 0) = false := by simp; omega
    go_enter Tryd.func23, Tryd.ntmps23
    go_wp2
    go_ret
    exact ⟨z % m, ⟨h0, by omega⟩, rfl, rfl⟩
  · clear hr
    go_enter Tryd.func23, Tryd.ntmps23
    go_wp2
    go_ret
    exact ⟨0, ⟨by omega, by omega⟩, rfl, rfl⟩

theorem RdC_kept {w w1 : World} {A : Option Addr} {n : Nat} (h : RdC w A n) (hb : Below w.heap.size w w1) : RdC w1 A n := by
  intro k hk
  obtain ⟨b, off, z, e, hlt, hc, z0, z1⟩ := h k hk
  exact ⟨b, off, z, e, Nat.lt_of_lt_of_le hlt hb.size, by rw [kept_cell hb b _ hlt]; exact hc, z0, z1⟩

theorem wayL_at (d s : Int) (hd : 0 ≤ d ∧ d ≤ 23) (n i : Nat) (hi : i ≤ n) : (wayL d s n)[i]? = some ((d + s * i) % 24) := by
  induction n with
  | zero =>
    have : i = 0 := by omega
    subst this
    simp [wayL]
    omega
  | succ n ih =>
    unfold wayL
    by_cases h : i ≤ n
    · rw [List.getElem?_append_left (by rw [wayL_len]; omega)]
      exact ih h
    · have : i = n + 1 := by omega
      subst this
      rw [List.getElem?_append_right (by rw [wayL_len]; omega), wayL_len]
      simp

/-- What the law asks of turns, in numbers. -/
theorem turns_facts (d e : Int) (s : Int) (n : Nat) (hd : 0 ≤ d ∧ d ≤ 23) (he : 0 ≤ e ∧ e ≤ 23) (hs : s = 1 ∨ s = -1) (hn : n ≤ 60) :
    turnByL d (s * n) = ((d + s * n) % 24, 0) ∧ turnByL ((d + s * n) % 24) (-(s * n)) = (d, 0) ∧ turnBetweenL d e = (turnL (e - d), 0) ∧ (-11 ≤ turnL (e - d) ∧ turnL (e - d) ≤ 12) ∧ turnByL d (turnL (e - d)) = (e, 0) := by
  have i1 : inB d 0 23 = true := by simp [inB]; omega
  have i2 : inB e 0 23 = true := by simp [inB]; omega
  have i3 : inB (s * n) (-1000) 1000 = true := by rcases hs with rfl | rfl <;> simp [inB] <;> omega
  have i4 : inB (-(s * n)) (-1000) 1000 = true := by rcases hs with rfl | rfl <;> simp [inB] <;> omega
  have i5 : inB ((d + s * n) % 24) 0 23 = true := by simp [inB]; omega
  have t : -11 ≤ turnL (e - d) ∧ turnL (e - d) ≤ 12 := by unfold turnL; split <;> omega
  have i6 : inB (turnL (e - d)) (-1000) 1000 = true := by simp [inB]; omega
  refine ⟨by simp [turnByL, i1, i3], ?_, by simp [turnBetweenL, i1, i2], t, ?_⟩
  · simp only [turnByL, i4, i5, Bool.and_self, if_true]
    rcases hs with rfl | rfl <;> (congr 1; omega)
  · simp only [turnByL, i1, i6, Bool.and_self, if_true]
    unfold turnL
    split <;> (congr 1; omega)

theorem turn_step (d s : Int) (k : Nat) (hs : s = 1 ∨ s = -1) (hk : 1 ≤ k) : turnBetweenL ((d + s * ((k - 1 : Nat) : Int)) % 24) ((d + s * k) % 24) = (s, 0) := by
  have i1 : inB ((d + s * ((k - 1 : Nat) : Int)) % 24) 0 23 = true := by simp [inB]; omega
  have i2 : inB ((d + s * k) % 24) 0 23 = true := by simp [inB]; omega
  simp only [turnBetweenL, i1, i2, Bool.and_self, if_true]
  congr 1
  unfold turnL
  rcases hs with rfl | rfl <;> split <;> omega

theorem step_calls (d s : Int) (k : Nat) (hs : s = 1 ∨ s = -1) (hk : 1 ≤ k) (W : World) :
    Calls Tryd.prog 35 #[.int .i64 ((d + s * ((k - 1 : Nat) : Int)) % 24), .int .i64 ((d + s * k) % 24)] W fun e w' => e = .returned (.tuple #[.int .i64 s, .int .i64 0]) ∧ w' = W := by
  refine (specTurnBetween_any ((d + s * ((k - 1 : Nat) : Int)) % 24) ((d + s * k) % 24) W).mono ?_
  rw [turn_step d s k hs hk]
  rintro e w' ⟨rfl, rfl⟩
  exact ⟨rfl, rfl⟩

theorem vec_turn (d : Int) (hd : 0 ≤ d ∧ d ≤ 23) : vecL ((d + 6) % 24) = (-(vecL d).2, (vecL d).1) := by
  obtain ⟨m, rfl⟩ : ∃ m : Nat, d = m := ⟨d.toNat, by omega⟩
  have h : (List.range 24).all (fun m => decide (vecL (((m : Nat) : Int) + 6) = (0, 0)) || decide (vecL ((((m : Nat) : Int) + 6) % 24) = (-(vecL m).2, (vecL m).1))) = true := by decide +kernel
  have := List.all_eq_true.mp h m (by simp; omega)
  simp only [Bool.or_eq_true, decide_eq_true_eq] at this
  rcases this with h1 | h1
  · exfalso
    have h2 : (List.range 24).all (fun m => decide (vecL (((m : Nat) : Int) + 6) ≠ (0, 0))) = true := by decide +kernel
    have := List.all_eq_true.mp h2 m (by simp; omega)
    simp at this
    exact this h1
  · exact h1

/-- What PlaceAt leaves: a place, in which DirectionTo finds the direction again. -/
def PlaceR (fx fy d : Int) (w : World) (e : Ending) (w' : World) : Prop :=
  ∃ px py : Int, okP px py = true ∧ e = .returned (.tuple #[.agg #[.int .i64 px, .int .i64 py], .int .i64 0]) ∧ Below w.heap.size w w' ∧
    Hid (∀ W : World, VecTab W → Calls Tryd.prog 38 #[.agg #[.int .i64 fx, .int .i64 fy], .agg #[.int .i64 px, .int .i64 py]] W fun e W' => e = .returned (.tuple #[.int .i64 d, .int .i64 0]) ∧ Below W.heap.size W W')

theorem place_ok (fx fy d k : Int) (hx : -600 ≤ fx ∧ fx ≤ 600) (hy : -600 ≤ fy ∧ fy ≤ 600) (hd : 0 ≤ d ∧ d ≤ 23) (hk : 0 ≤ k ∧ k ≤ 255) (W : World) (ht : VecTab W) :
    Calls Tryd.prog 29 #[.agg #[.int .i64 fx, .int .i64 fy], .int .i64 d, .int .i64 (100 + k)] W (PlaceR fx fy d W) := by
  have ho := okP_small hx hy
  have hv := vecL_bd d
  have b1 := offs_bd _ (100 + k) hv.1 (by omega)
  have b2 := offs_bd _ (100 + k) hv.2 (by omega)
  have htd := turn_dir d k hd hk
  have i1 : inB d 0 23 = true := by simp [inB]; omega
  have i2 : inB (100 + k) 0 1000 = true := by simp [inB]; omega
  have hoff : offL fx fy d (100 + k) = (fx + ((vecL d).1 * (100 + k)).tdiv 1000, fy + ((vecL d).2 * (100 + k)).tdiv 1000) := rfl
  have hp : okP (offL fx fy d (100 + k)).1 (offL fx fy d (100 + k)).2 = true := by rw [hoff]; simp [okP, inB]; omega
  have hE : placeL fx fy d (100 + k) = (offL fx fy d (100 + k), 0) := by simp [placeL, ho, i1, i2, hp]
  refine (implPlaceAt_any fx fy d (100 + k) W ht).mono ?_
  rw [hE]
  rintro e w' ⟨rfl, hb⟩
  refine ⟨_, _, hp, rfl, hb, fun W2 ht2 => ?_⟩
  refine (implDirectionTo_any _ _ _ _ W2 ht2).mono ?_
  have hD : dirToL fx fy (offL fx fy d (100 + k)).1 (offL fx fy d (100 + k)).2 = (d, 0) := by
    unfold dirToL
    rw [ho, hp, hoff]
    simp only [Bool.and_self, if_true]
    rw [if_neg (by omega), show fx + ((vecL d).1 * (100 + k)).tdiv 1000 - fx = ((vecL d).1 * (100 + k)).tdiv 1000 by omega, show fy + ((vecL d).2 * (100 + k)).tdiv 1000 - fy = ((vecL d).2 * (100 + k)).tdiv 1000 by omega, htd.2]
  rw [hD]
  rintro e w2 ⟨rfl, hb2⟩
  exact ⟨rfl, hb2⟩

theorem implVectorOf_ok (d : Int) (hd : 0 ≤ d ∧ d ≤ 23) (w : World) (ht : VecTab w) :
    Calls Tryd.prog 34 #[.int .i64 d] w fun e w' => e = .returned (.tuple #[.agg #[.int .i64 (vecL d).1, .int .i64 (vecL d).2], .int .i64 0]) ∧ Below w.heap.size w w' := by
  have h := implVectorOf_any d w ht
  rw [show vecOfL d = (vecL d, 0) by simp [vecOfL, inB]; omega] at h
  exact h

/-- What WayOf leaves: a row of N + 1 numbers in block g. -/
def WayR (zs : List Int) (N : Nat) (w : World) (e : Ending) (w' : World) : Prop :=
  ∃ g cap : Nat, e = .returned (.tuple #[.slice (some ⟨g, 0, none⟩) (N + 1) cap, .int .i64 0]) ∧ (∀ k z, zs[k]? = some z → w'.cell? ⟨g, k, none⟩ = some (.int .i64 z)) ∧ g < w'.heap.size ∧ Below w.heap.size w w'

theorem way_ok (d b s : Int) (N : Nat) (hd : 0 ≤ d ∧ d ≤ 23) (hs : s = 1 ∧ b = N ∨ s = -1 ∧ b = -(N : Int) ∧ 1 ≤ N) (hN : N ≤ 60) (w : World) :
    Calls Tryd.prog 33 #[.int .i64 d, .int .i64 b] w (WayR (wayL d s N) N w) := by
  have i1 : inB d 0 23 = true := by simp [inB]; omega
  have i2 : inB b (-1000) 1000 = true := by simp [inB]; omega
  have hE : wayAll d b = (wayL d s N, 0) := by
    simp only [wayAll, i1, i2, Bool.and_self, if_true]
    rcases hs with ⟨rfl, rfl⟩ | ⟨rfl, rfl, h1⟩
    · rw [if_pos (by omega)]; simp
    · rw [if_neg (by omega)]; simp
  refine (implWayOf_any d b w).mono ?_
  rw [hE]
  rintro e w' ⟨v, rfl, hrow, hb⟩
  rcases RowI_form hrow with ⟨h0, _⟩ | ⟨g, cap, rfl, _, _, hlt, _, _⟩
  · have := wayL_len d s N
    simp only [] at h0
    rw [h0] at this
    simp at this
  · simp only [wayL_len] at hrow ⊢
    refine ⟨g, cap, rfl, fun k z hz => ?_, hlt, hb⟩
    have hk : k < (wayL d s N).length := by
      rcases Nat.lt_or_ge k (wayL d s N).length with h | h
      · exact h
      · rw [List.getElem?_eq_none h] at hz; cases hz
    rw [wayL_len] at hk
    have h1 := hrow.1
    simp only [wayL_len] at h1
    rw [h1.cellAt k (by omega)]
    simp [hz]

-- needs open_bytes
set_option maxHeartbeats 16000000 in
set_option maxRecDepth 100000 in
theorem walk_FnTurns (A : Option Addr) (n c : Nat) (w : World) (hr : RdC w A n) (hn : n ≤ maxLen) (ht : VecTab w) :
    Calls Tryd.prog 6 #[.slice A n c] w fun e w' => e = .returned (.bool true) ∧ Below w.heap.size w w' := by
  unfold maxLen at hn
  by_cases hl : n ≤ 3000
  · have AT := Lib.hid (fun i m W (h1 : Below w.heap.size w W) h2 h3 => at_any A n c i m W (RdC_kept hr h1) (by omega) h2 h3)
    have PL := Lib.hid (fun W (h1 : Below w.heap.size w W) => places_any A n c W (RdC_kept hr h1) (by omega))
    have HT := Lib.hid ht; clear ht hr
    go_enter Tryd.func6, Tryd.ntmps6
    go_wp2_with fail
    refine (long_no _ _ _ _ _ _ hl (by omega) _).mono ?_
    rintro e w0 ⟨rfl, rfl⟩
    go_wp2_with fail
    refine (AT.out 0 24 _ (Below.refl _ _) (by omega) (by omega)).mono ?_
    rintro e w0 ⟨d, hd, rfl, rfl⟩
    go_wp2_with fail
    refine (AT.out 1 24 _ (Below.refl _ _) (by omega) (by omega)).mono ?_
    rintro e w0 ⟨e1, he, rfl, rfl⟩
    go_wp2_with fail
    refine (AT.out 2 120 _ (Below.refl _ _) (by omega) (by omega)).mono ?_
    rintro e w0 ⟨b0, hb0, rfl, rfl⟩
    obtain ⟨b, rfl⟩ : ∃ b, b0 = b + 60 := ⟨b0 - 60, by omega⟩
    obtain ⟨s, N, hsb, hs⟩ : ∃ (s : Int) (N : Nat), b = s * N ∧ (s = 1 ∧ b = N ∨ s = -1 ∧ b = -(N : Int) ∧ 1 ≤ N) := by
      by_cases h : 0 ≤ b
      · exact ⟨1, b.toNat, by omega, .inl ⟨rfl, by omega⟩⟩
      · exact ⟨-1, (-b).toNat, by omega, .inr ⟨rfl, by omega, by omega⟩⟩
    have hN : N ≤ 60 := by omega
    have hs1 : s = 1 ∨ s = -1 := by omega
    have hmax : max b (-b) = N := by omega
    obtain ⟨f1, f2, f3, f4, f5⟩ := turns_facts d e1 s N (by omega) (by omega) hs1 hN
    rw [← hsb] at f1 f2
    have T1 := implTurnBy_any d b
    rw [f1] at T1
    have T2 := implTurnBetween_any d e1
    rw [f3] at T2
    have T3 := implTurnBy_any ((d + b) % 24) (-b)
    rw [f2] at T3
    have T4 := implTurnBy_any d (turnL (e1 - d))
    rw [f5] at T4
    have T5 := way_ok d b s N (by omega) hs hN
    have zat := wayL_at d s (by omega) N
    have tst := fun k h => turn_step d s k hs1 h
    generalize turnL (e1 - d) = y at *
    generalize wayL d s N = zs at *
    have K1 := Lib.hid T1; clear T1
    have K2 := Lib.hid T2; clear T2
    have K3 := Lib.hid T3; clear T3
    have K4 := Lib.hid T4; clear T4
    have K5 := Lib.hid T5; clear T5
    have ZAT := Lib.hid zat; clear zat
    have TST := Lib.hid tst; clear tst
    have HM := Lib.hid hmax; clear hmax
    have HSB := Lib.hid hsb; clear hsb
    have HS := Lib.hid hs; clear hs
    clear f1 f2 f3 f5
    have hd24 : 0 ≤ (d + b) % 24 ∧ (d + b) % 24 ≤ 23 := by omega
    generalize hX : (d + b) % 24 = x at *
    have HX := Lib.hid hX; clear hX
    go_wp2_with fail
    refine (K1.out _).mono ?_
    rintro e w0 ⟨rfl, rfl⟩
    go_wp2_with fail
    refine (K2.out _).mono ?_
    rintro e w0 ⟨rfl, rfl⟩
    have hvt := vec_turn d (by omega)
    have hvb := vecL_bd d
    have V1 := implVectorOf_ok d (by omega)
    have V2 := implVectorOf_ok ((d + 6) % 24) (by omega)
    rw [hvt] at V2
    generalize hvv : vecL d = vv at *
    have HVV := Lib.hid hvv; clear hvv
    obtain ⟨vx, vy⟩ := vv
    simp only [] at V1 V2 hvb
    clear hvt
    have KV1 := Lib.hid V1; clear V1
    have KV2 := Lib.hid V2; clear V2
    go_wp2_with fail
    refine (K5.out _).mono ?_
    rintro e w1 ⟨g, cap, rfl, hcells, hg, b1⟩
    have z1 := b1.size
    have CE := Lib.hid hcells; clear hcells
    go_wp2_with fail
    refine (KV1.out _ (VecTab_kept HT.out (by go_grown))).mono ?_
    rintro e w2 ⟨rfl, b2⟩
    refine kept_at b2 (g) (by go_size) fun c2_0 z2_0 s2_0 => ?_
    replace b2 := kept_trans (a := w) (by go_grown) b2
    have l2 := kept_cell b2
    have zz2 := b2.size
    go_wp2_with fail
    refine (KV2.out _ (VecTab_kept HT.out (by go_grown))).mono ?_
    rintro e w3 ⟨rfl, b3⟩
    refine kept_at b3 (g) (by go_size) fun c3_0 z3_0 s3_0 => ?_
    refine kept_at b3 (w2.heap.size) (by go_size) fun c3_1 z3_1 s3_1 => ?_
    replace b3 := kept_trans (a := w) (by go_grown) b3
    have l3 := kept_cell b3
    have zz3 := b3.size
    go_wp2_with fail
    refine (K3.out _).mono ?_
    rintro e w0 ⟨rfl, rfl⟩
    go_wp2_with fail
    refine (K4.out _).mono ?_
    rintro e w0 ⟨rfl, rfl⟩
    have q0 : w1.cell? ⟨g, 0, none⟩ = some (.int .i64 d) := CE.out 0 d (by rw [ZAT.out 0 (by omega)]; simp; omega)
    have qN : w1.cell? ⟨g, N, none⟩ = some (.int .i64 x) := CE.out N x (by rw [ZAT.out N (Nat.le_refl _), ← HSB.out, HX.out])
    have hlenN : (N : Int) ≤ 60 := by omega
    have hidx : ((N : Int) + 1 - 1).toNat = N := by omega
    have hmm : (¬ b < -b ∧ -b ≤ b ∧ ((N : Int) != b) = false ∧ ((N : Int) + 1 != b + 1) = false) ∨ (b < -b ∧ b ≤ -b ∧ ((N : Int) != -b) = false ∧ ((N : Int) + 1 != -b + 1) = false) := by
      rcases HS.out with ⟨_, hbN⟩ | ⟨_, hbN, hN1⟩
      · exact .inl ⟨by omega, by omega, by simp; omega, by simp; omega⟩
      · exact .inr ⟨by omega, by omega, by simp; omega, by simp; omega⟩
    have TB := Lib.hid (fun k (h : 1 ≤ k) => step_calls d s k hs1 h)
    rcases hmm with ⟨m1, m2, m3, m4⟩ | ⟨m1, m2, m3, m4⟩
    all_goals
      go_wp2_with fail
      have zz : Below w.heap.size w (w3.alloc (.cells #[.int .i64 (-vy), .int .i64 vx] 35)) := by go_grown
      clear m1 m2 m3 m4
      go_loopw [21] (fun i wr => ∃ k : Nat, 1 ≤ k ∧ k ≤ N + 1 ∧ i = .int .i64 k ∧ Below w.heap.size w wr ∧ (∀ o, wr.cell? ⟨g, o, none⟩ = w1.cell? ⟨g, o, none⟩)) (fun i _ => N + 1 - (intOf i).toNat)
      case atStart => exact ⟨1, by omega, by omega, rfl, zz, fun o => by simp [go_sem, s3_0, s3_1, c3_0, c2_0, s2_0]⟩
      case round =>
        obtain ⟨k, hk1, hk2, rfl, hbw, hcw⟩ := hrel
        have HCW := Lib.hid hcw; clear hcw
        have hbs := hbw.size
        by_cases hlt : k < N + 1
        · have u1 : wr.cell? ⟨g, k, none⟩ = some (.int .i64 ((d + s * k) % 24)) := by rw [HCW.out]; exact CE.out k _ (ZAT.out k (by omega))
          have u0 : wr.cell? ⟨g, k - 1, none⟩ = some (.int .i64 ((d + s * ((k - 1 : Nat) : Int)) % 24)) := by rw [HCW.out]; exact CE.out (k - 1) _ (ZAT.out (k - 1) (by omega))
          have tb := TB.out k hk1
          have e0 : 0 ≤ (d + s * k) % 24 ∧ (d + s * k) % 24 ≤ 23 := by omega
          have x0 : ((k : Int) - 1).toNat = k - 1 := by omega
          have x1 : (s != 1) = false ∨ (s != 1) = true ∧ (s != -1) = false := by
            rcases hs1 with h | h
            · exact .inl (by simp [h])
            · exact .inr ⟨by simp [h], by simp [h]⟩
          generalize (d + s * k) % 24 = z1 at *
          generalize (d + s * ((k - 1 : Nat) : Int)) % 24 = z0 at *
          have TBK := Lib.hid tb; clear tb
          rcases x1 with x1 | ⟨x1, x2⟩
          all_goals
            go_wp2_with fail
            go_quiet ((go_at_call 35; exact Calls.quiet_of_same (TBK.out _)))
            go_wp2
            go_roundw
            case rel => exact ⟨k + 1, by omega, by omega, by go_num, kept_drewN hbw _, HCW.out⟩
            case measure => simp [intOf]; omega
        · go_wp2_with fail
          refine (PL.out wr hbw).mono ?_
          rintro e w4 ⟨fx, fy, ax, ay, bx, ay2, ⟨hfx, hfy⟩, _, _, rfl, b4⟩
          have b4' := kept_trans hbw b4
          have z4 := b4'.size
          have hd23 : 0 ≤ d ∧ d ≤ 23 := by omega
          clear HCW hbs K1 K2 K3 K4 K5 ZAT TST TB HM HSB HS HX HVV KV1 KV2 CE hvb q0 qN hlenN hidx zz f4 hd24 hlt hk1 hk2 c2_0 z2_0 s2_0 c3_0 z3_0 s3_0 c3_1 z3_1 s3_1 l2 l3 b1 b2 b3 hbw b4
          go_wp2_with fail
          go_region_held3 (fun w' => w'.cell? ⟨w4.heap.size, 0, none⟩ = some (.int .i64 fx) ∧ w'.cell? ⟨w4.heap.size, 1, none⟩ = some (.int .i64 fy)) (first | go_keep | (simp [go_sem, cn]; done))
            (first | (go_at_call 23; refine (AT.out 3 256 _ (by go_grown) (by omega) (by omega)).mono ?_; rintro e w0 ⟨k3, hk3, rfl, rfl⟩; have hw3 : IntKind.i64.wrap (100 + k3) = 100 + k3 := IntWalk.i64_in _ (by omega)) | (go_at_call 29; refine (place_ok fx fy d k3 hfx hfy hd23 (by omega) _ (VecTab_kept HT.out (by go_grown))).mono ?_; rintro e w5 ⟨px, py, hop, rfl, b5, hdir⟩; have z5 := b5.size; simp at z5; refine kept_at b5 w4.heap.size (by go_size) fun cn zn sn => ?_; (try (refine kept_at b5 (w4.heap.size + 1 + 1 + 1) ?_ (fun cm zm sm => ?_); focus go_size)); replace b5 := kept_trans (a := w) (by go_grown) b5))
          all_goals
            obtain ⟨hf0, hf1⟩ := ‹_ ∧ _›
            go_wp2_with fail
            refine (specValidPlace_any px py _).mono ?_
            rw [hop]
            rintro e w6 ⟨rfl, b6⟩
            (try (refine kept_at b6 w5.heap.size ?_ (fun k0 y0 s0 => ?_); focus go_size))
            (try (refine kept_at b6 (w4.heap.size + 1 + 1 + 1) ?_ (fun k1 y1 s1 => ?_); focus go_size))
            refine kept_at b6 w4.heap.size (by go_size) fun k2 y2 s2 => ?_
            have b6' : Below w.heap.size w w6 := kept_trans (a := w) (by go_grown) b6
            have z6 := b6'.size
            go_wp2_with fail
            refine (hdir.out _ (VecTab_kept HT.out (by go_grown))).mono ?_
            rintro e w7 ⟨rfl, b7⟩
            have b7' : Below w.heap.size w w7 := kept_trans (a := w) (by go_grown) b7
            go_wp2
            go_ret
            exact ⟨rfl, by go_grown⟩
  · clear hr ht
    go_enter Tryd.func6, Tryd.ntmps6
    go_wp2
    go_ret
    exact ⟨rfl, by go_grown⟩

end Go.Proofs.YtlpoeepjilfncabDoor
namespace Go.Proofs.YtlpoeepjilfncabDoor.fnTurns
open Go.ChangeShapes Go.WideShapes Go.ChangeAt Go.RowKit
set_option linter.unusedVariables false
set_option linter.unusedSimpArgs false
open Go.Joins Go.ChangeMaps
/-- A world for the witness: the settled one, the listed variables holding what their initialisers lay. -/
noncomputable def laidWorld (os : Os) : World := { World.holding Tryd.prog os ⟨#[], #[], []⟩ with heap := ((World.holding Tryd.prog os ⟨#[], #[], []⟩).heap.modify 0 (fun | .cells _ t frozen => .cells #[.int .i64 1000, .int .i64 0, .int .i64 966, .int .i64 259, .int .i64 866, .int .i64 500, .int .i64 707, .int .i64 707, .int .i64 500, .int .i64 866, .int .i64 259, .int .i64 966] t frozen | o => o)) }
theorem laid_met (os : Os) : laidMet Tryd.prog Rows.fnTurnsRow.laid ((laidWorld os).forCall (fun _ _ => 0) ⟨#[], #[.slice none 0 0], []⟩).memory :=
  laidMet_of_run' 16 (by kernel_rfl) (by kernel_rfl)
theorem reads (os : Os) {H : Type} (enc : TypeId × Value → H) : ∃ places, DataW.whole enc Tryd.prog ((laidWorld os).forCall (fun _ _ => 0) ⟨#[], #[.slice none 0 0], []⟩).memory Tryd.f6.params.toList Rows.fnTurnsSpec.vars false (#[.slice none 0 0] : Array Value).toList 16 = some ([.nil], [Rows.laid_loop_example_g00932_impl_firstVectors], places) :=
  ⟨MemPlace.row ⟨0, 0, none⟩ 12, by kernel_rfl⟩
set_option maxRecDepth 100000 in
theorem lifted (os : Os) (started : os.Started) (H : Type) (enc : TypeId × Value → H) (F : Stop.Interp) :
    ReturnsInHanded {} Tryd.checked os 6 .any ((OpenSpec.ofChange Rows.fnTurnsSpec).preRow enc Tryd.prog Tryd.f6 Rows.fnTurnsRow.domain false Rows.fnTurnsRow.laid) (((OpenSpec.ofChange Rows.fnTurnsSpec).at F).post enc Tryd.prog Tryd.f6 false true false false) := by
  obtain ⟨places, hx⟩ := reads os enc
  refine returnsInHanded_of_row (C := Tryd.checked) (s := OpenSpec.ofChange Rows.fnTurnsSpec) (show ownKnob Tryd.prog.godebug = none by kernel_rfl) started (by kernel_rfl) Tryd.func6
    (witness_row_at (enc := enc) (C := Tryd.checked) false (laidWorld os) #[.slice none 0 0] rfl (by kernel_rfl) (by kernel_rfl) (by kernel_rfl)
      (OpenSpec.preRow_of_cond 16 hx (by kernel_rfl) (fun k hk => by cases hk) (by kernel_rfl) (laid_met os))) ?_
  intro W base args ds gs before hval0 hW _ _ _ hL hSh _
  have hval : ∀ (j : Nat) t v, Tryd.f6.params[j]? = some t → args[j]? = some v → Value.okWide Tryd.prog W .any base t v := hval0
  have hW' := hW
  obtain ⟨p, q, hA0, hV, rfl, hfz, hnd⟩ := hW
  have hA : DataW.TrodAll enc Tryd.prog W 0 (fun _ => true) true Tryd.f6.params.toList args.toList ds p := hA0
  rw [Tryd.params6] at hA hval
  obtain ⟨v0, vs0, d0, ds0, p0, q0, hargs, rfl, rfl, h0, r0⟩ := trodAll_cons hA
  obtain ⟨rfl, rfl, rfl⟩ := trodAll_nil r0
  obtain rfl : args = #[v0] := by cases args; simp_all
  obtain ⟨g1, rfl⟩ : ∃ g1, gs = [g1] := vars_one hV
  obtain ⟨A0, n0, c0, rfl, hr0, hn0⟩ := open_bytes Tryd.underlying42 Tryd.underlying5 (show Tryd.prog.cellsOf 5 = 1 by kernel_rfl) (hval 0 42 v0 rfl rfl) h0
  clear hA0 hval0
  refine (walk_FnTurns (w := W) A0 n0 c0 hr0 hn0 (vecTab_of_laid hL)).mono fun e W' ⟨he, hb⟩ => ?_
  subst he
  exact ⟨_, rfl, law_postV (B := 4) (by kernel_rfl) (by kernel_rfl) (by kernel_rfl) rfl Tryd.underlying4 hW' rfl hb⟩
theorem said : Rows.FnTurnsSaid :=
  OpenClaim.holds_of_cond 6 Tryd.f6 rfl rfl rfl rfl rfl rfl rfl ⟨rfl, rfl, rfl, rfl, rfl⟩ rfl rfl rfl rfl rfl (by kernel_rfl) Tryd.func6 (by kernel_rfl)
    (of_decide_eq_true (by kernel_rfl)) (by unfold Func.isWrapper; first | (rw [if_pos (by decide +kernel)]; kernel_rfl) | (rw [if_neg (by decide +kernel)]; exact ⟨rfl, rfl⟩))
    (fun os started H enc _ F => by rw [OpenClaim.pre_eq_preRow]; exact lifted os started H enc F)
theorem plain (f : FuncId) (fn : Func) (hf : Tryd.pinned.checked.prog.funcNamed "loop.example/g00932/laws.FnTurns" = some f) (hfn : Tryd.pinned.checked.prog.funcs[f]? = some fn) :
    true = Tryd.pinned.checked.prog.looks [] ∧ ∀ (j : Nat) t, fn.params[j]? = some t → Tryd.pinned.checked.prog.wantsStandIn t = false := by
  obtain rfl : f = 6 := Option.some.inj ((show Tryd.prog.funcNamed "loop.example/g00932/laws.FnTurns" = some 6 by kernel_rfl).symm.trans hf) |>.symm
  obtain rfl : fn = Tryd.f6 := (Option.some.inj (Tryd.func6.symm.trans hfn)).symm
  refine ⟨by kernel_rfl, fun j t ht => ?_⟩
  have hall : (Tryd.f6.params.toList.all fun t => !Tryd.pinned.checked.prog.wantsStandIn t) = true := by kernel_rfl
  have := List.all_eq_true.mp hall t (by simpa using Array.mem_of_getElem? ht)
  simpa using this
/-- The statement: the card of the law: for every input it returns true, the arguments and the listed variables read afterwards as before. -/
theorem proved : Rows.FnTurnsCardSaid :=
  Claim7.holds_tied_plain_at .later [] _ _ _ _ said (fun _ h => by cases h) (by kernel_rfl) (fun _ h => by cases h) fnTurns_row_tie rfl ⟨rfl, rfl⟩ (by kernel_rfl) rfl plain (by kernel_rfl)
end Go.Proofs.YtlpoeepjilfncabDoor.fnTurns
