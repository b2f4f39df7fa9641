/- Proved: for every input the law FnExactPlaceAt returns true, and each argument reads afterwards as it read before; no condition beside those of the given row. -/
import Derived.Test.YtlpoeepjilfncabDoorRows
import Derived.WalkKit
import Derived.ProofKit
import Derived.OpenShut
import Derived.Lib.Hide
import Derived.Handy
import Derived.Carry
import Derived.Deep.RegionHeld3
import Derived.Laws.ResultCell
import Derived.Lib.LaidTab
import Derived.Lib.SmallJoins
import Derived.Test.YtlpoeepjilfncabDoorCards
import Derived.Test.YtlpoeepjilfncabDoorTie
import Derived.Lib.SmallJoins
import Derived.ChangeMaps5
import Derived.Deep.DeepHandedRow
import Derived.Deep.DeepWitnessRowRef
import Derived.Lib.LaidTab
import Derived.SevenTiedAt
namespace Go.Proofs.YtlpoeepjilfncabDoor
open Go.ChangeShapes Go.WideShapes Go.ChangeAt Go.RowKit
set_option linter.unusedVariables false
set_option linter.unusedSimpArgs false

theorem trodAll_stay {H : Type} {enc : TypeId × Value → H} {P : Program} (hl : laidOutB P = true) {W W' : World} (hb : Below W.heap.size W W') :
    ∀ (ts : List TypeId) (vs : List Value) (ds : List (DataW H)) (ps : List MemPlace), ts.all (fun t => P.readableRec t && decide (t < P.types.size)) = true →
      DataW.TrodAll enc P W 0 (fun _ => true) true ts vs ds ps → (∀ x ∈ ps, x.block < W.heap.size) →
      DataW.TrodAll enc P W' 0 (fun b => decide (b < W.heap.size)) true ts vs ds ps := by
  intro ts
  induction ts with
  | nil => intro vs ds ps _ h _; obtain ⟨rfl, rfl, rfl⟩ := trodAll_nil h; exact rfl
  | cons t ts ih =>
    intro vs ds ps hr h hlt
    simp only [List.all_cons, Bool.and_eq_true, decide_eq_true_eq] at hr
    obtain ⟨v, vs', d, ds', p, q, rfl, rfl, rfl, h0, h1⟩ := trodAll_cons h
    exact ⟨p, q, Below.trod hl hr.1.1 hr.1.2 h0 hb (fun x hx => hlt x (by simp [hx])), ih _ _ _ hr.2 h1 (fun x hx => hlt x (by simp [hx])), rfl⟩

/-- Each variable's type is one that can be read. -/
def varsOk (P : Program) (ns : List String) : Bool := ns.all fun n => match P.globalNamed n with
  | some g => (match (P.globals[g]?).map (·.type) with | some t => P.readableRec t && decide (t < P.types.size) | none => true)
  | none => true

theorem trodVars_stay {H : Type} {enc : TypeId × Value → H} {P : Program} (hl : laidOutB P = true) {W W' : World} (hb : Below W.heap.size W W') :
    ∀ (ns : List String) (gs : List (DataW H)) (ps : List MemPlace), varsOk P ns = true → DataW.TrodVars enc P W (fun _ => true) ns gs ps → (∀ x ∈ ps, x.block < W.heap.size) →
      DataW.TrodVars enc P W' (fun b => decide (b < W.heap.size)) ns gs ps := by
  intro ns
  induction ns with
  | nil => intro gs ps _ h _; obtain ⟨rfl, rfl⟩ := trodVars_none h; exact rfl
  | cons n ns ih =>
    intro gs ps hv h hlt
    cases gs with
    | nil => exact h.elim
    | cons d gs =>
      obtain ⟨g, t, cs, fuel, p, q, hg, ht, hvar, hd, hr, rfl⟩ := h
      simp only [varsOk, List.all_cons, Bool.and_eq_true] at hv
      have hv1 := hv.1
      rw [hg] at hv1
      simp only [ht, Bool.and_eq_true, decide_eq_true_eq] at hv1
      have hgl : g < W.heap.size := by
        simp only [World.var?, hg, Option.bind_some] at hvar
        rcases Nat.lt_or_ge g W.heap.size with hlt | hge
        · exact hlt
        · rw [Array.getElem?_eq_none hge] at hvar; simp at hvar
      have h0 : DataW.Trod enc P W 0 (fun _ => true) true t (.agg cs) d p := ⟨fuel, by simpa [Value.cells] using hd⟩
      obtain ⟨fuel', hd'⟩ := Below.trod hl hv1.1 hv1.2 h0 hb (fun x hx => hlt x (by simp [hx]))
      refine ⟨g, t, cs, fuel', p, q, hg, ht, ?_, by simpa [Value.cells] using hd', ih _ _ hv.2 hr (fun x hx => hlt x (by simp [hx])), rfl⟩
      simp only [World.var?, hg, Option.bind_some] at hvar ⊢
      rw [hb.block g hgl]
      exact hvar

/-- A law's row at its end, the listed variables too: it returned true, and of what was there nothing has turned. -/
theorem law_postV {H : Type} {enc : TypeId × Value → H} {P : Program} {f : Func} {s : ChangeSpec} {W W' : World} {args : Array Value} {ds gs : List (DataW H)} {before : List MemPlace} {B : TypeId}
    (hl : laidOutB P = true) (hr : f.params.toList.all (fun t => P.readableRec t && decide (t < P.types.size)) = true) (hvs : varsOk P s.vars = true)
    (hres : f.resultTypes = #[B]) (hB : P.underlying B = some .bool)
    (hW : DataW.Whole enc P f.params.toList s.vars false W args.toList ds gs before)
    (hfn : s.fn H (ds ++ gs) = { results := [.lit (.bool true)], args := ds, vars := gs }) (hb : Below W.heap.size W W') :
    s.post enc P f false true false false W args (.bool true) W' := by
  have hlt : ∀ p ∈ before, p.block < W.heap.size := fun p hp => hW.lt p hp
  have hW' := hW
  obtain ⟨p, q, hA, hV, rfl, _, _⟩ := hW'
  refine ⟨ds, gs, p ++ q, [], p, q, hW, ?_, ?_, ?_, hb.frame _, fun h => by cases h⟩
  · rw [hfn, hres]
    exact trodAll_cons_mk (shut_bool hB _) trodAll_mk0
  · rw [hfn]
    exact trodAll_stay hl hb _ _ _ _ hr hA (fun x hx => hlt x (by simp [hx]))
  · rw [hfn]
    exact trodVars_stay hl hb _ _ _ hvs hV (fun x hx => hlt x (by simp [hx]))

/-- An array of pairs of numbers that reads as a list holds its numbers, cell for cell. -/
theorem cells_of_pairs {H : Type} {enc : TypeId × Value → H} {P : Program} {w : World} {base : Nat} {sp : Nat → Bool} {held : Bool} {fuel : Nat} {t e : TypeId} {n : Nat} {f0 f1 : Field} {cs : List Value} {zs : List (Int × Int)} {p : List MemPlace}
    (ht : P.underlying t = some (.array n e)) (he : P.underlying e = some (.struct #[f0, f1])) (h0 : P.underlying f0.type = some (.int .i64)) (h1 : P.underlying f1.type = some (.int .i64))
    (hce : P.cellsOf e = 2) (c0 : P.cellsOf f0.type = 1) (c1 : P.cellsOf f1.type = 1) (o0 : f0.offset = 0) (o1 : f1.offset = 1)
    (h : DataW.trod enc P w base sp held fuel t cs = some (.agg (zs.map fun z => .agg [.lit (.int .i64 z.1), .lit (.int .i64 z.2)]), p)) :
    ∀ k, (hk : k < zs.length) → cs[2 * k]? = some (.int .i64 zs[k].1) ∧ cs[2 * k + 1]? = some (.int .i64 zs[k].2) := by
  obtain ⟨xs, m, _, hx, _, hxl, hel⟩ := DataW.trod_array ht h
  have hm : zs.map (fun z => (.agg [.lit (.int .i64 z.1), .lit (.int .i64 z.2)] : DataW H)) = xs.map (·.1) := by
    have := congrArg Prod.fst hx
    simpa using this
  have hlen : zs.length = xs.length := by simpa using congrArg List.length hm
  intro k hk
  have hk' : k < xs.length := by omega
  have hs := hel k (by omega)
  rw [List.getElem?_eq_getElem hk'] at hs
  have hd : (xs[k]).1 = .agg [.lit (.int .i64 zs[k].1), .lit (.int .i64 zs[k].2)] := by
    have := congrArg (·[k]?) hm
    simp [hk, hk'] at this
    exact this.symm
  obtain ⟨y0, y1, m', hy, _, g0, g1⟩ := trod_struct2 he hs
  obtain ⟨a, e0, rfl, _⟩ := DataW.trod_int h0 g0
  obtain ⟨b, e1, rfl, _⟩ := DataW.trod_int h1 g1
  rw [hy] at hd
  simp at hd
  rw [o0, c0, hce] at e0
  rw [o1, c1, hce] at e1
  rw [← hd.1, ← hd.2]
  refine ⟨?_, ?_⟩
  · have := congrArg (·[0]?) e0
    simpa [List.getElem?_take, List.getElem?_drop, Nat.mul_comm] using this
  · have := congrArg (·[0]?) e1
    simpa [List.getElem?_take, List.getElem?_drop, Nat.mul_comm] using this

theorem vars_one {H : Type} {enc : TypeId × Value → H} {P : Program} {W : World} {sp : Nat → Bool} {n : String} {gs : List (DataW H)} {q : List MemPlace} (h : DataW.TrodVars enc P W sp [n] gs q) : ∃ g1, gs = [g1] := by
  cases gs with
  | nil => exact h.elim
  | cons g gs =>
    obtain ⟨_, _, _, _, _, _, _, _, _, _, hr, _⟩ := h
    obtain ⟨rfl, _⟩ := trodVars_none hr
    exact ⟨_, rfl⟩

theorem kept_cell {W w1 : World} (hb : Below W.heap.size W w1) (b o : Nat) (h : b < W.heap.size) : w1.cell? ⟨b, o, none⟩ = W.cell? ⟨b, o, none⟩ := hb.cell (p := ⟨b, o, none⟩) h

theorem kept_frozen {W w1 : World} (hb : Below W.heap.size W w1) (b o : Nat) (h : b < W.heap.size) : w1.frozen? ⟨b, o, none⟩ = W.frozen? ⟨b, o, none⟩ := hb.frozen (p := ⟨b, o, none⟩) h

theorem kept_trans {a b c : World} (h : Below a.heap.size a b) (k : Below b.heap.size b c) : Below a.heap.size a c := h.trans (k.mono h.size)

theorem kept_at {W w1 : World} (hb : Below W.heap.size W w1) (b : Nat) {G : Prop} (h : b < W.heap.size)
    (k : (∀ o, w1.cell? ⟨b, o, none⟩ = W.cell? ⟨b, o, none⟩) → (∀ o, w1.frozen? ⟨b, o, none⟩ = W.frozen? ⟨b, o, none⟩) → b < w1.heap.size → G) : G :=
  k (fun o => kept_cell hb b o h) (fun o => kept_frozen hb b o h) (Nat.lt_of_lt_of_le h hb.size)

theorem results_cell1 {fn : Func} {p : Tmp} {ty : TypeId} (h : fn.results = #[.cell p ty]) (tmps : Array Value) (P : Program) (w : World) :
    (results fn tmps).run P w = ((asAddr (tmps.getD p undef)).run P w).andThen fun a w₁ => (loadVar ty a).run P w₁ := by
  simp only [results, h]
  simp [Sem.run_bind, Result.andThen]

def inB (n low high : Int) : Bool := decide (low ≤ n) && decide (n ≤ high)

theorem in_any (n low high : Int) (w : World) :
    Calls Tryd.prog 67 #[.int .i64 n, .int .i64 low, .int .i64 high] w fun e w' => e = .returned (.bool (inB n low high)) ∧ w = w' := by
  unfold inB
  by_cases h1 : low ≤ n <;> by_cases h2 : n ≤ high <;>
  · go_enter Tryd.func67, Tryd.ntmps67
    go_wp2
    go_ret
    exact ⟨by simp [*], rfl⟩

theorem dir_any (n : Int) (w : World) :
    Calls Tryd.prog 66 #[.int .i64 n] w fun e w' => e = .returned (.bool (inB n 0 23)) ∧ w = w' := by
  go_enter Tryd.func66, Tryd.ntmps66
  go_wp2_with (go_at_call 67; refine (in_any _ _ _ _).mono ?_; rintro e w' ⟨rfl, rfl⟩)
  go_ret
  exact ⟨rfl, rfl⟩

theorem valid_any (n : Int) (w : World) :
    Calls Tryd.prog 69 #[.int .i64 n] w fun e w' => e = .returned (.bool (inB n 0 23)) ∧ w = w' := by
  unfold inB
  by_cases h1 : 0 ≤ n <;> by_cases h2 : n < 24 <;>
  · go_enter Tryd.func69, Tryd.ntmps69
    go_wp2
    go_ret
    exact ⟨by simp [*]; try omega, rfl⟩

theorem inB_true {n a b : Int} (h : inB n a b = true) : a ≤ n ∧ n ≤ b := by simpa [inB] using h

def okP (x y : Int) : Bool := inB x (-10000) 10000 && inB y (-10000) 10000

theorem okP_true {x y : Int} (h : okP x y = true) : (-10000 ≤ x ∧ x ≤ 10000) ∧ -10000 ≤ y ∧ y ≤ 10000 := by
  simp only [okP, Bool.and_eq_true] at h
  exact ⟨inB_true h.1, inB_true h.2⟩

theorem specOk_any (x y : Int) (w : World) :
    Calls Tryd.prog 41 #[.agg #[.int .i64 x, .int .i64 y]] w fun e w' => e = .returned (.bool (okP x y)) ∧ Below w.heap.size w w' := by
  unfold okP
  cases h1 : inB x (-10000) 10000 <;>
  · go_enter Tryd.func41, Tryd.ntmps41
    go_wp2_with (go_at_call 67; refine (in_any _ _ _ _).mono ?_; rintro e w' ⟨rfl, rfl⟩)
    go_ret
    exact ⟨by simp, by go_grown⟩

theorem validPlace_any (x y : Int) (w : World) :
    Calls Tryd.prog 45 #[.agg #[.int .i64 x, .int .i64 y]] w fun e w' => e = .returned (.bool (okP x y)) ∧ Below w.heap.size w w' := by
  unfold okP inB
  rcases (show ¬ -10000 ≤ x ∨ (-10000 ≤ x ∧ ¬ x ≤ 10000) ∨ (-10000 ≤ x ∧ x ≤ 10000 ∧ ¬ -10000 ≤ y) ∨ (-10000 ≤ x ∧ x ≤ 10000 ∧ -10000 ≤ y ∧ ¬ y ≤ 10000) ∨ (-10000 ≤ x ∧ x ≤ 10000 ∧ -10000 ≤ y ∧ y ≤ 10000) from by omega) with h1 | ⟨h1, h2⟩ | ⟨h1, h2, h3⟩ | ⟨h1, h2, h3, h4⟩ | ⟨h1, h2, h3, h4⟩
  all_goals
    go_enter Tryd.func45, Tryd.ntmps45
    go_wp2
    go_ret
    exact ⟨by simp [*] <;> omega, by go_grown⟩

theorem toPoint_any (x y : Int) (w : World) :
    Calls Tryd.prog 10 #[.agg #[.int .i64 x, .int .i64 y]] w fun e w' => e = .returned (.agg #[.int .i64 x, .int .i64 y]) ∧ Below w.heap.size w w' := by
  go_enter Tryd.func10, Tryd.ntmps10
  go_wp2
  go_returns
  exact ⟨rfl, by go_grown⟩

def vec0 : Nat → Int × Int
  | 0 => (1000, 0)
  | 1 => (966, 259)
  | 2 => (866, 500)
  | 3 => (707, 707)
  | 4 => (500, 866)
  | 5 => (259, 966)
  | _ => (0, 0)

def vecQ (p : Int × Int) : Nat → Int × Int
  | 0 => p
  | n + 1 => (-(vecQ p n).2, (vecQ p n).1)

def vecL (d : Int) : Int × Int := vecQ (vec0 (d.toNat % 6)) (d.toNat / 6)

/-- The table of vectors as it lies in memory. -/
structure VecTab (w : World) : Prop where
  size : 0 < w.heap.size
  cell : ∀ k, k < 6 → w.cell? ⟨0, 2 * k, none⟩ = some (.int .i64 (vec0 k).1) ∧ w.cell? ⟨0, 2 * k + 1, none⟩ = some (.int .i64 (vec0 k).2)

theorem VecTab_kept {W w1 : World} (h : VecTab W) (hb : Below W.heap.size W w1) : VecTab w1 :=
  ⟨Nat.lt_of_lt_of_le h.size hb.size, fun k hk => by rw [kept_cell hb _ _ h.size, kept_cell hb _ _ h.size]; exact h.cell k hk⟩

theorem vecQ_q (d : Int) (h : 0 ≤ d) (j : Nat) (h1 : 6 * (j : Int) ≤ d) (h2 : d < 6 * (j : Int) + 6) (r : Nat) (hr : d.toNat % 6 = r) : vecL d = vecQ (vec0 r) j := by
  unfold vecL
  rw [hr, show d.toNat / 6 = j by omega]

theorem vecQ_bd (p : Int × Int) (h : (-1000 ≤ p.1 ∧ p.1 ≤ 1000) ∧ -1000 ≤ p.2 ∧ p.2 ≤ 1000) (j : Nat) : (-1000 ≤ (vecQ p j).1 ∧ (vecQ p j).1 ≤ 1000) ∧ -1000 ≤ (vecQ p j).2 ∧ (vecQ p j).2 ≤ 1000 := by
  induction j with
  | zero => exact h
  | succ j ih => simp only [vecQ]; omega

set_option maxHeartbeats 1600000 in
theorem specVector_any (d : Int) (h0 : 0 ≤ d) (h1 : d ≤ 23) (w : World) :
    Calls Tryd.prog 110 #[.int .i64 d] w fun e w' => e = .returned (.agg #[.int .i64 (vecL d).1, .int .i64 (vecL d).2]) ∧ Below w.heap.size w w' := by
  have hq := vecQ_q d h0
  obtain ⟨r, hr, hr6⟩ : ∃ r : Nat, d.toNat % 6 = r ∧ r < 6 := ⟨_, rfl, by omega⟩
  have e : d % 6 = (r : Int) := by omega
  have hq' := fun j a b => hq j a b r hr
  obtain ⟨p, hp⟩ : ∃ p, p = vec0 r := ⟨_, rfl⟩
  rw [← hp] at hq'
  have hpb : (-1000 ≤ p.1 ∧ p.1 ≤ 1000) ∧ -1000 ≤ p.2 ∧ p.2 ≤ 1000 := by
    rcases (show r = 0 ∨ r = 1 ∨ r = 2 ∨ r = 3 ∨ r = 4 ∨ r = 5 by omega) with rfl | rfl | rfl | rfl | rfl | rfl <;> subst hp <;> decide
  have HQ := Lib.hid hq'; clear hq hq' hr
  have E := Lib.hid e; clear e
  have HP := Lib.hid hp; clear hp
  rcases (show r = 0 ∨ r = 1 ∨ r = 2 ∨ r = 3 ∨ r = 4 ∨ r = 5 by omega) with rfl | rfl | rfl | rfl | rfl | rfl
  all_goals
    have e := E.out
    go_enter Tryd.func110, Tryd.ntmps110
    go_wp2
    clear e
    go_loopw [0] (fun i wr => ∃ j : Nat, 6 * (j : Int) ≤ d ∧ i = .int .i64 (d - 6 * j) ∧ wr = ((w.alloc (.cells #[.int .i64 0, .int .i64 0] 35)).alloc (.cells #[.int .i64 1000, .int .i64 0, .int .i64 966, .int .i64 259, .int .i64 866, .int .i64 500, .int .i64 707, .int .i64 707, .int .i64 500, .int .i64 866, .int .i64 259, .int .i64 966] 35)).alloc (.cells #[.int .i64 (vecQ p j).1, .int .i64 (vecQ p j).2] 35)) (fun i _ => (intOf i).toNat)
    case atStart => exact ⟨0, by omega, by simp, by rw [HP.out]; rfl⟩
    case round =>
      obtain ⟨j, hj, rfl, rfl⟩ := hrel
      have hb := vecQ_bd p hpb j
      by_cases hlt : 6 ≤ d - 6 * (j : Int)
      · go_wp2
        go_roundw
        case rel => exact ⟨j + 1, by omega, by congr 1; omega, rfl⟩
        case measure => simp [intOf]; omega
      · go_wp2
        go_returns
        exact ⟨by rw [HQ.out j hj (by omega)], by go_grown⟩

theorem vector_any (d : Int) (h0 : 0 ≤ d) (h1 : d ≤ 23) (w : World) (ht : VecTab w) :
    Calls Tryd.prog 74 #[.int .i64 d] w fun e w' => e = .returned (.agg #[.int .i64 (vecL d).1, .int .i64 (vecL d).2]) ∧ Below w.heap.size w w' := by
  have hq := vecQ_q d h0
  obtain ⟨r, hr, hr6⟩ : ∃ r : Nat, d.toNat % 6 = r ∧ r < 6 := ⟨_, rfl, by omega⟩
  have e : d % 6 = (r : Int) := by omega
  have hq' := fun j a b => hq j a b r hr
  obtain ⟨p, hp⟩ : ∃ p, p = vec0 r := ⟨_, rfl⟩
  rw [← hp] at hq'
  have hpb : (-1000 ≤ p.1 ∧ p.1 ≤ 1000) ∧ -1000 ≤ p.2 ∧ p.2 ≤ 1000 := by
    rcases (show r = 0 ∨ r = 1 ∨ r = 2 ∨ r = 3 ∨ r = 4 ∨ r = 5 by omega) with rfl | rfl | rfl | rfl | rfl | rfl <;> subst hp <;> decide
  obtain ⟨tx, ty⟩ := ht.cell r hr6
  rw [← hp] at tx ty
  have hs := ht.size
  have HQ := Lib.hid hq'; clear hq hq' hr ht hp
  have e2 : 2 * r = r * 2 := by omega
  rw [e2] at tx ty
  clear e2
  go_enter Tryd.func74, Tryd.ntmps74
  go_wp2
  go_loopw [10] (fun i wr => ∃ j : Nat, 6 * (j : Int) ≤ d ∧ i = .int .i64 j ∧ wr = (w.alloc (.cells #[.int .i64 0, .int .i64 0] 35)).alloc (.cells #[.int .i64 (vecQ p j).1, .int .i64 (vecQ p j).2] 35)) (fun i _ => 10 - (intOf i).toNat)
  case atStart => exact ⟨0, by omega, rfl, rfl⟩
  case round =>
    obtain ⟨j, hj, rfl, rfl⟩ := hrel
    have hb := vecQ_bd p hpb j
    by_cases hlt : (j : Int) < d / 6
    · go_wp2
      go_roundw
      case rel => exact ⟨j + 1, by omega, by go_num, rfl⟩
      case measure => simp [intOf]; omega
    · go_wp2
      go_returns
      exact ⟨by rw [HQ.out j hj (by omega)], by go_grown⟩

theorem eqPoint_same (x y : Int) (w : World) :
    Calls Tryd.prog 30 #[.agg #[.int .i64 x, .int .i64 y], .agg #[.int .i64 x, .int .i64 y]] w fun e w' => e = .returned (.bool true) ∧ Below w.heap.size w w' := by
  go_enter Tryd.func30, Tryd.ntmps30
  go_wp2
  go_ret
  exact ⟨rfl, by go_grown⟩

theorem vecTab_of_laid {W : World} (h : laidMetH Tryd.prog [("loop.example/g00932/impl.firstVectors", Rows.laid_loop_example_g00932_impl_firstVectors)] W) : VecTab W := by
  have h' : laidMet Tryd.prog [("loop.example/g00932/impl.firstVectors", Rows.laid_loop_example_g00932_impl_firstVectors)] W := h
  obtain ⟨ps, ⟨g, t, cs, fuel, p, q, hg, ht, hvar, hd, _, _⟩, _⟩ := h'
  obtain rfl : 0 = g := Option.some.inj ((show Tryd.prog.globalNamed "loop.example/g00932/impl.firstVectors" = some 0 by kernel_rfl).symm.trans hg)
  obtain rfl : 149 = t := Option.some.inj ((show (Tryd.prog.globals[0]?).map (·.type) = some 149 by kernel_rfl).symm.trans ht)
  have hc := cells_of_pairs (zs := [(1000, 0), (966, 259), (866, 500), (707, 707), (500, 866), (259, 966)]) Tryd.underlying149 Tryd.underlying35 Tryd.underlying2 Tryd.underlying2 (by kernel_rfl) (by kernel_rfl) (by kernel_rfl) rfl rfl hd
  refine ⟨?_, fun k hk => ?_⟩
  · simp only [World.var?, hg, Option.bind_some] at hvar
    rcases Nat.lt_or_ge 0 W.heap.size with hlt | hge
    · exact hlt
    · rw [Array.getElem?_eq_none hge] at hvar; simp at hvar
  · have := hc k (by simpa using hk)
    rw [World.var?_cell hg hvar, World.var?_cell hg hvar, ← Array.getElem?_toList, ← Array.getElem?_toList, this.1, this.2]
    rcases (show k = 0 ∨ k = 1 ∨ k = 2 ∨ k = 3 ∨ k = 4 ∨ k = 5 by omega) with rfl | rfl | rfl | rfl | rfl | rfl <;> exact ⟨rfl, rfl⟩

theorem vecL_bd (d : Int) : (-1000 ≤ (vecL d).1 ∧ (vecL d).1 ≤ 1000) ∧ -1000 ≤ (vecL d).2 ∧ (vecL d).2 ≤ 1000 := by
  unfold vecL
  refine vecQ_bd _ ?_ _
  have h := Nat.mod_lt d.toNat (show 0 < 6 by omega)
  generalize d.toNat % 6 = r at *
  rcases (show r = 0 ∨ r = 1 ∨ r = 2 ∨ r = 3 ∨ r = 4 ∨ r = 5 by omega) with rfl | rfl | rfl | rfl | rfl | rfl <;> decide

theorem offs_bd (v r : Int) (hv : -1000 ≤ v ∧ v ≤ 1000) (hr : 0 ≤ r ∧ r ≤ 1000) : (-1000000 ≤ v * r ∧ v * r ≤ 1000000) ∧ -1000 ≤ (v * r).tdiv 1000 ∧ (v * r).tdiv 1000 ≤ 1000 := by
  have h1 : v * r ≤ 1000 * r := Int.mul_le_mul_of_nonneg_right hv.2 hr.1
  have h2 : -1000 * r ≤ v * r := Int.mul_le_mul_of_nonneg_right hv.1 hr.1
  generalize v * r = q at *
  have h3 := Int.mul_tdiv_add_tmod q 1000
  have h4 := Int.lt_tmod_of_pos q (show (0 : Int) < 1000 by omega)
  have h5 := Int.tmod_lt_of_pos q (show (0 : Int) < 1000 by omega)
  omega

def offL (x y d r : Int) : Int × Int := (x + ((vecL d).1 * r).tdiv 1000, y + ((vecL d).2 * r).tdiv 1000)

def placeL (x y d r : Int) : (Int × Int) × Int :=
  if okP x y then (if inB d 0 23 && inB r 0 1000 then (if okP (offL x y d r).1 (offL x y d r).2 then (offL x y d r, 0) else ((0, 0), 5)) else ((0, 0), 2)) else ((0, 0), 1)

theorem l02At_any (x y d r : Int) (hp : okP x y = true) (hd : 0 ≤ d ∧ d ≤ 23) (hr : 0 ≤ r ∧ r ≤ 1000) (w : World) :
    Calls Tryd.prog 68 #[.agg #[.int .i64 x, .int .i64 y], .int .i64 d, .int .i64 r] w fun e w' => e = .returned (.agg #[.int .i64 (offL x y d r).1, .int .i64 (offL x y d r).2]) ∧ Below w.heap.size w w' := by
  have g := okP_true hp
  have hv := vecL_bd d
  have b1 := offs_bd _ r hv.1 hr
  have b2 := offs_bd _ r hv.2 hr
  unfold offL
  have hV := specVector_any d hd.1 hd.2
  generalize vecL d = v at *
  obtain ⟨vx, vy⟩ := v
  simp only [] at *
  have HV := Lib.hid hV; clear hV
  go_enter Tryd.func68, Tryd.ntmps68
  go_wp2_with (go_at_call 110; refine (HV.out _).mono ?_; rintro e w1 ⟨rfl, hb⟩; have hs := hb.size; (try simp at hs); (try (refine kept_at hb (w.heap.size) ?_ (fun hc0 hz0 hs0 => ?_); focus go_size)); (try (refine kept_at hb (w.heap.size + 1) ?_ (fun hc1 hz1 hs1 => ?_); focus go_size)); (try (refine kept_at hb (w.heap.size + 2) ?_ (fun hc2 hz2 hs2 => ?_); focus go_size)); (try (refine kept_at hb (w.heap.size + 3) ?_ (fun hc3 hz3 hs3 => ?_); focus go_size)); (try (refine kept_at hb (w.heap.size + 4) ?_ (fun hc4 hz4 hs4 => ?_); focus go_size)); (try (refine kept_at hb (w.heap.size + 5) ?_ (fun hc5 hz5 hs5 => ?_); focus go_size)); replace hb := kept_trans (a := w) (by go_grown) hb; have hcl := kept_cell hb; have hzl := kept_frozen hb)
  refine bodyPost_ret (v := .agg #[.int .i64 (x + (vx * r).tdiv 1000), .int .i64 (y + (vy * r).tdiv 1000)]) (by simp [results, Tryd.results68, go_sem, *]) rfl ⟨rfl, ?_⟩
  go_grown

theorem placeL_cases (x y d r : Int) :
    (okP x y = false ∧ placeL x y d r = ((0, 0), 1)) ∨ (okP x y = true ∧ inB d 0 23 = false ∧ placeL x y d r = ((0, 0), 2)) ∨ (okP x y = true ∧ inB d 0 23 = true ∧ inB r 0 1000 = false ∧ placeL x y d r = ((0, 0), 2)) ∨
    (okP x y = true ∧ inB d 0 23 = true ∧ inB r 0 1000 = true ∧ okP (offL x y d r).1 (offL x y d r).2 = false ∧ placeL x y d r = ((0, 0), 5)) ∨
    (okP x y = true ∧ inB d 0 23 = true ∧ inB r 0 1000 = true ∧ okP (offL x y d r).1 (offL x y d r).2 = true ∧ placeL x y d r = (offL x y d r, 0)) := by
  unfold placeL
  cases okP x y <;> cases inB d 0 23 <;> cases inB r 0 1000 <;> cases okP (offL x y d r).1 (offL x y d r).2 <;> simp

set_option maxRecDepth 100000 in
theorem specPlaceAt_any (x y d r : Int) (w : World) :
    Calls Tryd.prog 28 #[.agg #[.int .i64 x, .int .i64 y], .int .i64 d, .int .i64 r] w fun e w' => e = .returned (.tuple #[.agg #[.int .i64 (placeL x y d r).1.1, .int .i64 (placeL x y d r).1.2], .int .i64 (placeL x y d r).2]) ∧ Below w.heap.size w w' := by
  rcases placeL_cases x y d r with ⟨h1, E⟩ | ⟨h1, h2, E⟩ | ⟨h1, h2, h3, E⟩ | ⟨h1, h2, h3, h4, E⟩ | ⟨h1, h2, h3, h4, E⟩
  all_goals rw [E]
  all_goals clear E
  case inl =>
    go_enter Tryd.func28, Tryd.ntmps28
    go_wp2_with (go_at_call 41; refine (specOk_any _ _ _).mono ?_; rintro e w1 ⟨rfl, hb⟩; have hs := hb.size; (try simp at hs); (try (refine kept_at hb (w.heap.size) ?_ (fun hc0 hz0 hs0 => ?_); focus go_size)); (try (refine kept_at hb (w.heap.size + 1) ?_ (fun hc1 hz1 hs1 => ?_); focus go_size)); (try (refine kept_at hb (w.heap.size + 2) ?_ (fun hc2 hz2 hs2 => ?_); focus go_size)); (try (refine kept_at hb (w.heap.size + 3) ?_ (fun hc3 hz3 hs3 => ?_); focus go_size)); (try (refine kept_at hb (w.heap.size + 4) ?_ (fun hc4 hz4 hs4 => ?_); focus go_size)); (try (refine kept_at hb (w.heap.size + 5) ?_ (fun hc5 hz5 hs5 => ?_); focus go_size)); replace hb := kept_trans (a := w) (by go_grown) hb; have hcl := kept_cell hb; have hzl := kept_frozen hb)
    refine bodyPost_ret (v := .tuple #[.agg #[.int .i64 0, .int .i64 0], .int .i64 1]) (by simp [results, Tryd.results28, go_sem, *]) rfl ⟨rfl, ?_⟩
    go_grown
  case inr.inl =>
    go_enter Tryd.func28, Tryd.ntmps28
    go_wp2_with (first | (go_at_call 41; refine (specOk_any _ _ _).mono ?_; rintro e w1 ⟨rfl, hb⟩; have hs := hb.size; (try simp at hs); (try (refine kept_at hb (w.heap.size) ?_ (fun hc0 hz0 hs0 => ?_); focus go_size)); (try (refine kept_at hb (w.heap.size + 1) ?_ (fun hc1 hz1 hs1 => ?_); focus go_size)); (try (refine kept_at hb (w.heap.size + 2) ?_ (fun hc2 hz2 hs2 => ?_); focus go_size)); (try (refine kept_at hb (w.heap.size + 3) ?_ (fun hc3 hz3 hs3 => ?_); focus go_size)); (try (refine kept_at hb (w.heap.size + 4) ?_ (fun hc4 hz4 hs4 => ?_); focus go_size)); (try (refine kept_at hb (w.heap.size + 5) ?_ (fun hc5 hz5 hs5 => ?_); focus go_size)); replace hb := kept_trans (a := w) (by go_grown) hb; have hcl := kept_cell hb; have hzl := kept_frozen hb) | (go_at_call 66; refine (dir_any _ _).mono ?_; rintro e w1 ⟨rfl, rfl⟩))
    refine bodyPost_ret (v := .tuple #[.agg #[.int .i64 0, .int .i64 0], .int .i64 2]) (by simp [results, Tryd.results28, go_sem, *]) rfl ⟨rfl, ?_⟩
    go_grown
  case inr.inr.inl =>
    go_enter Tryd.func28, Tryd.ntmps28
    go_wp2_with (first | (go_at_call 41; refine (specOk_any _ _ _).mono ?_; rintro e w1 ⟨rfl, hb⟩; have hs := hb.size; (try simp at hs); (try (refine kept_at hb (w.heap.size) ?_ (fun hc0 hz0 hs0 => ?_); focus go_size)); (try (refine kept_at hb (w.heap.size + 1) ?_ (fun hc1 hz1 hs1 => ?_); focus go_size)); (try (refine kept_at hb (w.heap.size + 2) ?_ (fun hc2 hz2 hs2 => ?_); focus go_size)); (try (refine kept_at hb (w.heap.size + 3) ?_ (fun hc3 hz3 hs3 => ?_); focus go_size)); (try (refine kept_at hb (w.heap.size + 4) ?_ (fun hc4 hz4 hs4 => ?_); focus go_size)); (try (refine kept_at hb (w.heap.size + 5) ?_ (fun hc5 hz5 hs5 => ?_); focus go_size)); replace hb := kept_trans (a := w) (by go_grown) hb; have hcl := kept_cell hb; have hzl := kept_frozen hb) | (go_at_call 66; refine (dir_any _ _).mono ?_; rintro e w1 ⟨rfl, rfl⟩) | (go_at_call 67; refine (in_any _ _ _ _).mono ?_; rintro e w1 ⟨rfl, rfl⟩))
    refine bodyPost_ret (v := .tuple #[.agg #[.int .i64 0, .int .i64 0], .int .i64 2]) (by simp [results, Tryd.results28, go_sem, *]) rfl ⟨rfl, ?_⟩
    go_grown
  case inr.inr.inr.inl =>
    have hA := fun W => l02At_any x y d r h1 (inB_true h2) (inB_true h3) W
    generalize offL x y d r = o at *
    obtain ⟨ox, oy⟩ := o
    simp only [] at h4 hA
    have HA := Lib.hid hA; clear hA
    go_enter Tryd.func28, Tryd.ntmps28
    go_wp2_with fail
    refine (specOk_any _ _ _).mono ?_
    rintro e w1 ⟨rfl, b1⟩
    refine kept_at b1 (w.heap.size) (by go_size) fun c1_0 z1_0 s1_0 => ?_
    refine kept_at b1 (w.heap.size + 1) (by go_size) fun c1_1 z1_1 s1_1 => ?_
    replace b1 := kept_trans (a := w) (by go_grown) b1
    have l1 := kept_cell b1
    have zz1 := b1.size
    go_wp2_with (first | (go_at_call 66; refine (dir_any _ _).mono ?_; rintro e w1 ⟨rfl, rfl⟩) | (go_at_call 67; refine (in_any _ _ _ _).mono ?_; rintro e w1 ⟨rfl, rfl⟩))
    go_wp2_with fail
    refine (HA.out _).mono ?_
    rintro e w2 ⟨rfl, b2⟩
    refine kept_at b2 (w.heap.size + 1) (by go_size) fun c2_0 z2_0 s2_0 => ?_
    replace b2 := kept_trans (a := w) (by go_grown) b2
    have l2 := kept_cell b2
    have zz2 := b2.size
    go_wp2_with fail
    refine (specOk_any _ _ _).mono ?_
    rintro e w3 ⟨rfl, b3⟩
    refine kept_at b3 (w.heap.size + 1) (by go_size) fun c3_0 z3_0 s3_0 => ?_
    replace b3 := kept_trans (a := w) (by go_grown) b3
    have l3 := kept_cell b3
    have zz3 := b3.size
    go_wp2
    refine bodyPost_ret (v := .tuple #[.agg #[.int .i64 0, .int .i64 0], .int .i64 5]) (by simp [results, Tryd.results28, go_sem, c1_0, z1_0, s1_0, c1_1, z1_1, s1_1, c2_0, z2_0, s2_0, c3_0, z3_0, s3_0]) rfl ⟨rfl, ?_⟩
    go_grown
  case inr.inr.inr.inr =>
    have hA := fun W => l02At_any x y d r h1 (inB_true h2) (inB_true h3) W
    generalize offL x y d r = o at *
    obtain ⟨ox, oy⟩ := o
    simp only [] at h4 hA
    have HA := Lib.hid hA; clear hA
    go_enter Tryd.func28, Tryd.ntmps28
    go_wp2_with fail
    refine (specOk_any _ _ _).mono ?_
    rintro e w1 ⟨rfl, b1⟩
    refine kept_at b1 (w.heap.size) (by go_size) fun c1_0 z1_0 s1_0 => ?_
    refine kept_at b1 (w.heap.size + 1) (by go_size) fun c1_1 z1_1 s1_1 => ?_
    replace b1 := kept_trans (a := w) (by go_grown) b1
    have l1 := kept_cell b1
    have zz1 := b1.size
    go_wp2_with (first | (go_at_call 66; refine (dir_any _ _).mono ?_; rintro e w1 ⟨rfl, rfl⟩) | (go_at_call 67; refine (in_any _ _ _ _).mono ?_; rintro e w1 ⟨rfl, rfl⟩))
    go_wp2_with fail
    refine (HA.out _).mono ?_
    rintro e w2 ⟨rfl, b2⟩
    refine kept_at b2 (w.heap.size + 1) (by go_size) fun c2_0 z2_0 s2_0 => ?_
    replace b2 := kept_trans (a := w) (by go_grown) b2
    have l2 := kept_cell b2
    have zz2 := b2.size
    go_wp2_with fail
    refine (specOk_any _ _ _).mono ?_
    rintro e w3 ⟨rfl, b3⟩
    refine kept_at b3 (w.heap.size + 1) (by go_size) fun c3_0 z3_0 s3_0 => ?_
    refine kept_at b3 (w2.heap.size) (by go_size) fun c3_1 z3_1 s3_1 => ?_
    replace b3 := kept_trans (a := w) (by go_grown) b3
    have l3 := kept_cell b3
    have zz3 := b3.size
    go_wp2
    refine bodyPost_ret (v := .tuple #[.agg #[.int .i64 ox, .int .i64 oy], .int .i64 0]) (by simp [results, Tryd.results28, go_sem, c1_0, z1_0, s1_0, c1_1, z1_1, s1_1, c2_0, z2_0, s2_0, c3_0, z3_0, s3_0, c3_1, z3_1, s3_1]) rfl ⟨rfl, ?_⟩
    go_grown

theorem plus_any (x y u v : Int) (h1 : -20000 ≤ x ∧ x ≤ 20000) (h2 : -20000 ≤ y ∧ y ≤ 20000) (h3 : -20000 ≤ u ∧ u ≤ 20000) (h4 : -20000 ≤ v ∧ v ≤ 20000) (w : World) :
    Calls Tryd.prog 70 #[.agg #[.int .i64 x, .int .i64 y], .agg #[.int .i64 u, .int .i64 v]] w fun e w' => e = .returned (.agg #[.int .i64 (x + u), .int .i64 (y + v)]) ∧ Below w.heap.size w w' := by
  go_enter Tryd.func70, Tryd.ntmps70
  go_wp2
  go_returns
  exact ⟨rfl, by go_grown⟩

set_option maxRecDepth 100000 in
theorem offset_any (d r : Int) (g2 : 0 ≤ d ∧ d ≤ 23) (g3 : 0 ≤ r ∧ r ≤ 1000) (w : World) (ht : VecTab w) :
    Calls Tryd.prog 71 #[.int .i64 d, .int .i64 r] w fun e w' => e = .returned (.agg #[.int .i64 (((vecL d).1 * r).tdiv 1000), .int .i64 (((vecL d).2 * r).tdiv 1000)]) ∧ Below w.heap.size w w' := by
  have hts := ht.size
  have hv := vecL_bd d
  have b1 := offs_bd _ r hv.1 g3
  have b2 := offs_bd _ r hv.2 g3
  have hV := vector_any d g2.1 g2.2
  generalize vecL d = v at *
  obtain ⟨vx, vy⟩ := v
  simp only [] at *
  have HV := Lib.hid hV; clear hV
  have HT := Lib.hid ht; clear ht
  go_enter Tryd.func71, Tryd.ntmps71
  go_wp2_with fail
  refine (HV.out _ (VecTab_kept HT.out (by go_grown))).mono ?_
  rintro e w1 ⟨rfl, b1⟩
  refine kept_at b1 (w.heap.size) (by go_size) fun c1_0 z1_0 s1_0 => ?_
  replace b1 := kept_trans (a := w) (by go_grown) b1
  have l1 := kept_cell b1
  have zz1 := b1.size
  go_wp2
  (try simp only [Exit.inBlock, Exit.then])
  refine bodyPost_ret (v := .agg #[.int .i64 ((vx * r).tdiv 1000), .int .i64 ((vy * r).tdiv 1000)]) ?_ rfl ⟨rfl, ?_⟩
  · rw [results_cell1 rfl]
    go_simp
  · go_grown

set_option maxHeartbeats 4000000 in
set_option maxRecDepth 100000 in
theorem implPlaceAt_any (x y d r : Int) (w : World) (ht : VecTab w) :
    Calls Tryd.prog 29 #[.agg #[.int .i64 x, .int .i64 y], .int .i64 d, .int .i64 r] w fun e w' => e = .returned (.tuple #[.agg #[.int .i64 (placeL x y d r).1.1, .int .i64 (placeL x y d r).1.2], .int .i64 (placeL x y d r).2]) ∧ Below w.heap.size w w' := by
  have hts := ht.size
  rcases placeL_cases x y d r with ⟨h1, E⟩ | ⟨h1, h2, E⟩ | ⟨h1, h2, h3, E⟩ | ⟨h1, h2, h3, h4, E⟩ | ⟨h1, h2, h3, h4, E⟩
  all_goals rw [E]
  all_goals clear E
  case inl =>
    clear ht
    go_enter Tryd.func29, Tryd.ntmps29
    go_wp2_with (go_at_call 45; refine (validPlace_any _ _ _).mono ?_; rintro e w1 ⟨rfl, hb⟩; have hs := hb.size; (try simp at hs); (try (refine kept_at hb (w.heap.size) ?_ (fun hc0 hz0 hs0 => ?_); focus go_size)); (try (refine kept_at hb (w.heap.size + 1) ?_ (fun hc1 hz1 hs1 => ?_); focus go_size)); (try (refine kept_at hb (w.heap.size + 2) ?_ (fun hc2 hz2 hs2 => ?_); focus go_size)); (try (refine kept_at hb (w.heap.size + 3) ?_ (fun hc3 hz3 hs3 => ?_); focus go_size)); (try (refine kept_at hb (w.heap.size + 4) ?_ (fun hc4 hz4 hs4 => ?_); focus go_size)); (try (refine kept_at hb (w.heap.size + 5) ?_ (fun hc5 hz5 hs5 => ?_); focus go_size)); replace hb := kept_trans (a := w) (by go_grown) hb; have hcl := kept_cell hb; have hzl := kept_frozen hb)
    refine bodyPost_ret (v := .tuple #[.agg #[.int .i64 0, .int .i64 0], .int .i64 1]) (by simp [results, Tryd.results29, go_sem, *]) rfl ⟨rfl, ?_⟩
    go_grown
  case inr.inl =>
    clear ht
    go_enter Tryd.func29, Tryd.ntmps29
    go_wp2_with (first | (go_at_call 45; refine (validPlace_any _ _ _).mono ?_; rintro e w1 ⟨rfl, hb⟩; have hs := hb.size; (try simp at hs); (try (refine kept_at hb (w.heap.size) ?_ (fun hc0 hz0 hs0 => ?_); focus go_size)); (try (refine kept_at hb (w.heap.size + 1) ?_ (fun hc1 hz1 hs1 => ?_); focus go_size)); (try (refine kept_at hb (w.heap.size + 2) ?_ (fun hc2 hz2 hs2 => ?_); focus go_size)); (try (refine kept_at hb (w.heap.size + 3) ?_ (fun hc3 hz3 hs3 => ?_); focus go_size)); (try (refine kept_at hb (w.heap.size + 4) ?_ (fun hc4 hz4 hs4 => ?_); focus go_size)); (try (refine kept_at hb (w.heap.size + 5) ?_ (fun hc5 hz5 hs5 => ?_); focus go_size)); replace hb := kept_trans (a := w) (by go_grown) hb; have hcl := kept_cell hb; have hzl := kept_frozen hb) | (go_at_call 69; refine (valid_any _ _).mono ?_; rintro e w1 ⟨rfl, rfl⟩))
    refine bodyPost_ret (v := .tuple #[.agg #[.int .i64 0, .int .i64 0], .int .i64 2]) (by simp [results, Tryd.results29, go_sem, *]) rfl ⟨rfl, ?_⟩
    go_grown
  case inr.inr.inl =>
    clear ht
    have h3' : r < 0 ∨ (0 ≤ r ∧ 1000 < r) := by simp [inB] at h3; omega
    clear h3
    rcases h3' with h3 | ⟨h3, h3'⟩
    all_goals
      go_enter Tryd.func29, Tryd.ntmps29
      go_wp2_with (first | (go_at_call 45; refine (validPlace_any _ _ _).mono ?_; rintro e w1 ⟨rfl, hb⟩; have hs := hb.size; (try simp at hs); (try (refine kept_at hb (w.heap.size) ?_ (fun hc0 hz0 hs0 => ?_); focus go_size)); (try (refine kept_at hb (w.heap.size + 1) ?_ (fun hc1 hz1 hs1 => ?_); focus go_size)); (try (refine kept_at hb (w.heap.size + 2) ?_ (fun hc2 hz2 hs2 => ?_); focus go_size)); (try (refine kept_at hb (w.heap.size + 3) ?_ (fun hc3 hz3 hs3 => ?_); focus go_size)); (try (refine kept_at hb (w.heap.size + 4) ?_ (fun hc4 hz4 hs4 => ?_); focus go_size)); (try (refine kept_at hb (w.heap.size + 5) ?_ (fun hc5 hz5 hs5 => ?_); focus go_size)); replace hb := kept_trans (a := w) (by go_grown) hb; have hcl := kept_cell hb; have hzl := kept_frozen hb) | (go_at_call 69; refine (valid_any _ _).mono ?_; rintro e w1 ⟨rfl, rfl⟩))
      refine bodyPost_ret (v := .tuple #[.agg #[.int .i64 0, .int .i64 0], .int .i64 2]) (by simp [results, Tryd.results29, go_sem, *]) rfl ⟨rfl, ?_⟩
      go_grown
  case inr.inr.inr.inl =>
    have g2 := inB_true h2
    have g3 := inB_true h3
    have g1 := okP_true h1
    have hv := vecL_bd d
    have b1 := offs_bd _ r hv.1 g3
    have b2 := offs_bd _ r hv.2 g3
    have hV := offset_any d r g2 g3
    unfold offL at *
    generalize vecL d = v at *
    obtain ⟨vx, vy⟩ := v
    simp only [] at *
    generalize (vx * r).tdiv 1000 = ox at *
    generalize (vy * r).tdiv 1000 = oy at *
    have HV := Lib.hid hV; clear hV
    have HO := Lib.hid (validPlace_any (x + ox) (y + oy))
    have HT := Lib.hid ht; clear ht
    go_enter Tryd.func29, Tryd.ntmps29
    go_wp2_with fail
    refine (validPlace_any x y _).mono ?_
    rintro e w1 ⟨rfl, b1⟩
    refine kept_at b1 (w.heap.size) (by go_size) fun c1_0 z1_0 s1_0 => ?_
    refine kept_at b1 (w.heap.size + 1) (by go_size) fun c1_1 z1_1 s1_1 => ?_
    replace b1 := kept_trans (a := w) (by go_grown) b1
    have l1 := kept_cell b1
    have zz1 := b1.size
    go_wp2_with (go_at_call 69; refine (valid_any _ _).mono ?_; rintro e w1 ⟨rfl, rfl⟩)
    go_region_with (first
          | (go_at_call 71; (refine (HV.out _ (VecTab_kept HT.out (by go_grown))).mono ?_; rintro e w2 ⟨rfl, hb2⟩); refine kept_at hb2 w.heap.size (by go_size) fun c2_0 z2_0 s2_0 => ?_; refine kept_at hb2 (w.heap.size + 1) (by go_size) fun c2_1 z2_1 s2_1 => ?_; (try (refine kept_at hb2 w1.heap.size ?_ (fun c2_2 z2_2 s2_2 => ?_); focus go_size)); have b2 := kept_trans (a := w) (by go_grown) hb2)
          | (go_at_call 70; refine (plus_any _ _ _ _ (by omega) (by omega) (by omega) (by omega) _).mono ?_; rintro e w3 ⟨rfl, hb3⟩; refine kept_at hb3 (w.heap.size + 1) (by go_size) fun c3_0 z3_0 s3_0 => ?_; (try (refine kept_at hb3 w1.heap.size ?_ (fun c3_1 z3_1 s3_1 => ?_); focus go_size)); (try (refine kept_at hb3 w2.heap.size ?_ (fun c3_2 z3_2 s3_2 => ?_); focus go_size)); have b3 := kept_trans (a := w) (by go_grown) hb3))
    all_goals
      go_wp2_with fail
      refine (HO.out _).mono ?_
      rintro e w4 ⟨rfl, hb4⟩
      refine kept_at hb4 (w.heap.size + 1) (by go_size) fun c4_0 z4_0 s4_0 => ?_
      (try (refine kept_at hb4 w1.heap.size ?_ (fun c4_1 z4_1 s4_1 => ?_); focus go_size))
      (try (refine kept_at hb4 w2.heap.size ?_ (fun c4_2 z4_2 s4_2 => ?_); focus go_size))
      (try (refine kept_at hb4 w3.heap.size ?_ (fun c4_3 z4_3 s4_3 => ?_); focus go_size))
      have b4 := kept_trans (a := w) (by go_grown) hb4
      go_wp2
      refine bodyPost_ret (v := .tuple #[.agg #[.int .i64 0, .int .i64 0], .int .i64 5]) ?_ rfl ⟨rfl, ?_⟩
      · rw [results_cell_tmp rfl]
        go_simp
      · go_grown
  case inr.inr.inr.inr =>
    have g2 := inB_true h2
    have g3 := inB_true h3
    have g1 := okP_true h1
    have hv := vecL_bd d
    have b1 := offs_bd _ r hv.1 g3
    have b2 := offs_bd _ r hv.2 g3
    have hV := offset_any d r g2 g3
    unfold offL at *
    generalize vecL d = v at *
    obtain ⟨vx, vy⟩ := v
    simp only [] at *
    generalize (vx * r).tdiv 1000 = ox at *
    generalize (vy * r).tdiv 1000 = oy at *
    have HV := Lib.hid hV; clear hV
    have HO := Lib.hid (validPlace_any (x + ox) (y + oy))
    have HT := Lib.hid ht; clear ht
    go_enter Tryd.func29, Tryd.ntmps29
    go_wp2_with fail
    refine (validPlace_any x y _).mono ?_
    rintro e w1 ⟨rfl, b1⟩
    refine kept_at b1 (w.heap.size) (by go_size) fun c1_0 z1_0 s1_0 => ?_
    refine kept_at b1 (w.heap.size + 1) (by go_size) fun c1_1 z1_1 s1_1 => ?_
    replace b1 := kept_trans (a := w) (by go_grown) b1
    have l1 := kept_cell b1
    have zz1 := b1.size
    go_wp2_with (go_at_call 69; refine (valid_any _ _).mono ?_; rintro e w1 ⟨rfl, rfl⟩)
    go_region_with (first
          | (go_at_call 71; (refine (HV.out _ (VecTab_kept HT.out (by go_grown))).mono ?_; rintro e w2 ⟨rfl, hb2⟩); refine kept_at hb2 w.heap.size (by go_size) fun c2_0 z2_0 s2_0 => ?_; refine kept_at hb2 (w.heap.size + 1) (by go_size) fun c2_1 z2_1 s2_1 => ?_; (try (refine kept_at hb2 w1.heap.size ?_ (fun c2_2 z2_2 s2_2 => ?_); focus go_size)); have b2 := kept_trans (a := w) (by go_grown) hb2)
          | (go_at_call 70; refine (plus_any _ _ _ _ (by omega) (by omega) (by omega) (by omega) _).mono ?_; rintro e w3 ⟨rfl, hb3⟩; refine kept_at hb3 (w.heap.size + 1) (by go_size) fun c3_0 z3_0 s3_0 => ?_; (try (refine kept_at hb3 w1.heap.size ?_ (fun c3_1 z3_1 s3_1 => ?_); focus go_size)); (try (refine kept_at hb3 w2.heap.size ?_ (fun c3_2 z3_2 s3_2 => ?_); focus go_size)); have b3 := kept_trans (a := w) (by go_grown) hb3))
    all_goals
      go_wp2_with fail
      refine (HO.out _).mono ?_
      rintro e w4 ⟨rfl, hb4⟩
      refine kept_at hb4 (w.heap.size + 1) (by go_size) fun c4_0 z4_0 s4_0 => ?_
      (try (refine kept_at hb4 w1.heap.size ?_ (fun c4_1 z4_1 s4_1 => ?_); focus go_size))
      (try (refine kept_at hb4 w2.heap.size ?_ (fun c4_2 z4_2 s4_2 => ?_); focus go_size))
      (try (refine kept_at hb4 w3.heap.size ?_ (fun c4_3 z4_3 s4_3 => ?_); focus go_size))
      have b4 := kept_trans (a := w) (by go_grown) hb4
      go_wp2
      refine bodyPost_ret (v := .tuple #[.agg #[.int .i64 (x + ox), .int .i64 (y + oy)], .int .i64 0]) ?_ rfl ⟨rfl, ?_⟩
      · rw [results_cell_tmp rfl]
        go_simp
      · go_grown

theorem walk_FnExactPlaceAt (x : Int) (wx : (Lit.int .i64 x).wf = true) (y : Int) (wy : (Lit.int .i64 y).wf = true) (d : Int) (wd : (Lit.int .i64 d).wf = true) (r : Int) (wr : (Lit.int .i64 r).wf = true) (w : World) (ht : VecTab w) :
    Calls Tryd.prog 5 #[.agg #[.int .i64 x, .int .i64 y], .int .i64 d, .int .i64 r] w fun e w' => e = .returned (.bool true) ∧ Below w.heap.size w w' := by
  have hS := specPlaceAt_any x y d r
  have hI := implPlaceAt_any x y d r
  generalize placeL x y d r = L at *
  obtain ⟨⟨ox, oy⟩, oc⟩ := L
  simp only [] at hS hI
  have HS := Lib.hid hS; clear hS
  have HI := Lib.hid hI; clear hI
  have HT := Lib.hid ht; clear ht
  go_enter Tryd.func5, Tryd.ntmps5
  go_wp2_with fail
  refine (toPoint_any _ _ _).mono ?_
  rintro e w1 ⟨rfl, b1⟩
  refine kept_at b1 (w.heap.size) (by go_size) fun c1_0 z1_0 s1_0 => ?_
  replace b1 := kept_trans (a := w) (by go_grown) b1
  have l1 := kept_cell b1
  have zz1 := b1.size
  go_wp2_with fail
  refine (HS.out _).mono ?_
  rintro e w2 ⟨rfl, b2⟩
  refine kept_at b2 (w.heap.size) (by go_size) fun c2_0 z2_0 s2_0 => ?_
  replace b2 := kept_trans (a := w) (by go_grown) b2
  have l2 := kept_cell b2
  have zz2 := b2.size
  go_wp2_with fail
  refine (toPoint_any _ _ _).mono ?_
  rintro e w3 ⟨rfl, b3⟩
  refine kept_at b3 (w.heap.size) (by go_size) fun c3_0 z3_0 s3_0 => ?_
  refine kept_at b3 (w2.heap.size) (by go_size) fun c3_1 z3_1 s3_1 => ?_
  replace b3 := kept_trans (a := w) (by go_grown) b3
  have l3 := kept_cell b3
  have zz3 := b3.size
  go_wp2_with fail
  refine (HI.out _ (VecTab_kept HT.out (by go_grown))).mono ?_
  rintro e w4 ⟨rfl, b4⟩
  refine kept_at b4 (w.heap.size) (by go_size) fun c4_0 z4_0 s4_0 => ?_
  refine kept_at b4 (w2.heap.size) (by go_size) fun c4_1 z4_1 s4_1 => ?_
  replace b4 := kept_trans (a := w) (by go_grown) b4
  have l4 := kept_cell b4
  have zz4 := b4.size
  go_wp2_with fail
  refine (eqPoint_same _ _ _).mono ?_
  rintro e w5 ⟨rfl, b5⟩
  refine kept_at b5 (w.heap.size) (by go_size) fun c5_0 z5_0 s5_0 => ?_
  replace b5 := kept_trans (a := w) (by go_grown) b5
  have l5 := kept_cell b5
  have zz5 := b5.size
  go_wp2
  go_ret
  exact ⟨rfl, by go_grown⟩

end Go.Proofs.YtlpoeepjilfncabDoor
namespace Go.Proofs.YtlpoeepjilfncabDoor.fnExactPlaceAt
open Go.ChangeShapes Go.WideShapes Go.ChangeAt Go.RowKit
set_option linter.unusedVariables false
set_option linter.unusedSimpArgs false
open Go.Joins Go.ChangeMaps
/-- A world for the witness: the settled one, the listed variables holding what their initialisers lay. -/
noncomputable def laidWorld (os : Os) : World := { World.holding Tryd.prog os ⟨#[], #[], []⟩ with heap := ((World.holding Tryd.prog os ⟨#[], #[], []⟩).heap.modify 0 (fun | .cells _ t frozen => .cells #[.int .i64 1000, .int .i64 0, .int .i64 966, .int .i64 259, .int .i64 866, .int .i64 500, .int .i64 707, .int .i64 707, .int .i64 500, .int .i64 866, .int .i64 259, .int .i64 966] t frozen | o => o)) }
theorem laid_met (os : Os) : laidMet Tryd.prog Rows.fnExactPlaceAtRow.laid ((laidWorld os).forCall (fun _ _ => 0) ⟨#[], #[.agg #[.int .i64 0, .int .i64 0], .int .i64 0, .int .i64 0], []⟩).memory :=
  laidMet_of_run' 16 (by kernel_rfl) (by kernel_rfl)
theorem reads (os : Os) {H : Type} (enc : TypeId × Value → H) : ∃ places, DataW.whole enc Tryd.prog ((laidWorld os).forCall (fun _ _ => 0) ⟨#[], #[.agg #[.int .i64 0, .int .i64 0], .int .i64 0, .int .i64 0], []⟩).memory Tryd.f5.params.toList Rows.fnExactPlaceAtSpec.vars false (#[.agg #[.int .i64 0, .int .i64 0], .int .i64 0, .int .i64 0] : Array Value).toList 16 = some ([.agg [.lit (.int .i64 0), .lit (.int .i64 0)], .lit (.int .i64 0), .lit (.int .i64 0)], [Rows.laid_loop_example_g00932_impl_firstVectors], places) :=
  ⟨MemPlace.row ⟨0, 0, none⟩ 12, by kernel_rfl⟩
set_option maxRecDepth 100000 in
theorem lifted (os : Os) (started : os.Started) (H : Type) (enc : TypeId × Value → H) (F : Stop.Interp) :
    ReturnsInHanded {} Tryd.checked os 5 .any ((OpenSpec.ofChange Rows.fnExactPlaceAtSpec).preRow enc Tryd.prog Tryd.f5 Rows.fnExactPlaceAtRow.domain false Rows.fnExactPlaceAtRow.laid) (((OpenSpec.ofChange Rows.fnExactPlaceAtSpec).at F).post enc Tryd.prog Tryd.f5 false true false false) := by
  obtain ⟨places, hx⟩ := reads os enc
  refine returnsInHanded_of_row (C := Tryd.checked) (s := OpenSpec.ofChange Rows.fnExactPlaceAtSpec) (show ownKnob Tryd.prog.godebug = none by kernel_rfl) started (by kernel_rfl) Tryd.func5
    (witness_row_at (enc := enc) (C := Tryd.checked) false (laidWorld os) #[.agg #[.int .i64 0, .int .i64 0], .int .i64 0, .int .i64 0] rfl (by kernel_rfl) (by kernel_rfl) (by kernel_rfl)
      (OpenSpec.preRow_of_cond 16 hx (by kernel_rfl) (fun k hk => by cases hk) (by kernel_rfl) (laid_met os))) ?_
  intro W base args ds gs before hval0 hW _ _ _ hL hSh _
  have hval : ∀ (j : Nat) t v, Tryd.f5.params[j]? = some t → args[j]? = some v → Value.okWide Tryd.prog W .any base t v := hval0
  have hW' := hW
  obtain ⟨p, q, hA0, hV, rfl, hfz, hnd⟩ := hW
  have hA : DataW.TrodAll enc Tryd.prog W 0 (fun _ => true) true Tryd.f5.params.toList args.toList ds p := hA0
  rw [Tryd.params5] at hA hval
  obtain ⟨v0, vs0, d0, ds0, p0, q0, hargs, rfl, rfl, h0, r0⟩ := trodAll_cons hA
  obtain ⟨v1, vs1, d1, ds1, p1, q1, rfl, rfl, rfl, h1, r1⟩ := trodAll_cons r0
  obtain ⟨v2, vs2, d2, ds2, p2, q2, rfl, rfl, rfl, h2, r2⟩ := trodAll_cons r1
  obtain ⟨rfl, rfl, rfl⟩ := trodAll_nil r2
  obtain rfl : args = #[v0, v1, v2] := by cases args; simp_all
  obtain ⟨g1, rfl⟩ : ∃ g1, gs = [g1] := vars_one hV
  obtain ⟨c0_0, c0_1, y0_0, y0_1, m0, rfl, rfl, rfl, h0_0, h0_1⟩ := Joins.open_agg2 Tryd.underlying26 (by kernel_rfl) (show Tryd.prog.cellsOf 26 = 2 by kernel_rfl) (hval 0 26 v0 rfl rfl) h0
  obtain ⟨a0_0, e0_0, rfl, w0_0⟩ := DataW.trod_int Tryd.underlying2 h0_0
  simp at e0_0
  subst e0_0
  obtain ⟨a0_1, e0_1, rfl, w0_1⟩ := DataW.trod_int Tryd.underlying2 h0_1
  simp at e0_1
  subst e0_1
  obtain ⟨a1, rfl, rfl, rfl, w1⟩ := open_int Tryd.underlying2 (hval 1 2 v1 rfl rfl) h1
  obtain ⟨a2, rfl, rfl, rfl, w2⟩ := open_int Tryd.underlying2 (hval 2 2 v2 rfl rfl) h2
  clear hA0 hval0
  refine (walk_FnExactPlaceAt (w := W) a0_0 w0_0 a0_1 w0_1 a1 w1 a2 w2 (vecTab_of_laid hL)).mono fun e W' ⟨he, hb⟩ => ?_
  subst he
  exact ⟨_, rfl, law_postV (B := 4) (by kernel_rfl) (by kernel_rfl) (by kernel_rfl) rfl Tryd.underlying4 hW' rfl hb⟩
theorem said : Rows.FnExactPlaceAtSaid :=
  OpenClaim.holds_of_cond 5 Tryd.f5 rfl rfl rfl rfl rfl rfl rfl ⟨rfl, rfl, rfl, rfl, rfl⟩ rfl rfl rfl rfl rfl (by kernel_rfl) Tryd.func5 (by kernel_rfl)
    (of_decide_eq_true (by kernel_rfl)) (by unfold Func.isWrapper; first | (rw [if_pos (by decide +kernel)]; kernel_rfl) | (rw [if_neg (by decide +kernel)]; exact ⟨rfl, rfl⟩))
    (fun os started H enc _ F => by rw [OpenClaim.pre_eq_preRow]; exact lifted os started H enc F)
theorem plain (f : FuncId) (fn : Func) (hf : Tryd.pinned.checked.prog.funcNamed "loop.example/g00932/laws.FnExactPlaceAt" = some f) (hfn : Tryd.pinned.checked.prog.funcs[f]? = some fn) :
    true = Tryd.pinned.checked.prog.looks [] ∧ ∀ (j : Nat) t, fn.params[j]? = some t → Tryd.pinned.checked.prog.wantsStandIn t = false := by
  obtain rfl : f = 5 := Option.some.inj ((show Tryd.prog.funcNamed "loop.example/g00932/laws.FnExactPlaceAt" = some 5 by kernel_rfl).symm.trans hf) |>.symm
  obtain rfl : fn = Tryd.f5 := (Option.some.inj (Tryd.func5.symm.trans hfn)).symm
  refine ⟨by kernel_rfl, fun j t ht => ?_⟩
  have hall : (Tryd.f5.params.toList.all fun t => !Tryd.pinned.checked.prog.wantsStandIn t) = true := by kernel_rfl
  have := List.all_eq_true.mp hall t (by simpa using Array.mem_of_getElem? ht)
  simpa using this
/-- The statement: the card of the law: for every input it returns true, the arguments and the listed variables read afterwards as before. -/
theorem proved : Rows.FnExactPlaceAtCardSaid :=
  Claim7.holds_tied_plain_at .later [] _ _ _ _ said (fun _ h => by cases h) (by kernel_rfl) (fun _ h => by cases h) fnExactPlaceAt_row_tie rfl ⟨rfl, rfl⟩ (by kernel_rfl) rfl plain (by kernel_rfl)
end Go.Proofs.YtlpoeepjilfncabDoor.fnExactPlaceAt
