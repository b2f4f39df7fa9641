/- Proved: for every input the law FnExactDirectionTo returns true, and each argument reads afterwards as it read before; no condition beside those of the given row. -/
import Derived.Test.YtjddpbpambnlgabDoorRows
import Derived.WalkKit
import Derived.ProofKit
import Derived.OpenShut
import Derived.Lib.Hide
import Derived.Handy
import Derived.Carry
import Derived.Deep.RegionHeld3
import Derived.Lib.LaidTab
import Derived.Lib.SmallJoins
import Derived.Test.YtjddpbpambnlgabDoorCards
import Derived.Test.YtjddpbpambnlgabDoorTie
import Derived.Lib.SmallJoins
import Derived.Deep.DeepHandedRow
import Derived.Lib.LaidTab
import Derived.SevenTiedAt
namespace Go.Proofs.YtjddpbpambnlgabDoor
open Go.ChangeShapes Go.WideShapes Go.ChangeAt Go.RowKit
set_option linter.unusedVariables false
set_option linter.unusedSimpArgs false

theorem trodAll_stay {H : Type} {enc : TypeId × Value → H} {P : Program} (hl : laidOutB P = true) {W W' : World} (hb : Below W.heap.size W W') :
    ∀ (ts : List TypeId) (vs : List Value) (ds : List (DataW H)) (ps : List MemPlace), ts.all (fun t => P.readableRec t && decide (t < P.types.size)) = true →
      DataW.TrodAll enc P W 0 (fun _ => true) true ts vs ds ps → (∀ x ∈ ps, x.block < W.heap.size) →
      DataW.TrodAll enc P W' 0 (fun b => decide (b < W.heap.size)) true ts vs ds ps := by
  intro ts
  induction ts with
  | nil => intro vs ds ps _ h _; obtain ⟨rfl, rfl, rfl⟩ := trodAll_nil h; exact rfl
  | cons t ts ih =>
    intro vs ds ps hr h hlt
    simp only [List.all_cons, Bool.and_eq_true, decide_eq_true_eq] at hr
    obtain ⟨v, vs', d, ds', p, q, rfl, rfl, rfl, h0, h1⟩ := trodAll_cons h
    exact ⟨p, q, Below.trod hl hr.1.1 hr.1.2 h0 hb (fun x hx => hlt x (by simp [hx])), ih _ _ _ hr.2 h1 (fun x hx => hlt x (by simp [hx])), rfl⟩

/-- Each variable's type is one that can be read. -/
def varsOk (P : Program) (ns : List String) : Bool := ns.all fun n => match P.globalNamed n with
  | some g => (match (P.globals[g]?).map (·.type) with | some t => P.readableRec t && decide (t < P.types.size) | none => true)
  | none => true

theorem trodVars_stay {H : Type} {enc : TypeId × Value → H} {P : Program} (hl : laidOutB P = true) {W W' : World} (hb : Below W.heap.size W W') :
    ∀ (ns : List String) (gs : List (DataW H)) (ps : List MemPlace), varsOk P ns = true → DataW.TrodVars enc P W (fun _ => true) ns gs ps → (∀ x ∈ ps, x.block < W.heap.size) →
      DataW.TrodVars enc P W' (fun b => decide (b < W.heap.size)) ns gs ps := by
  intro ns
  induction ns with
  | nil => intro gs ps _ h _; obtain ⟨rfl, rfl⟩ := trodVars_none h; exact rfl
  | cons n ns ih =>
    intro gs ps hv h hlt
    cases gs with
    | nil => exact h.elim
    | cons d gs =>
      obtain ⟨g, t, cs, fuel, p, q, hg, ht, hvar, hd, hr, rfl⟩ := h
      simp only [varsOk, List.all_cons, Bool.and_eq_true] at hv
      have hv1 := hv.1
      rw [hg] at hv1
      simp only [ht, Bool.and_eq_true, decide_eq_true_eq] at hv1
      have hgl : g < W.heap.size := by
        simp only [World.var?, hg, Option.bind_some] at hvar
        rcases Nat.lt_or_ge g W.heap.size with hlt | hge
        · exact hlt
        · rw [Array.getElem?_eq_none hge] at hvar; simp at hvar
      have h0 : DataW.Trod enc P W 0 (fun _ => true) true t (.agg cs) d p := ⟨fuel, by simpa [Value.cells] using hd⟩
      obtain ⟨fuel', hd'⟩ := Below.trod hl hv1.1 hv1.2 h0 hb (fun x hx => hlt x (by simp [hx]))
      refine ⟨g, t, cs, fuel', p, q, hg, ht, ?_, by simpa [Value.cells] using hd', ih _ _ hv.2 hr (fun x hx => hlt x (by simp [hx])), rfl⟩
      simp only [World.var?, hg, Option.bind_some] at hvar ⊢
      rw [hb.block g hgl]
      exact hvar

/-- A law's row at its end, the listed variables too: it returned true, and of what was there nothing has turned. -/
theorem law_postV {H : Type} {enc : TypeId × Value → H} {P : Program} {f : Func} {s : ChangeSpec} {W W' : World} {args : Array Value} {ds gs : List (DataW H)} {before : List MemPlace} {B : TypeId}
    (hl : laidOutB P = true) (hr : f.params.toList.all (fun t => P.readableRec t && decide (t < P.types.size)) = true) (hvs : varsOk P s.vars = true)
    (hres : f.resultTypes = #[B]) (hB : P.underlying B = some .bool)
    (hW : DataW.Whole enc P f.params.toList s.vars false W args.toList ds gs before)
    (hfn : s.fn H (ds ++ gs) = { results := [.lit (.bool true)], args := ds, vars := gs }) (hb : Below W.heap.size W W') :
    s.post enc P f false true false false W args (.bool true) W' := by
  have hlt : ∀ p ∈ before, p.block < W.heap.size := fun p hp => hW.lt p hp
  have hW' := hW
  obtain ⟨p, q, hA, hV, rfl, _, _⟩ := hW'
  refine ⟨ds, gs, p ++ q, [], p, q, hW, ?_, ?_, ?_, hb.frame _, fun h => by cases h⟩
  · rw [hfn, hres]
    exact trodAll_cons_mk (shut_bool hB _) trodAll_mk0
  · rw [hfn]
    exact trodAll_stay hl hb _ _ _ _ hr hA (fun x hx => hlt x (by simp [hx]))
  · rw [hfn]
    exact trodVars_stay hl hb _ _ _ hvs hV (fun x hx => hlt x (by simp [hx]))

/-- An array of pairs of numbers that reads as a list holds its numbers, cell for cell. -/
theorem cells_of_pairs {H : Type} {enc : TypeId × Value → H} {P : Program} {w : World} {base : Nat} {sp : Nat → Bool} {held : Bool} {fuel : Nat} {t e : TypeId} {n : Nat} {f0 f1 : Field} {cs : List Value} {zs : List (Int × Int)} {p : List MemPlace}
    (ht : P.underlying t = some (.array n e)) (he : P.underlying e = some (.struct #[f0, f1])) (h0 : P.underlying f0.type = some (.int .i64)) (h1 : P.underlying f1.type = some (.int .i64))
    (hce : P.cellsOf e = 2) (c0 : P.cellsOf f0.type = 1) (c1 : P.cellsOf f1.type = 1) (o0 : f0.offset = 0) (o1 : f1.offset = 1)
    (h : DataW.trod enc P w base sp held fuel t cs = some (.agg (zs.map fun z => .agg [.lit (.int .i64 z.1), .lit (.int .i64 z.2)]), p)) :
    ∀ k, (hk : k < zs.length) → cs[2 * k]? = some (.int .i64 zs[k].1) ∧ cs[2 * k + 1]? = some (.int .i64 zs[k].2) := by
  obtain ⟨xs, m, _, hx, _, hxl, hel⟩ := DataW.trod_array ht h
  have hm : zs.map (fun z => (.agg [.lit (.int .i64 z.1), .lit (.int .i64 z.2)] : DataW H)) = xs.map (·.1) := by
    have := congrArg Prod.fst hx
    simpa using this
  have hlen : zs.length = xs.length := by simpa using congrArg List.length hm
  intro k hk
  have hk' : k < xs.length := by omega
  have hs := hel k (by omega)
  rw [List.getElem?_eq_getElem hk'] at hs
  have hd : (xs[k]).1 = .agg [.lit (.int .i64 zs[k].1), .lit (.int .i64 zs[k].2)] := by
    have := congrArg (·[k]?) hm
    simp [hk, hk'] at this
    exact this.symm
  obtain ⟨y0, y1, m', hy, _, g0, g1⟩ := trod_struct2 he hs
  obtain ⟨a, e0, rfl, _⟩ := DataW.trod_int h0 g0
  obtain ⟨b, e1, rfl, _⟩ := DataW.trod_int h1 g1
  rw [hy] at hd
  simp at hd
  rw [o0, c0, hce] at e0
  rw [o1, c1, hce] at e1
  rw [← hd.1, ← hd.2]
  refine ⟨?_, ?_⟩
  · have := congrArg (·[0]?) e0
    simpa [List.getElem?_take, List.getElem?_drop, Nat.mul_comm] using this
  · have := congrArg (·[0]?) e1
    simpa [List.getElem?_take, List.getElem?_drop, Nat.mul_comm] using this

theorem vars_one {H : Type} {enc : TypeId × Value → H} {P : Program} {W : World} {sp : Nat → Bool} {n : String} {gs : List (DataW H)} {q : List MemPlace} (h : DataW.TrodVars enc P W sp [n] gs q) : ∃ g1, gs = [g1] := by
  cases gs with
  | nil => exact h.elim
  | cons g gs =>
    obtain ⟨_, _, _, _, _, _, _, _, _, _, hr, _⟩ := h
    obtain ⟨rfl, _⟩ := trodVars_none hr
    exact ⟨_, rfl⟩

theorem kept_cell {W w1 : World} (hb : Below W.heap.size W w1) (b o : Nat) (h : b < W.heap.size) : w1.cell? ⟨b, o, none⟩ = W.cell? ⟨b, o, none⟩ := hb.cell (p := ⟨b, o, none⟩) h

theorem kept_frozen {W w1 : World} (hb : Below W.heap.size W w1) (b o : Nat) (h : b < W.heap.size) : w1.frozen? ⟨b, o, none⟩ = W.frozen? ⟨b, o, none⟩ := hb.frozen (p := ⟨b, o, none⟩) h

theorem kept_trans {a b c : World} (h : Below a.heap.size a b) (k : Below b.heap.size b c) : Below a.heap.size a c := h.trans (k.mono h.size)

theorem kept_at {W w1 : World} (hb : Below W.heap.size W w1) (b : Nat) {G : Prop} (h : b < W.heap.size)
    (k : (∀ o, w1.cell? ⟨b, o, none⟩ = W.cell? ⟨b, o, none⟩) → (∀ o, w1.frozen? ⟨b, o, none⟩ = W.frozen? ⟨b, o, none⟩) → b < w1.heap.size → G) : G :=
  k (fun o => kept_cell hb b o h) (fun o => kept_frozen hb b o h) (Nat.lt_of_lt_of_le h hb.size)

def inB (n low high : Int) : Bool := decide (low ≤ n) && decide (n ≤ high)

theorem in_any (n low high : Int) (w : World) :
    Calls Tryd.prog 13 #[.int .i64 n, .int .i64 low, .int .i64 high] w fun e w' => e = .returned (.bool (inB n low high)) ∧ w = w' := by
  unfold inB
  by_cases h1 : low ≤ n <;> by_cases h2 : n ≤ high <;>
  · go_enter Tryd.func13, Tryd.ntmps13
    go_wp2
    go_ret
    exact ⟨by simp [*], rfl⟩

theorem inB_true {n a b : Int} (h : inB n a b = true) : a ≤ n ∧ n ≤ b := by simpa [inB] using h

def okP (x y : Int) : Bool := inB x (-10000) 10000 && inB y (-10000) 10000

theorem okP_true {x y : Int} (h : okP x y = true) : (-10000 ≤ x ∧ x ≤ 10000) ∧ -10000 ≤ y ∧ y ≤ 10000 := by
  simp only [okP, Bool.and_eq_true] at h
  exact ⟨inB_true h.1, inB_true h.2⟩

theorem specOk_any (x y : Int) (w : World) :
    Calls Tryd.prog 7 #[.agg #[.int .i64 x, .int .i64 y]] w fun e w' => e = .returned (.bool (okP x y)) ∧ Below w.heap.size w w' := by
  unfold okP
  cases h1 : inB x (-10000) 10000 <;>
  · go_enter Tryd.func7, Tryd.ntmps7
    go_wp2_with (go_at_call 13; refine (in_any _ _ _ _).mono ?_; rintro e w' ⟨rfl, rfl⟩)
    go_ret
    exact ⟨by simp, by go_grown⟩

theorem validPlace_any (x y : Int) (w : World) :
    Calls Tryd.prog 9 #[.agg #[.int .i64 x, .int .i64 y]] w fun e w' => e = .returned (.bool (okP x y)) ∧ Below w.heap.size w w' := by
  unfold okP inB
  rcases (show ¬ -10000 ≤ x ∨ (-10000 ≤ x ∧ ¬ x ≤ 10000) ∨ (-10000 ≤ x ∧ x ≤ 10000 ∧ ¬ -10000 ≤ y) ∨ (-10000 ≤ x ∧ x ≤ 10000 ∧ -10000 ≤ y ∧ ¬ y ≤ 10000) ∨ (-10000 ≤ x ∧ x ≤ 10000 ∧ -10000 ≤ y ∧ y ≤ 10000) from by omega) with h1 | ⟨h1, h2⟩ | ⟨h1, h2, h3⟩ | ⟨h1, h2, h3, h4⟩ | ⟨h1, h2, h3, h4⟩
  all_goals
    go_enter Tryd.func9, Tryd.ntmps9
    go_wp2
    go_ret
    exact ⟨by simp [*] <;> omega, by go_grown⟩

theorem toPoint_any (x y : Int) (w : World) :
    Calls Tryd.prog 5 #[.agg #[.int .i64 x, .int .i64 y]] w fun e w' => e = .returned (.agg #[.int .i64 x, .int .i64 y]) ∧ Below w.heap.size w w' := by
  go_enter Tryd.func5, Tryd.ntmps5
  go_wp2
  go_returns
  exact ⟨rfl, by go_grown⟩

theorem minus_any (x y u v : Int) (h1 : -20000 ≤ x ∧ x ≤ 20000) (h2 : -20000 ≤ y ∧ y ≤ 20000) (h3 : -20000 ≤ u ∧ u ≤ 20000) (h4 : -20000 ≤ v ∧ v ≤ 20000) (w : World) :
    Calls Tryd.prog 10 #[.agg #[.int .i64 x, .int .i64 y], .agg #[.int .i64 u, .int .i64 v]] w fun e w' => e = .returned (.agg #[.int .i64 (x - u), .int .i64 (y - v)]) ∧ Below w.heap.size w w' := by
  go_enter Tryd.func10, Tryd.ntmps10
  go_wp2
  go_returns
  exact ⟨rfl, by go_grown⟩

theorem scalar_any (x y u v : Int) (w : World) :
    Calls Tryd.prog 12 #[.agg #[.int .i64 x, .int .i64 y], .agg #[.int .i64 u, .int .i64 v]] w fun e w' => e = .returned (.int .i64 (wrap64 (wrap64 (x * u) + wrap64 (y * v)))) ∧ Below w.heap.size w w' := by
  go_enter Tryd.func12, Tryd.ntmps12
  go_wp2
  go_returns
  exact ⟨rfl, by go_grown⟩

def vec0 : Nat → Int × Int
  | 0 => (1000, 0)
  | 1 => (966, 259)
  | 2 => (866, 500)
  | 3 => (707, 707)
  | 4 => (500, 866)
  | 5 => (259, 966)
  | _ => (0, 0)

def vecQ (p : Int × Int) : Nat → Int × Int
  | 0 => p
  | n + 1 => (-(vecQ p n).2, (vecQ p n).1)

def vecL (d : Int) : Int × Int := vecQ (vec0 (d.toNat % 6)) (d.toNat / 6)

/-- The table of vectors as it lies in memory. -/
structure VecTab (w : World) : Prop where
  size : 0 < w.heap.size
  cell : ∀ k, k < 6 → w.cell? ⟨0, 2 * k, none⟩ = some (.int .i64 (vec0 k).1) ∧ w.cell? ⟨0, 2 * k + 1, none⟩ = some (.int .i64 (vec0 k).2)

theorem VecTab_kept {W w1 : World} (h : VecTab W) (hb : Below W.heap.size W w1) : VecTab w1 :=
  ⟨Nat.lt_of_lt_of_le h.size hb.size, fun k hk => by rw [kept_cell hb _ _ h.size, kept_cell hb _ _ h.size]; exact h.cell k hk⟩

theorem vecQ_q (d : Int) (h : 0 ≤ d) (j : Nat) (h1 : 6 * (j : Int) ≤ d) (h2 : d < 6 * (j : Int) + 6) (r : Nat) (hr : d.toNat % 6 = r) : vecL d = vecQ (vec0 r) j := by
  unfold vecL
  rw [hr, show d.toNat / 6 = j by omega]

theorem vecQ_bd (p : Int × Int) (h : (-1000 ≤ p.1 ∧ p.1 ≤ 1000) ∧ -1000 ≤ p.2 ∧ p.2 ≤ 1000) (j : Nat) : (-1000 ≤ (vecQ p j).1 ∧ (vecQ p j).1 ≤ 1000) ∧ -1000 ≤ (vecQ p j).2 ∧ (vecQ p j).2 ≤ 1000 := by
  induction j with
  | zero => exact h
  | succ j ih => simp only [vecQ]; omega

set_option maxHeartbeats 1600000 in
theorem specVector_any (d : Int) (h0 : 0 ≤ d) (h1 : d ≤ 23) (w : World) :
    Calls Tryd.prog 14 #[.int .i64 d] w fun e w' => e = .returned (.agg #[.int .i64 (vecL d).1, .int .i64 (vecL d).2]) ∧ Below w.heap.size w w' := by
  have hq := vecQ_q d h0
  obtain ⟨r, hr, hr6⟩ : ∃ r : Nat, d.toNat % 6 = r ∧ r < 6 := ⟨_, rfl, by omega⟩
  have e : d % 6 = (r : Int) := by omega
  have hq' := fun j a b => hq j a b r hr
  obtain ⟨p, hp⟩ : ∃ p, p = vec0 r := ⟨_, rfl⟩
  rw [← hp] at hq'
  have hpb : (-1000 ≤ p.1 ∧ p.1 ≤ 1000) ∧ -1000 ≤ p.2 ∧ p.2 ≤ 1000 := by
    rcases (show r = 0 ∨ r = 1 ∨ r = 2 ∨ r = 3 ∨ r = 4 ∨ r = 5 by omega) with rfl | rfl | rfl | rfl | rfl | rfl <;> subst hp <;> decide
  have HQ := Lib.hid hq'; clear hq hq' hr
  have E := Lib.hid e; clear e
  have HP := Lib.hid hp; clear hp
  rcases (show r = 0 ∨ r = 1 ∨ r = 2 ∨ r = 3 ∨ r = 4 ∨ r = 5 by omega) with rfl | rfl | rfl | rfl | rfl | rfl
  all_goals
    have e := E.out
    go_enter Tryd.func14, Tryd.ntmps14
    go_wp2
    clear e
    go_loopw [0] (fun i wr => ∃ j : Nat, 6 * (j : Int) ≤ d ∧ i = .int .i64 (d - 6 * j) ∧ wr = ((w.alloc (.cells #[.int .i64 0, .int .i64 0] 26)).alloc (.cells #[.int .i64 1000, .int .i64 0, .int .i64 966, .int .i64 259, .int .i64 866, .int .i64 500, .int .i64 707, .int .i64 707, .int .i64 500, .int .i64 866, .int .i64 259, .int .i64 966] 26)).alloc (.cells #[.int .i64 (vecQ p j).1, .int .i64 (vecQ p j).2] 26)) (fun i _ => (intOf i).toNat)
    case atStart => exact ⟨0, by omega, by simp, by rw [HP.out]; rfl⟩
    case round =>
      obtain ⟨j, hj, rfl, rfl⟩ := hrel
      have hb := vecQ_bd p hpb j
      by_cases hlt : 6 ≤ d - 6 * (j : Int)
      · go_wp2
        go_roundw
        case rel => exact ⟨j + 1, by omega, by congr 1; omega, rfl⟩
        case measure => simp [intOf]; omega
      · go_wp2
        go_returns
        exact ⟨by rw [HQ.out j hj (by omega)], by go_grown⟩

theorem vector_any (d : Int) (h0 : 0 ≤ d) (h1 : d ≤ 23) (w : World) (ht : VecTab w) :
    Calls Tryd.prog 11 #[.int .i64 d] w fun e w' => e = .returned (.agg #[.int .i64 (vecL d).1, .int .i64 (vecL d).2]) ∧ Below w.heap.size w w' := by
  have hq := vecQ_q d h0
  obtain ⟨r, hr, hr6⟩ : ∃ r : Nat, d.toNat % 6 = r ∧ r < 6 := ⟨_, rfl, by omega⟩
  have e : d % 6 = (r : Int) := by omega
  have hq' := fun j a b => hq j a b r hr
  obtain ⟨p, hp⟩ : ∃ p, p = vec0 r := ⟨_, rfl⟩
  rw [← hp] at hq'
  have hpb : (-1000 ≤ p.1 ∧ p.1 ≤ 1000) ∧ -1000 ≤ p.2 ∧ p.2 ≤ 1000 := by
    rcases (show r = 0 ∨ r = 1 ∨ r = 2 ∨ r = 3 ∨ r = 4 ∨ r = 5 by omega) with rfl | rfl | rfl | rfl | rfl | rfl <;> subst hp <;> decide
  obtain ⟨tx, ty⟩ := ht.cell r hr6
  rw [← hp] at tx ty
  have hs := ht.size
  have HQ := Lib.hid hq'; clear hq hq' hr ht hp
  have e2 : 2 * r = r * 2 := by omega
  rw [e2] at tx ty
  clear e2
  go_enter Tryd.func11, Tryd.ntmps11
  go_wp2
  go_loopw [10] (fun i wr => ∃ j : Nat, 6 * (j : Int) ≤ d ∧ i = .int .i64 j ∧ wr = (w.alloc (.cells #[.int .i64 0, .int .i64 0] 26)).alloc (.cells #[.int .i64 (vecQ p j).1, .int .i64 (vecQ p j).2] 26)) (fun i _ => 10 - (intOf i).toNat)
  case atStart => exact ⟨0, by omega, rfl, rfl⟩
  case round =>
    obtain ⟨j, hj, rfl, rfl⟩ := hrel
    have hb := vecQ_bd p hpb j
    by_cases hlt : (j : Int) < d / 6
    · go_wp2
      go_roundw
      case rel => exact ⟨j + 1, by omega, by go_num, rfl⟩
      case measure => simp [intOf]; omega
    · go_wp2
      go_returns
      exact ⟨by rw [HQ.out j hj (by omega)], by go_grown⟩

theorem vecTab_of_laid {W : World} (h : laidMetH Tryd.prog [("loop.example/g00932/impl.firstVectors", Rows.laid_loop_example_g00932_impl_firstVectors)] W) : VecTab W := by
  have h' : laidMet Tryd.prog [("loop.example/g00932/impl.firstVectors", Rows.laid_loop_example_g00932_impl_firstVectors)] W := h
  obtain ⟨ps, ⟨g, t, cs, fuel, p, q, hg, ht, hvar, hd, _, _⟩, _⟩ := h'
  obtain rfl : 0 = g := Option.some.inj ((show Tryd.prog.globalNamed "loop.example/g00932/impl.firstVectors" = some 0 by kernel_rfl).symm.trans hg)
  obtain rfl : 37 = t := Option.some.inj ((show (Tryd.prog.globals[0]?).map (·.type) = some 37 by kernel_rfl).symm.trans ht)
  have hc := cells_of_pairs (zs := [(1000, 0), (966, 259), (866, 500), (707, 707), (500, 866), (259, 966)]) Tryd.underlying37 Tryd.underlying26 Tryd.underlying2 Tryd.underlying2 (by kernel_rfl) (by kernel_rfl) (by kernel_rfl) rfl rfl hd
  refine ⟨?_, fun k hk => ?_⟩
  · simp only [World.var?, hg, Option.bind_some] at hvar
    rcases Nat.lt_or_ge 0 W.heap.size with hlt | hge
    · exact hlt
    · rw [Array.getElem?_eq_none hge] at hvar; simp at hvar
  · have := hc k (by simpa using hk)
    rw [World.var?_cell hg hvar, World.var?_cell hg hvar, ← Array.getElem?_toList, ← Array.getElem?_toList, this.1, this.2]
    rcases (show k = 0 ∨ k = 1 ∨ k = 2 ∨ k = 3 ∨ k = 4 ∨ k = 5 by omega) with rfl | rfl | rfl | rfl | rfl | rfl <;> exact ⟨rfl, rfl⟩

theorem vecL_bd (d : Int) : (-1000 ≤ (vecL d).1 ∧ (vecL d).1 ≤ 1000) ∧ -1000 ≤ (vecL d).2 ∧ (vecL d).2 ≤ 1000 := by
  unfold vecL
  refine vecQ_bd _ ?_ _
  have h := Nat.mod_lt d.toNat (show 0 < 6 by omega)
  generalize d.toNat % 6 = r at *
  rcases (show r = 0 ∨ r = 1 ∨ r = 2 ∨ r = 3 ∨ r = 4 ∨ r = 5 by omega) with rfl | rfl | rfl | rfl | rfl | rfl <;> decide

def scal (p q : Int) (d : Int) : Int := (vecL d).1 * p + (vecL d).2 * q

/-- The best direction, and its product, among the first k. -/
def stL (p q : Int) : Nat → Int × Int
  | 0 => (0, 0)
  | k + 1 => if k = 0 ∨ (stL p q k).2 < scal p q k then ((k : Int), scal p q k) else stL p q k

theorem stL_scal (p q : Int) (k : Nat) (hk : 1 ≤ k) : (stL p q k).2 = scal p q (stL p q k).1 ∧ 0 ≤ (stL p q k).1 ∧ (stL p q k).1 < k := by
  induction k with
  | zero => omega
  | succ k ih =>
    unfold stL
    split
    · exact ⟨rfl, by simp, by simp; omega⟩
    · next h =>
      have := ih (by omega)
      exact ⟨this.1, this.2.1, by omega⟩

theorem scal_bd (p q d : Int) (hp : -20000 ≤ p ∧ p ≤ 20000) (hq : -20000 ≤ q ∧ q ≤ 20000) :
    (-20000000 ≤ (vecL d).1 * p ∧ (vecL d).1 * p ≤ 20000000) ∧ (-20000000 ≤ (vecL d).2 * q ∧ (vecL d).2 * q ≤ 20000000) := by
  have h := vecL_bd d
  have key : ∀ a b : Int, (-1000 ≤ a ∧ a ≤ 1000) → (-20000 ≤ b ∧ b ≤ 20000) → -20000000 ≤ a * b ∧ a * b ≤ 20000000 := by
    intro a b ha hb
    have hn : (a * b).natAbs ≤ 1000 * 20000 := by
      rw [Int.natAbs_mul]
      exact Nat.mul_le_mul (by omega) (by omega)
    omega
  exact ⟨key _ _ h.1 hp, key _ _ h.2 hq⟩

theorem scalar_in (x y u v : Int) (h1 : -4000000000000000000 ≤ x * u ∧ x * u ≤ 4000000000000000000) (h2 : -4000000000000000000 ≤ y * v ∧ y * v ≤ 4000000000000000000) (w : World) :
    Calls Tryd.prog 12 #[.agg #[.int .i64 x, .int .i64 y], .agg #[.int .i64 u, .int .i64 v]] w fun e w' => e = .returned (.int .i64 (x * u + y * v)) ∧ Below w.heap.size w w' := by
  have h := scalar_any x y u v w
  rw [IntWalk.wrap64_in (x * u) (by omega), IntWalk.wrap64_in (y * v) (by omega), IntWalk.wrap64_in _ (by omega)] at h
  exact h

set_option maxHeartbeats 800000 in
theorem l02To_any (x y u v : Int) (h1 : okP x y = true) (h2 : okP u v = true) (w : World) :
    Calls Tryd.prog 8 #[.agg #[.int .i64 x, .int .i64 y], .agg #[.int .i64 u, .int .i64 v]] w fun e w' => e = .returned (.int .i64 (stL (u - x) (v - y) 24).1) ∧ Below w.heap.size w w' := by
  have g1 := okP_true h1
  have g2 := okP_true h2
  go_enter Tryd.func8, Tryd.ntmps8
  go_wp2_with fail
  go_loopw [5, 6, 7] (fun b m i wr => ∃ k : Nat, k ≤ 24 ∧ i = .int .i64 k ∧ b = .int .i64 (stL (u - x) (v - y) k).1 ∧ m = .int .i64 (stL (u - x) (v - y) k).2 ∧ Below ((w.alloc (.cells #[.int .i64 x, .int .i64 y] 26)).alloc (.cells #[.int .i64 u, .int .i64 v] 26)).heap.size ((w.alloc (.cells #[.int .i64 x, .int .i64 y] 26)).alloc (.cells #[.int .i64 u, .int .i64 v] 26)) wr) (fun _ _ i _ => 24 - (intOf i).toNat)
  case atStart => exact ⟨0, by omega, rfl, rfl, rfl, Below.refl _ _⟩
  case round =>
    obtain ⟨k, hk, rfl, rfl, rfl, hb⟩ := hrel
    have hbd := scal_bd (u - x) (v - y) k (by omega) (by omega)
    by_cases hlt : k < 24
    · have hS := specVector_any (k : Int) (by omega) (by omega)
      have hstep : stL (u - x) (v - y) (k + 1) = if k = 0 ∨ (stL (u - x) (v - y) k).2 < scal (u - x) (v - y) k then ((k : Int), scal (u - x) (v - y) k) else stL (u - x) (v - y) k := rfl
      unfold scal at hstep
      generalize vecL (k : Int) = vv at *
      obtain ⟨vx, vy⟩ := vv
      generalize stL (u - x) (v - y) k = s at *
      obtain ⟨sb, sm⟩ := s
      simp only [] at *
      have HS := Lib.hid hS; clear hS
      have HST := Lib.hid hstep; clear hstep
      refine kept_at hb w.heap.size (by simp; omega) fun c0 z0 s0 => ?_
      refine kept_at hb (w.heap.size + 1) (by simp) fun c1 z1 s1 => ?_
      go_wp2_with fail
      refine (HS.out _).mono ?_
      rintro e w1 ⟨rfl, hb1⟩
      refine kept_at hb1 w.heap.size (by go_size) fun d0 y0 t0 => ?_
      refine kept_at hb1 (w.heap.size + 1) (by go_size) fun d1 y1 t1 => ?_
      have hb2 := hb.trans (hb1.mono hb.size)
      by_cases hc : k = 0
      · have e0 : ((k : Int) == 0) = true := by simp [hc]
        go_wp2
        go_roundw
        case rel => exact ⟨k + 1, by omega, by go_num, by rw [HST.out, if_pos (.inl hc)]; simp [hc], by rw [HST.out, if_pos (.inl hc)], hb2.alloc hb2.size _⟩
        case measure => simp [intOf]; omega
      · have e0 : ((k : Int) == 0) = false := by simp [hc]
        by_cases hd : sm < vx * (u - x) + vy * (v - y)
        · go_wp2
          go_roundw
          case rel => exact ⟨k + 1, by omega, by go_num, by rw [HST.out, if_pos (.inr hd)], by rw [HST.out, if_pos (.inr hd)], hb2.alloc hb2.size _⟩
          case measure => simp [intOf]; omega
        · go_wp2
          go_roundw
          case rel => exact ⟨k + 1, by omega, by go_num, by rw [HST.out, if_neg (by omega)], by rw [HST.out, if_neg (by omega)], hb2.alloc hb2.size _⟩
          case measure => simp [intOf]; omega
    · have : k = 24 := by omega
      subst this
      go_wp2
      go_ret
      exact ⟨rfl, kept_trans (by go_grown) hb⟩

theorem stL_step (p q : Int) (k : Nat) (hk : 1 ≤ k) : (stL p q (k + 1)).1 = if scal p q (stL p q k).1 < scal p q k then (k : Int) else (stL p q k).1 := by
  have h := stL_scal p q k hk
  rw [← h.1]
  show (if k = 0 ∨ (stL p q k).2 < scal p q k then ((k : Int), scal p q k) else stL p q k).1 = _
  by_cases hc : (stL p q k).2 < scal p q k
  · rw [if_pos (.inr hc), if_pos hc]
  · rw [if_neg (by omega), if_neg hc]

def dirToL (x y u v : Int) : Int × Int := if okP x y && okP u v then (if x = u ∧ y = v then (0, 6) else ((stL (u - x) (v - y) 24).1, 0)) else (0, 1)

theorem dirToL_cases (x y u v : Int) :
    (okP x y = false ∧ dirToL x y u v = (0, 1)) ∨ (okP x y = true ∧ okP u v = false ∧ dirToL x y u v = (0, 1)) ∨ (okP x y = true ∧ okP u v = true ∧ x = u ∧ y = v ∧ dirToL x y u v = (0, 6)) ∨
    (okP x y = true ∧ okP u v = true ∧ (x == u) = false ∧ dirToL x y u v = ((stL (u - x) (v - y) 24).1, 0)) ∨ (okP x y = true ∧ okP u v = true ∧ (x == u) = true ∧ (y == v) = false ∧ dirToL x y u v = ((stL (u - x) (v - y) 24).1, 0)) := by
  unfold dirToL
  cases okP x y <;> cases okP u v <;> by_cases h1 : x = u <;> by_cases h2 : y = v <;> simp [h1, h2]

theorem specDirectionTo_any (x y u v : Int) (w : World) :
    Calls Tryd.prog 4 #[.agg #[.int .i64 x, .int .i64 y], .agg #[.int .i64 u, .int .i64 v]] w fun e w' => e = .returned (.tuple #[.int .i64 (dirToL x y u v).1, .int .i64 (dirToL x y u v).2]) ∧ Below w.heap.size w w' := by
  rcases dirToL_cases x y u v with ⟨h1, E⟩ | ⟨h1, h2, E⟩ | ⟨h1, h2, rfl, rfl, E⟩ | ⟨h1, h2, h3, E⟩ | ⟨h1, h2, h30, h3, E⟩
  all_goals rw [E]; clear E
  case inl =>
    go_enter Tryd.func4, Tryd.ntmps4
    go_wp2_with fail
    refine (specOk_any x y _).mono ?_
    rintro e w1 ⟨rfl, b1⟩
    refine kept_at b1 (w.heap.size) (by go_size) fun c1_0 z1_0 s1_0 => ?_
    refine kept_at b1 (w.heap.size + 1) (by go_size) fun c1_1 z1_1 s1_1 => ?_
    replace b1 := kept_trans (a := w) (by go_grown) b1
    have l1 := kept_cell b1
    go_wp2
    go_ret2
    exact ⟨rfl, by go_grown⟩
  case inr.inl =>
    go_enter Tryd.func4, Tryd.ntmps4
    go_wp2_with fail
    refine (specOk_any x y _).mono ?_
    rintro e w1 ⟨rfl, b1⟩
    refine kept_at b1 (w.heap.size) (by go_size) fun c1_0 z1_0 s1_0 => ?_
    refine kept_at b1 (w.heap.size + 1) (by go_size) fun c1_1 z1_1 s1_1 => ?_
    replace b1 := kept_trans (a := w) (by go_grown) b1
    have l1 := kept_cell b1
    go_wp2_with fail
    refine (specOk_any u v _).mono ?_
    rintro e w2 ⟨rfl, b2⟩
    refine kept_at b2 (w.heap.size) (by go_size) fun c2_0 z2_0 s2_0 => ?_
    refine kept_at b2 (w.heap.size + 1) (by go_size) fun c2_1 z2_1 s2_1 => ?_
    replace b2 := kept_trans (a := w) (by go_grown) b2
    have l2 := kept_cell b2
    go_wp2
    go_ret2
    exact ⟨rfl, by go_grown⟩
  all_goals
    have hT := Lib.hid (l02To_any _ _ _ _ h1 h2)
    go_enter Tryd.func4, Tryd.ntmps4
    go_wp2_with fail
    refine (specOk_any _ _ _).mono ?_
    rintro e w1 ⟨rfl, b1⟩
    refine kept_at b1 (w.heap.size) (by go_size) fun c1_0 z1_0 s1_0 => ?_
    refine kept_at b1 (w.heap.size + 1) (by go_size) fun c1_1 z1_1 s1_1 => ?_
    replace b1 := kept_trans (a := w) (by go_grown) b1
    have l1 := kept_cell b1
    go_wp2_with fail
    refine (specOk_any _ _ _).mono ?_
    rintro e w2 ⟨rfl, b2⟩
    refine kept_at b2 (w.heap.size) (by go_size) fun c2_0 z2_0 s2_0 => ?_
    refine kept_at b2 (w.heap.size + 1) (by go_size) fun c2_1 z2_1 s2_1 => ?_
    replace b2 := kept_trans (a := w) (by go_grown) b2
    have l2 := kept_cell b2
    go_wp2_with (go_at_call 8; refine (hT.out _).mono ?_; rintro e w3 ⟨rfl, hb3⟩; replace hb3 := kept_trans (a := w) (by go_grown) hb3)
    go_ret2
    exact ⟨rfl, by go_grown⟩

theorem implDirectionTo_any (x y u v : Int) (w : World) (ht : VecTab w) :
    Calls Tryd.prog 6 #[.agg #[.int .i64 x, .int .i64 y], .agg #[.int .i64 u, .int .i64 v]] w fun e w' => e = .returned (.tuple #[.int .i64 (dirToL x y u v).1, .int .i64 (dirToL x y u v).2]) ∧ Below w.heap.size w w' := by
  have HT := Lib.hid ht; clear ht
  rcases dirToL_cases x y u v with ⟨h1, E⟩ | ⟨h1, h2, E⟩ | ⟨h1, h2, rfl, rfl, E⟩ | ⟨h1, h2, h3, E⟩ | ⟨h1, h2, h30, h3, E⟩
  all_goals rw [E]; clear E
  case inl =>
    go_enter Tryd.func6, Tryd.ntmps6
    go_wp2_with fail
    refine (validPlace_any x y _).mono ?_
    rintro e w1 ⟨rfl, b1⟩
    refine kept_at b1 (w.heap.size) (by go_size) fun c1_0 z1_0 s1_0 => ?_
    refine kept_at b1 (w.heap.size + 1) (by go_size) fun c1_1 z1_1 s1_1 => ?_
    replace b1 := kept_trans (a := w) (by go_grown) b1
    have l1 := kept_cell b1
    go_wp2
    go_ret2
    exact ⟨rfl, by go_grown⟩
  case inr.inl =>
    go_enter Tryd.func6, Tryd.ntmps6
    go_wp2_with fail
    refine (validPlace_any x y _).mono ?_
    rintro e w1 ⟨rfl, b1⟩
    refine kept_at b1 (w.heap.size) (by go_size) fun c1_0 z1_0 s1_0 => ?_
    refine kept_at b1 (w.heap.size + 1) (by go_size) fun c1_1 z1_1 s1_1 => ?_
    replace b1 := kept_trans (a := w) (by go_grown) b1
    have l1 := kept_cell b1
    go_wp2_with fail
    refine (validPlace_any u v _).mono ?_
    rintro e w2 ⟨rfl, b2⟩
    refine kept_at b2 (w.heap.size) (by go_size) fun c2_0 z2_0 s2_0 => ?_
    refine kept_at b2 (w.heap.size + 1) (by go_size) fun c2_1 z2_1 s2_1 => ?_
    replace b2 := kept_trans (a := w) (by go_grown) b2
    have l2 := kept_cell b2
    go_wp2
    go_ret2
    exact ⟨rfl, by go_grown⟩
  case inr.inr.inl =>
    go_enter Tryd.func6, Tryd.ntmps6
    go_wp2_with fail
    refine (validPlace_any _ _ _).mono ?_
    rintro e w1 ⟨rfl, b1⟩
    refine kept_at b1 (w.heap.size) (by go_size) fun c1_0 z1_0 s1_0 => ?_
    refine kept_at b1 (w.heap.size + 1) (by go_size) fun c1_1 z1_1 s1_1 => ?_
    replace b1 := kept_trans (a := w) (by go_grown) b1
    have l1 := kept_cell b1
    go_wp2_with fail
    refine (validPlace_any _ _ _).mono ?_
    rintro e w2 ⟨rfl, b2⟩
    refine kept_at b2 (w.heap.size) (by go_size) fun c2_0 z2_0 s2_0 => ?_
    refine kept_at b2 (w.heap.size + 1) (by go_size) fun c2_1 z2_1 s2_1 => ?_
    replace b2 := kept_trans (a := w) (by go_grown) b2
    have l2 := kept_cell b2
    go_wp2
    go_ret2
    exact ⟨rfl, by go_grown⟩
  all_goals
    have g1 := okP_true h1
    have g2 := okP_true h2
    go_enter Tryd.func6, Tryd.ntmps6
    go_wp2_with fail
    refine (validPlace_any _ _ _).mono ?_
    rintro e w1 ⟨rfl, b1⟩
    refine kept_at b1 (w.heap.size) (by go_size) fun c1_0 z1_0 s1_0 => ?_
    refine kept_at b1 (w.heap.size + 1) (by go_size) fun c1_1 z1_1 s1_1 => ?_
    replace b1 := kept_trans (a := w) (by go_grown) b1
    have l1 := kept_cell b1
    go_wp2_with fail
    refine (validPlace_any _ _ _).mono ?_
    rintro e w2 ⟨rfl, b2⟩
    refine kept_at b2 (w.heap.size) (by go_size) fun c2_0 z2_0 s2_0 => ?_
    refine kept_at b2 (w.heap.size + 1) (by go_size) fun c2_1 z2_1 s2_1 => ?_
    replace b2 := kept_trans (a := w) (by go_grown) b2
    have l2 := kept_cell b2
    go_wp2_with fail
    refine (minus_any _ _ _ _ (by omega) (by omega) (by omega) (by omega) _).mono ?_
    rintro e w3 ⟨rfl, b3⟩
    refine kept_at b3 (w.heap.size) (by go_size) fun c3_0 z3_0 s3_0 => ?_
    refine kept_at b3 (w.heap.size + 1) (by go_size) fun c3_1 z3_1 s3_1 => ?_
    replace b3 := kept_trans (a := w) (by go_grown) b3
    have l3 := kept_cell b3
    go_wp2_with fail
    have hsz3 := b3.size
    go_loopw [7, 8] (fun b i wr => ∃ k : Nat, 1 ≤ k ∧ k ≤ 24 ∧ i = .int .i64 k ∧ b = .int .i64 (stL (u - x) (v - y) k).1 ∧ Below w.heap.size w wr ∧ w3.heap.size < wr.heap.size ∧ wr.cell? ⟨w3.heap.size, 0, none⟩ = some (.int .i64 (u - x)) ∧ wr.cell? ⟨w3.heap.size, 1, none⟩ = some (.int .i64 (v - y))) (fun _ i _ => 24 - (intOf i).toNat)
    case atStart => exact ⟨1, by omega, by omega, rfl, by simp [stL], by go_grown, by simp, by simp, by simp⟩
    case round =>
      obtain ⟨k, hk1, hk, rfl, rfl, hbw, hszw, hc0, hc1⟩ := hrel
      have hst := stL_scal (u - x) (v - y) k hk1
      have hbd := scal_bd (u - x) (v - y) k (by omega) (by omega)
      have hbd2 := scal_bd (u - x) (v - y) (stL (u - x) (v - y) k).1 (by omega) (by omega)
      have hstep := stL_step (u - x) (v - y) k hk1
      have HST := Lib.hid hstep; clear hstep
      by_cases hlt : k < 24
      · have h01 : 0 ≤ (stL (u - x) (v - y) k).1 := hst.2.1
        have h02 : (stL (u - x) (v - y) k).1 < k := hst.2.2
        clear hst
        unfold scal at *
        generalize (stL (u - x) (v - y) k).1 = sb at *
        by_cases hd : (vecL sb).1 * (u - x) + (vecL sb).2 * (v - y) < (vecL k).1 * (u - x) + (vecL k).2 * (v - y)
        all_goals
          go_wp2_with fail
          go_region_held3 (fun w' => w'.cell? ⟨w3.heap.size, 0, none⟩ = some (.int .i64 (u - x)) ∧ w'.cell? ⟨w3.heap.size, 1, none⟩ = some (.int .i64 (v - y))) (first | go_keep | (simp [go_sem, *]; done))
            (first | (go_at_call 11; refine (vector_any _ (by omega) (by omega) _ (VecTab_kept HT.out (by go_grown))).mono ?_; rintro e wn ⟨rfl, bn⟩; refine kept_at bn w3.heap.size (by go_size) fun cn zn sn => ?_; replace bn := kept_trans (a := w) (by go_grown) bn) | (go_at_call 12; refine (scalar_in _ _ _ _ (by omega) (by omega) _).mono ?_; rintro e wn ⟨rfl, bn⟩; refine kept_at bn w3.heap.size (by go_size) fun cn zn sn => ?_; replace bn := kept_trans (a := w) (by go_grown) bn))
          obtain ⟨e0, e1⟩ := ‹_ ∧ _›
          go_wp2
          go_roundw
          case rel => exact ⟨k + 1, by omega, by omega, by go_num, by rw [HST.out]; first | rw [if_pos hd] | rw [if_neg (Int.not_lt.mpr hd)], by assumption, by assumption, e0, e1⟩
          case measure => simp [intOf]; omega
      · have : k = 24 := by omega
        subst this
        go_wp2
        go_ret2
        exact ⟨rfl, hbw⟩

-- laid: (vecTab_of_laid hL)
theorem walk_FnExactDirectionTo (x : Int) (wx : (Lit.int .i64 x).wf = true) (y : Int) (wy : (Lit.int .i64 y).wf = true) (u : Int) (wu : (Lit.int .i64 u).wf = true) (v : Int) (wv : (Lit.int .i64 v).wf = true) (w : World) (ht : VecTab w) :
    Calls Tryd.prog 3 #[.agg #[.int .i64 x, .int .i64 y], .agg #[.int .i64 u, .int .i64 v]] w fun e w' => e = .returned (.bool true) ∧ Below w.heap.size w w' := by
  have hS := specDirectionTo_any x y u v
  have hI := implDirectionTo_any x y u v
  generalize dirToL x y u v = L at *
  have HS := Lib.hid hS; clear hS
  have HI := Lib.hid hI; clear hI
  have HT := Lib.hid ht; clear ht
  go_enter Tryd.func3, Tryd.ntmps3
  go_wp2_with fail
  go_region_held3 (fun w' => w'.cell? ⟨w.heap.size, 0, none⟩ = some (.int .i64 x) ∧ w'.cell? ⟨w.heap.size, 1, none⟩ = some (.int .i64 y) ∧ w'.cell? ⟨w.heap.size + 1, 0, none⟩ = some (.int .i64 u) ∧ w'.cell? ⟨w.heap.size + 1, 1, none⟩ = some (.int .i64 v)) (go_keep)
    (first | (go_at_call 5; refine (toPoint_any _ _ _).mono ?_; rintro e w1 ⟨rfl, hb⟩; have hs := hb.size; (try simp at hs); (try (refine kept_at hb (w.heap.size) ?_ (fun hc0 hz0 hs0 => ?_); focus go_size)); (try (refine kept_at hb (w.heap.size + 1) ?_ (fun hc1 hz1 hs1 => ?_); focus go_size)); (try (refine kept_at hb (w.heap.size + 2) ?_ (fun hc2 hz2 hs2 => ?_); focus go_size)); (try (refine kept_at hb (w.heap.size + 3) ?_ (fun hc3 hz3 hs3 => ?_); focus go_size)); (try (refine kept_at hb (w.heap.size + 4) ?_ (fun hc4 hz4 hs4 => ?_); focus go_size)); (try (refine kept_at hb (w.heap.size + 5) ?_ (fun hc5 hz5 hs5 => ?_); focus go_size)); replace hb := kept_trans (a := w) (by go_grown) hb; have hcl := kept_cell hb; have hzl := kept_frozen hb) | (go_at_call 4; refine (HS.out _).mono ?_; rintro e w1 ⟨rfl, hb⟩; have hs := hb.size; (try simp at hs); (try (refine kept_at hb (w.heap.size) ?_ (fun hc0 hz0 hs0 => ?_); focus go_size)); (try (refine kept_at hb (w.heap.size + 1) ?_ (fun hc1 hz1 hs1 => ?_); focus go_size)); (try (refine kept_at hb (w.heap.size + 2) ?_ (fun hc2 hz2 hs2 => ?_); focus go_size)); (try (refine kept_at hb (w.heap.size + 3) ?_ (fun hc3 hz3 hs3 => ?_); focus go_size)); (try (refine kept_at hb (w.heap.size + 4) ?_ (fun hc4 hz4 hs4 => ?_); focus go_size)); (try (refine kept_at hb (w.heap.size + 5) ?_ (fun hc5 hz5 hs5 => ?_); focus go_size)); replace hb := kept_trans (a := w) (by go_grown) hb; have hcl := kept_cell hb; have hzl := kept_frozen hb))
  go_wp2_with fail
  go_region_held3 (fun w' => w'.cell? ⟨w.heap.size, 0, none⟩ = some (.int .i64 x) ∧ w'.cell? ⟨w.heap.size, 1, none⟩ = some (.int .i64 y) ∧ w'.cell? ⟨w.heap.size + 1, 0, none⟩ = some (.int .i64 u) ∧ w'.cell? ⟨w.heap.size + 1, 1, none⟩ = some (.int .i64 v)) (go_keep)
    (first | (go_at_call 5; refine (toPoint_any _ _ _).mono ?_; rintro e w1 ⟨rfl, hb⟩; have hs := hb.size; (try simp at hs); (try (refine kept_at hb (w.heap.size) ?_ (fun hc0 hz0 hs0 => ?_); focus go_size)); (try (refine kept_at hb (w.heap.size + 1) ?_ (fun hc1 hz1 hs1 => ?_); focus go_size)); (try (refine kept_at hb (w.heap.size + 2) ?_ (fun hc2 hz2 hs2 => ?_); focus go_size)); (try (refine kept_at hb (w.heap.size + 3) ?_ (fun hc3 hz3 hs3 => ?_); focus go_size)); (try (refine kept_at hb (w.heap.size + 4) ?_ (fun hc4 hz4 hs4 => ?_); focus go_size)); (try (refine kept_at hb (w.heap.size + 5) ?_ (fun hc5 hz5 hs5 => ?_); focus go_size)); replace hb := kept_trans (a := w) (by go_grown) hb; have hcl := kept_cell hb; have hzl := kept_frozen hb) | (go_at_call 6; refine (HI.out _ (VecTab_kept HT.out (by go_grown))).mono ?_; rintro e w1 ⟨rfl, hb⟩; have hs := hb.size; (try simp at hs); (try (refine kept_at hb (w.heap.size) ?_ (fun hc0 hz0 hs0 => ?_); focus go_size)); (try (refine kept_at hb (w.heap.size + 1) ?_ (fun hc1 hz1 hs1 => ?_); focus go_size)); (try (refine kept_at hb (w.heap.size + 2) ?_ (fun hc2 hz2 hs2 => ?_); focus go_size)); (try (refine kept_at hb (w.heap.size + 3) ?_ (fun hc3 hz3 hs3 => ?_); focus go_size)); (try (refine kept_at hb (w.heap.size + 4) ?_ (fun hc4 hz4 hs4 => ?_); focus go_size)); (try (refine kept_at hb (w.heap.size + 5) ?_ (fun hc5 hz5 hs5 => ?_); focus go_size)); replace hb := kept_trans (a := w) (by go_grown) hb; have hcl := kept_cell hb; have hzl := kept_frozen hb))
  go_wp2
  go_ret
  exact ⟨rfl, by go_grown⟩

end Go.Proofs.YtjddpbpambnlgabDoor
namespace Go.Proofs.YtjddpbpambnlgabDoor.fnExactDirectionTo
open Go.ChangeShapes Go.WideShapes Go.ChangeAt Go.RowKit
set_option linter.unusedVariables false
set_option linter.unusedSimpArgs false
open Go.Joins
/-- A world for the witness: the settled one, the listed variables holding what their initialisers lay. -/
noncomputable def laidWorld (os : Os) : World := { World.holding Tryd.prog os ⟨#[], #[], []⟩ with heap := (World.holding Tryd.prog os ⟨#[], #[], []⟩).heap.modify 0 (fun | .cells _ t frozen => .cells #[.int .i64 1000, .int .i64 0, .int .i64 966, .int .i64 259, .int .i64 866, .int .i64 500, .int .i64 707, .int .i64 707, .int .i64 500, .int .i64 866, .int .i64 259, .int .i64 966] t frozen | o => o) }
theorem laid_met (os : Os) : laidMet Tryd.prog Rows.fnExactDirectionToRow.laid ((laidWorld os).forCall (fun _ _ => 0) ⟨#[], #[.agg #[.int .i64 0, .int .i64 0], .agg #[.int .i64 0, .int .i64 0]], []⟩).memory :=
  laidMet_of_run' 16 (by kernel_rfl) (by kernel_rfl)
theorem reads (os : Os) {H : Type} (enc : TypeId × Value → H) : ∃ places, DataW.whole enc Tryd.prog ((laidWorld os).forCall (fun _ _ => 0) ⟨#[], #[.agg #[.int .i64 0, .int .i64 0], .agg #[.int .i64 0, .int .i64 0]], []⟩).memory Tryd.f3.params.toList Rows.fnExactDirectionToSpec.vars false (#[.agg #[.int .i64 0, .int .i64 0], .agg #[.int .i64 0, .int .i64 0]] : Array Value).toList 16 = some ([.agg [.lit (.int .i64 0), .lit (.int .i64 0)], .agg [.lit (.int .i64 0), .lit (.int .i64 0)]], [Rows.laid_loop_example_g00932_impl_firstVectors], places) :=
  ⟨MemPlace.row ⟨0, 0, none⟩ 12, by kernel_rfl⟩
set_option maxRecDepth 100000 in
theorem lifted (os : Os) (started : os.Started) (H : Type) (enc : TypeId × Value → H) (F : Stop.Interp) :
    ReturnsInHanded {} Tryd.checked os 3 .any ((OpenSpec.ofChange Rows.fnExactDirectionToSpec).preRow enc Tryd.prog Tryd.f3 Rows.fnExactDirectionToRow.domain false Rows.fnExactDirectionToRow.laid) (((OpenSpec.ofChange Rows.fnExactDirectionToSpec).at F).post enc Tryd.prog Tryd.f3 false true false false) := by
  obtain ⟨places, hx⟩ := reads os enc
  refine returnsInHanded_of_row (C := Tryd.checked) (s := OpenSpec.ofChange Rows.fnExactDirectionToSpec) (show ownKnob Tryd.prog.godebug = none by kernel_rfl) started (by kernel_rfl) Tryd.func3
    (witness_row_at (enc := enc) (C := Tryd.checked) false (laidWorld os) #[.agg #[.int .i64 0, .int .i64 0], .agg #[.int .i64 0, .int .i64 0]] rfl (by kernel_rfl) (by kernel_rfl) (by kernel_rfl)
      (OpenSpec.preRow_of_cond 16 hx (by kernel_rfl) (fun k hk => by cases hk) (by kernel_rfl) (laid_met os))) ?_
  intro W base args ds gs before hval0 hW _ _ _ hL _ _
  have hval : ∀ (j : Nat) t v, Tryd.f3.params[j]? = some t → args[j]? = some v → Value.okWide Tryd.prog W .any base t v := hval0
  have hW' := hW
  obtain ⟨p, q, hA0, hV, rfl, hfz, hnd⟩ := hW
  have hA : DataW.TrodAll enc Tryd.prog W 0 (fun _ => true) true Tryd.f3.params.toList args.toList ds p := hA0
  rw [Tryd.params3] at hA hval
  obtain ⟨v0, vs0, d0, ds0, p0, q0, hargs, rfl, rfl, h0, r0⟩ := trodAll_cons hA
  obtain ⟨v1, vs1, d1, ds1, p1, q1, rfl, rfl, rfl, h1, r1⟩ := trodAll_cons r0
  obtain ⟨rfl, rfl, rfl⟩ := trodAll_nil r1
  obtain rfl : args = #[v0, v1] := by cases args; simp_all
  obtain ⟨g1, rfl⟩ : ∃ g1, gs = [g1] := vars_one hV
  obtain ⟨c0_0, c0_1, y0_0, y0_1, m0, rfl, rfl, rfl, h0_0, h0_1⟩ := Joins.open_agg2 Tryd.underlying23 (by kernel_rfl) (show Tryd.prog.cellsOf 23 = 2 by kernel_rfl) (hval 0 23 v0 rfl rfl) h0
  obtain ⟨a0_0, e0_0, rfl, w0_0⟩ := DataW.trod_int Tryd.underlying2 h0_0
  simp at e0_0
  subst e0_0
  obtain ⟨a0_1, e0_1, rfl, w0_1⟩ := DataW.trod_int Tryd.underlying2 h0_1
  simp at e0_1
  subst e0_1
  obtain ⟨c1_0, c1_1, y1_0, y1_1, m1, rfl, rfl, rfl, h1_0, h1_1⟩ := Joins.open_agg2 Tryd.underlying23 (by kernel_rfl) (show Tryd.prog.cellsOf 23 = 2 by kernel_rfl) (hval 1 23 v1 rfl rfl) h1
  obtain ⟨a1_0, e1_0, rfl, w1_0⟩ := DataW.trod_int Tryd.underlying2 h1_0
  simp at e1_0
  subst e1_0
  obtain ⟨a1_1, e1_1, rfl, w1_1⟩ := DataW.trod_int Tryd.underlying2 h1_1
  simp at e1_1
  subst e1_1
  clear hA0 hval0
  refine (walk_FnExactDirectionTo a0_0 w0_0 a0_1 w0_1 a1_0 w1_0 a1_1 w1_1 W (vecTab_of_laid hL)).mono fun e W' ⟨he, hb⟩ => ?_
  subst he
  exact ⟨_, rfl, law_postV (B := 4) (by kernel_rfl) (by kernel_rfl) (by kernel_rfl) rfl Tryd.underlying4 hW' rfl hb⟩
theorem said : Rows.FnExactDirectionToSaid :=
  OpenClaim.holds_of_cond 3 Tryd.f3 rfl rfl rfl rfl rfl rfl rfl ⟨rfl, rfl, rfl, rfl, rfl⟩ rfl rfl rfl rfl rfl (by kernel_rfl) Tryd.func3 (by kernel_rfl)
    (of_decide_eq_true (by kernel_rfl)) (by unfold Func.isWrapper; first | (rw [if_pos (by decide +kernel)]; kernel_rfl) | (rw [if_neg (by decide +kernel)]; exact ⟨rfl, rfl⟩))
    (fun os started H enc _ F => by rw [OpenClaim.pre_eq_preRow]; exact lifted os started H enc F)
theorem plain (f : FuncId) (fn : Func) (hf : Tryd.pinned.checked.prog.funcNamed "loop.example/g00932/laws.FnExactDirectionTo" = some f) (hfn : Tryd.pinned.checked.prog.funcs[f]? = some fn) :
    false = Tryd.pinned.checked.prog.looks [] ∧ ∀ (j : Nat) t, fn.params[j]? = some t → Tryd.pinned.checked.prog.wantsStandIn t = false := by
  obtain rfl : f = 3 := Option.some.inj ((show Tryd.prog.funcNamed "loop.example/g00932/laws.FnExactDirectionTo" = some 3 by kernel_rfl).symm.trans hf) |>.symm
  obtain rfl : fn = Tryd.f3 := (Option.some.inj (Tryd.func3.symm.trans hfn)).symm
  refine ⟨by kernel_rfl, fun j t ht => ?_⟩
  have hall : (Tryd.f3.params.toList.all fun t => !Tryd.pinned.checked.prog.wantsStandIn t) = true := by kernel_rfl
  have := List.all_eq_true.mp hall t (by simpa using Array.mem_of_getElem? ht)
  simpa using this
/-- The statement: the card of the law: for every input it returns true, the arguments and the listed variables read afterwards as before. -/
theorem proved : Rows.FnExactDirectionToCardSaid :=
  Claim7.holds_tied_plain_at .later [] _ _ _ _ said (fun _ h => by cases h) (by kernel_rfl) (fun _ h => by cases h) fnExactDirectionTo_row_tie rfl ⟨rfl, rfl⟩ (by kernel_rfl) rfl plain (by kernel_rfl)
end Go.Proofs.YtjddpbpambnlgabDoor.fnExactDirectionTo
