/- Proved: for every input the law FnSafeCharts returns true, and each argument reads afterwards as it read before; no condition beside those of the given row. -/
import Derived.Test.YtjdppjcmelflbaaRows
import Derived.WalkKit
import Derived.ProofKit
import Derived.OpenShut
import Derived.Lib.Hide
import Derived.Handy
import Derived.BigQuiet
import Derived.Carry
import Derived.ChangeSlices
import Derived.Deep.DeepCutAuto
import Derived.Deep.Draws
import Derived.Deep.QuietTactic
import Derived.Deep.RegionHeld3
import Derived.Laws.ResultCell
import Derived.Lib.SmallJoins
import Derived.Maps.AppendAt
import Derived.OwnWalk
import Derived.Shelf.Abstract
import Derived.Lib.SmallJoins
import Derived.ChangeMaps5
namespace Go.Proofs.Ytjdppjcmelflbaa
open Go.ChangeShapes Go.WideShapes Go.ChangeAt Go.RowKit
set_option linter.unusedVariables false
set_option linter.unusedSimpArgs false

theorem tmod_pos (n k : Int) (h : 0 ≤ n) : n.tmod k = n % k := Int.tmod_eq_emod_of_nonneg h

theorem trodAll_stay {H : Type} {enc : TypeId × Value → H} {P : Program} (hl : laidOutB P = true) {W W' : World} (hb : Below W.heap.size W W') :
    ∀ (ts : List TypeId) (vs : List Value) (ds : List (DataW H)) (ps : List MemPlace), ts.all (fun t => P.readableRec t && decide (t < P.types.size)) = true →
      DataW.TrodAll enc P W 0 (fun _ => true) true ts vs ds ps → (∀ x ∈ ps, x.block < W.heap.size) →
      DataW.TrodAll enc P W' 0 (fun b => decide (b < W.heap.size)) true ts vs ds ps := by
  intro ts
  induction ts with
  | nil => intro vs ds ps _ h _; obtain ⟨rfl, rfl, rfl⟩ := trodAll_nil h; exact rfl
  | cons t ts ih =>
    intro vs ds ps hr h hlt
    simp only [List.all_cons, Bool.and_eq_true, decide_eq_true_eq] at hr
    obtain ⟨v, vs', d, ds', p, q, rfl, rfl, rfl, h0, h1⟩ := trodAll_cons h
    exact ⟨p, q, Below.trod hl hr.1.1 hr.1.2 h0 hb (fun x hx => hlt x (by simp [hx])), ih _ _ _ hr.2 h1 (fun x hx => hlt x (by simp [hx])), rfl⟩

/-- A law's row at its end: it returned true, and of what was there nothing has turned. -/
theorem law_post {H : Type} {enc : TypeId × Value → H} {P : Program} {f : Func} {s : ChangeSpec} {W W' : World} {args : Array Value} {ds gs : List (DataW H)} {before : List MemPlace} {B : TypeId}
    (hl : laidOutB P = true) (hr : f.params.toList.all (fun t => P.readableRec t && decide (t < P.types.size)) = true)
    (hres : f.resultTypes = #[B]) (hB : P.underlying B = some .bool) (hv : s.vars = [])
    (hW : DataW.Whole enc P f.params.toList s.vars false W args.toList ds gs before)
    (hfn : s.fn H (ds ++ gs) = { results := [.lit (.bool true)], args := ds }) (hb : Below W.heap.size W W') :
    s.post enc P f false true false false W args (.bool true) W' := by
  have hlt : ∀ p ∈ before, p.block < W.heap.size := fun p hp => hW.lt p hp
  have hW' := hW
  obtain ⟨p, q, hA, hV, rfl, _, _⟩ := hW'
  rw [hv] at hV
  obtain ⟨rfl, rfl⟩ := trodVars_none hV
  refine ⟨ds, [], p ++ [], [], p, [], hW, ?_, ?_, ?_, hb.frame _, fun h => by cases h⟩
  · rw [hfn, hres]
    exact trodAll_cons_mk (shut_bool hB _) trodAll_mk0
  · rw [hfn]
    exact trodAll_stay hl hb _ _ _ _ hr hA (fun x hx => hlt x (by simp [hx]))
  · rw [hfn, hv]
    exact rfl

theorem kept_cell {W w1 : World} (hb : Below W.heap.size W w1) (b o : Nat) (h : b < W.heap.size) : w1.cell? ⟨b, o, none⟩ = W.cell? ⟨b, o, none⟩ := hb.cell (p := ⟨b, o, none⟩) h

theorem kept_frozen {W w1 : World} (hb : Below W.heap.size W w1) (b o : Nat) (h : b < W.heap.size) : w1.frozen? ⟨b, o, none⟩ = W.frozen? ⟨b, o, none⟩ := hb.frozen (p := ⟨b, o, none⟩) h

theorem kept {W w1 : World} (hb : Below W.heap.size W w1) :
    (∀ b o, b < W.heap.size → w1.cell? ⟨b, o, none⟩ = W.cell? ⟨b, o, none⟩) ∧ (∀ b o, b < W.heap.size → w1.frozen? ⟨b, o, none⟩ = W.frozen? ⟨b, o, none⟩) ∧ W.heap.size ≤ w1.heap.size :=
  ⟨kept_cell hb, kept_frozen hb, hb.size⟩

theorem kept_trans {a b c : World} (h : Below a.heap.size a b) (k : Below b.heap.size b c) : Below a.heap.size a c := h.trans (k.mono h.size)

theorem kept_at {W w1 : World} (hb : Below W.heap.size W w1) (b : Nat) {G : Prop} (h : b < W.heap.size)
    (k : (∀ o, w1.cell? ⟨b, o, none⟩ = W.cell? ⟨b, o, none⟩) → (∀ o, w1.frozen? ⟨b, o, none⟩ = W.frozen? ⟨b, o, none⟩) → b < w1.heap.size → G) : G :=
  k (fun o => kept_cell hb b o h) (fun o => kept_frozen hb b o h) (Nat.lt_of_lt_of_le h hb.size)

theorem kept_drewN {B : Nat} {a w : World} (h : Below B a w) (n : Nat) : Below B a (w.drewN n) := { os := h.os, tape := h.tape, output := h.output, size := h.size, block := h.block }

theorem grown_step {a b c : World} {row : Option Nat} (h : a.grownBy b row) (k : b.grownBy c row) : a.grownBy c row :=
  ⟨k.os.trans h.os, k.tape.trans h.tape, k.output.trans h.output, Nat.le_trans h.size k.size, fun i hi hne => (k.block i (Nat.lt_of_lt_of_le hi h.size) hne).trans (h.block i hi hne)⟩

theorem grown_below {a b c : World} {row : Option Nat} (h : Below a.heap.size a b) (k : b.grownBy c row) (hr : ∀ g, row = some g → a.heap.size ≤ g) : Below a.heap.size a c := h.grown k h.size hr

theorem results_cell1 {fn : Func} {p : Tmp} {ty : TypeId} (h : fn.results = #[.cell p ty]) (tmps : Array Value) (P : Program) (w : World) :
    (results fn tmps).run P w = ((asAddr (tmps.getD p undef)).run P w).andThen fun a w₁ => (loadVar ty a).run P w₁ := by
  simp only [results, h]
  simp [Sem.run_bind, Result.andThen]

theorem grown_set (w : World) (a : Addr) (u : Value) : w.grownBy (w.setCell a u) (some a.block) :=
  ⟨rfl, rfl, rfl, by simp, fun k _ hk => heap_setCell_other w a k u (fun e => hk (by rw [e]))⟩

def inB (n low high : Int) : Bool := decide (low ≤ n) && decide (n ≤ high)

theorem in_any (n low high : Int) (w : World) :
    Calls Try.prog 84 #[.int .i64 n, .int .i64 low, .int .i64 high] w fun e w' => e = .returned (.bool (inB n low high)) ∧ w = w' := by
  unfold inB
  by_cases h1 : low ≤ n <;> by_cases h2 : n ≤ high <;>
  · go_enter Try.func84, Try.ntmps84
    go_wp2
    go_ret
    exact ⟨by simp [*], rfl⟩

theorem inB_true {n a b : Int} (h : inB n a b = true) : a ≤ n ∧ n ≤ b := by simpa [inB] using h

theorem inB_false {n a b : Int} (h : inB n a b = false) : ¬ (a ≤ n ∧ n ≤ b) := by simpa [inB] using h

theorem own_kept {W w1 : World} {base : Nat} {e : TypeId} {size : Nat} {v : Value} {n : Nat} {xs : List Value} (h : W.ownsRow base e size v n xs) (hb : Below W.heap.size W w1) : w1.ownsRow base e size v n xs := by
  refine ⟨h.1, ?_⟩
  rcases h.2 with h2 | ⟨g, cap, cur, hv, hg, hh, r⟩
  · exact Or.inl h2
  · refine Or.inr ⟨g, cap, cur, hv, hg, ?_, r⟩
    rw [hb.block g (h.lt g (by rw [hv]; rfl)).2]
    exact hh

/-- The slice value reads as a list of numbers. -/
def RdI (w : World) (v : Value) (zs : List Int) : Prop :=
  zs.length ≤ 9223372036854775807 ∧ ∃ A c, v = .slice A zs.length c ∧ ∀ k, (hk : k < zs.length) → ∃ b off, A = some ⟨b, off, none⟩ ∧ b < w.heap.size ∧ w.cell? ⟨b, off + k, none⟩ = some (.int .i64 zs[k])

theorem RdI_kept {W w1 : World} {v : Value} {zs : List Int} (h : RdI W v zs) (hb : Below W.heap.size W w1) : RdI w1 v zs := by
  obtain ⟨hl, A, c, rfl, hr⟩ := h
  refine ⟨hl, A, c, rfl, fun k hk => ?_⟩
  obtain ⟨b, off, e, hlt, hc⟩ := hr k hk
  exact ⟨b, off, e, Nat.lt_of_lt_of_le hlt hb.size, by rw [kept_cell hb b _ hlt]; exact hc⟩

/-- The slice reads as bytes, none of them in block x. -/
def RdB (w : World) (A : Option Addr) (n x : Nat) : Prop := ∀ k, k < n → ∃ b off z, A = some ⟨b, off, none⟩ ∧ b < w.heap.size ∧ b ≠ x ∧ w.cell? ⟨b, off + k, none⟩ = some (.int .u8 z) ∧ 0 ≤ z ∧ z ≤ 255

/-- A source of choices in block b: its bytes, how far it has come, its seed. -/
def SrcAt (w : World) (b : Nat) (v : Value) (N : Nat) : Prop := ∃ seed : Int, 0 ≤ seed ∧ seed ≤ 18446744073709551615 ∧ w.heap[b]? = some (.cells #[v, .int .i64 N, .int .u64 seed] 114 (0, 0))

/-- What a step of the source comes to. -/
def NextR (b : Nat) (v : Value) (N : Nat) (lo hi : Int) (w : World) (e : Ending) (w' : World) : Prop := ∃ x : Int, lo ≤ x ∧ x ≤ hi ∧ e = .returned (.int .i64 x) ∧ SrcAt w' b v N ∧ w.grownBy w' (some b)

theorem wrap_u64_bd (x : Int) : 0 ≤ IntKind.u64.wrap x ∧ IntKind.u64.wrap x ≤ 18446744073709551615 := by
  rw [IntKind.wrap_u64]
  omega

theorem and255_bd (a : Int) (h0 : 0 ≤ a) (h1 : a ≤ 18446744073709551615) : 0 ≤ bits .and .u64 a 255 ∧ bits .and .u64 a 255 ≤ 255 := by
  rw [u64_and a 255 h0 (by omega) (by omega) (by omega)]
  have : a.toNat &&& (255 : Int).toNat ≤ (255 : Int).toNat := Nat.and_le_right
  have e : (255 : Int).toNat = 255 := rfl
  omega

theorem src_after {w : World} {b : Nat} {v i s : Value} (hb : w.heap[b]? = some (.cells #[v, i, s] 114 (0, 0))) (k1 k2 : Nat) (i' s' : Value) :
    ((((w.drewN k1).setCell ⟨b, 1, none⟩ i').setCell ⟨b, 2, none⟩ s').drewN k2).heap[b]? = some (.cells #[v, i', s'] 114 (0, 0)) ∧
    w.grownBy ((((w.drewN k1).setCell ⟨b, 1, none⟩ i').setCell ⟨b, 2, none⟩ s').drewN k2) (some b) := by
  have h0 : (w.drewN k1).heap[b]? = some (.cells #[v, i, s] 114 (0, 0)) := hb
  have h1 := heap_setCell_same (w.drewN k1) b 1 _ _ i' h0
  have h2 := heap_setCell_same _ b 2 _ _ s' h1
  refine ⟨h2, ⟨rfl, rfl, rfl, ?_, fun k hk hne => ?_⟩⟩
  · show w.heap.size ≤ ((((w.drewN k1).setCell ⟨b, 1, none⟩ i').setCell ⟨b, 2, none⟩ s')).heap.size
    simp [World.setCell]
  · have hne' : k ≠ b := fun e => hne (by rw [e])
    show ((((w.drewN k1).setCell ⟨b, 1, none⟩ i').setCell ⟨b, 2, none⟩ s')).heap[k]? = _
    rw [heap_setCell_other _ _ _ _ hne', heap_setCell_other _ _ _ _ hne']
    rfl

theorem next_any (b : Nat) (A : Option Addr) (n c N : Nat) (w : World) (hs : SrcAt w b (.slice A n c) N) (hr : RdB w A n b) (hN : N < 1000000000) (hn : n ≤ 1000000) :
    Calls Try.prog 118 #[.pointer (some ⟨b, 0, none⟩)] w (NextR b (.slice A n c) (N + 1) 0 255 w) := by
  obtain ⟨seed, s0, s1, hb⟩ := hs
  have c0 : w.cell? ⟨b, 0, none⟩ = some (.slice A n c) := by rw [cell_of_row w b 0 _ _ _ hb]; rfl
  have c1 : w.cell? ⟨b, 1, none⟩ = some (.int .i64 N) := by rw [cell_of_row w b 1 _ _ _ hb]; rfl
  have c2 : w.cell? ⟨b, 2, none⟩ = some (.int .u64 seed) := by rw [cell_of_row w b 2 _ _ _ hb]; rfl
  have f1 := frozen_of_row w b 1 _ _ hb
  have f2 := frozen_of_row w b 2 _ _ hb
  have HB := Lib.hid hb; clear hb
  by_cases hlt : N < n
  · obtain ⟨g, off, z, rfl, hg, hgb, hz, z0, z1⟩ := hr N hlt
    clear hr
    go_enter Try.func118, Try.ntmps118
    go_wp2_with fail
    go_quiet (fail)
    go_wp2_with fail
    go_quiet (fail)
    go_wp2_with fail
    go_quiet (fail)
    go_wp2
    go_ret
    have h := src_after HB.out
    exact ⟨z, z0, z1, rfl, ⟨_, (wrap_u64_bd _).1, (wrap_u64_bd _).2, (h _ _ _ _).1⟩, (h _ _ _ _).2⟩
  · clear hr
    go_enter Try.func118, Try.ntmps118
    go_wp2_with fail
    go_quiet (fail)
    go_wp2_with fail
    go_quiet (fail)
    have hw := wrap_u64_bd (IntKind.u64.wrap (IntKind.u64.wrap (seed * 6364136223846793005)) + 1442695040888963407)
    go_wp2
    go_ret
    have h := src_after HB.out
    generalize hS : IntKind.u64.wrap (IntKind.u64.wrap (IntKind.u64.wrap (seed * 6364136223846793005)) + 1442695040888963407) = S at *
    have ha := and255_bd (S / 1099511627776) (by omega) (by omega)
    refine ⟨bits .and .u64 (S / 1099511627776) 255, ha.1, ha.2, ?_, ⟨S, hw.1, hw.2, (h _ _ _ _).1⟩, (h _ _ _ _).2⟩
    show Ending.returned (Value.int IntKind.i64 (wrap64 _)) = _
    rw [IntWalk.wrap64_in _ (by omega)]

/-- The slice reads as bytes. -/
def RdC (w : World) (A : Option Addr) (n : Nat) : Prop := ∀ k, k < n → ∃ b off z, A = some ⟨b, off, none⟩ ∧ b < w.heap.size ∧ w.cell? ⟨b, off + k, none⟩ = some (.int .u8 z) ∧ 0 ≤ z ∧ z ≤ 255

theorem from_any (v : Value) (w : World) (A : Option Addr) (n c : Nat) (hv : v = .slice A n c) :
    Calls Try.prog 32 #[v] w fun e w' => e = .returned (.pointer (some ⟨w.heap.size, 0, none⟩)) ∧ w.alloc (.cells #[v, .int .i64 0, .int .u64 0] 114) = w' := by
  subst hv
  go_enter Try.func32, Try.ntmps32
  go_wp2
  go_ret
  exact ⟨rfl, rfl⟩

theorem blk_grown {w w4 : World} {b B : Nat} {o : Obj} (h : w.heap[b]? = some o) (hg : w.grownBy w4 (some B)) (hne : b ≠ B) : w4.heap[b]? = some o := by
  have hlt : b < w.heap.size := by
    rcases Nat.lt_or_ge b w.heap.size with h' | h'
    · exact h'
    · rw [Array.getElem?_eq_none h'] at h; cases h
  rw [hg.block b hlt (fun e => hne (by injection e))]
  exact h

theorem undrew {w w1 : World} {row : Option Nat} (h : w.drew.grownBy w1 row) : w.grownBy w1 row := { os := h.os, tape := h.tape, output := h.output, size := h.size, block := h.block }

/-- A slice of bytes that came in, opened. -/
theorem open_bytes {H : Type} {enc : TypeId × Value → H} {P : Program} {W : World} {r : Reach} {b0 base : Nat} {sp : Nat → Bool} {held : Bool} {t e : TypeId} {v : Value} {d : DataW H} {p : List MemPlace}
    (ht : P.underlying t = some (.slice e)) (he : P.underlying e = some (.int .u8)) (hc : P.cellsOf e = 1) (hv : Value.okWide P W r b0 t v) (hd : DataW.Trod enc P W base sp held t v d p) :
    ∃ A n c, v = .slice A n c ∧ RdC W A n ∧ n ≤ maxLen := by
  obtain ⟨A, n, c, rfl⟩ := okWide_slice ht hv
  obtain ⟨fuel, hf⟩ := hd
  rcases open_ints ht he hc hf with ⟨hcs, _⟩ | ⟨a, l, cap, zs, hcs, _, hl, hm, hz, _, hcell, hwf⟩
  · simp [Value.cells] at hcs
    obtain ⟨rfl, rfl, rfl⟩ := hcs
    exact ⟨_, _, _, rfl, fun k hk => by omega, by omega⟩
  · simp [Value.cells] at hcs
    obtain ⟨rfl, rfl, rfl⟩ := hcs
    refine ⟨_, _, _, rfl, fun k hk => ?_, by omega⟩
    have hlen : n ≤ zs.length := by rw [hz]; split <;> omega
    obtain ⟨b, off, rfl, hc2⟩ := ints_at hcell (by omega)
    have hk2 := hc2 k (by omega)
    have hz2 := bounds_u8 (hwf (zs.getD k 0) (by simp [List.getD, show k < zs.length by omega]))
    exact ⟨b, off, zs.getD k 0, rfl, block_lt_of_cell hk2, hk2, hz2.1, hz2.2⟩

theorem RdC_kept {w w1 : World} {A : Option Addr} {n : Nat} (h : RdC w A n) (hb : Below w.heap.size w w1) : RdC w1 A n := by
  intro k hk
  obtain ⟨b, off, z, e, hlt, hc, z0, z1⟩ := h k hk
  exact ⟨b, off, z, e, Nat.lt_of_lt_of_le hlt hb.size, by rw [kept_cell hb b _ hlt]; exact hc, z0, z1⟩

theorem flat_at {α : Type} {enc : α → List Value} {sz : Nat} (h : ∀ z, (enc z).length = sz) (zs : List α) (k j : Nat) (hk : k < zs.length) (hj : j < sz) : (zs.flatMap enc)[k * sz + j]? = (enc zs[k])[j]? := by
  induction zs generalizing k with
  | nil => simp at hk
  | cons z zs ih =>
    cases k with
    | zero => rw [List.flatMap_cons, List.getElem?_append_left (by rw [h]; omega)]; simp
    | succ k =>
      have e : (k + 1) * sz + j - (enc z).length = k * sz + j := by rw [h, Nat.add_mul]; omega
      rw [List.flatMap_cons, List.getElem?_append_right (by rw [h, Nat.add_mul]; omega), e, ih k (by simpa using hk)]
      simp

/-- The slice value reads as n elements of sz cells each, cell for cell. -/
def RdF (w : World) (v : Value) (n sz : Nat) (xs : List Value) : Prop :=
  n ≤ 9223372036854775807 ∧ xs.length = n * sz ∧ ∃ A c, v = .slice A n c ∧ ∀ i, i < n * sz → ∃ b off, A = some ⟨b, off, none⟩ ∧ b < w.heap.size ∧ w.cell? ⟨b, off + i, none⟩ = xs[i]?

theorem RdF_kept {W w1 : World} {v : Value} {n sz : Nat} {xs : List Value} (h : RdF W v n sz xs) (hb : Below W.heap.size W w1) : RdF w1 v n sz xs := by
  obtain ⟨hl, hx, A, c, rfl, hr⟩ := h
  refine ⟨hl, hx, A, c, rfl, fun k hk => ?_⟩
  obtain ⟨b, off, e, hlt, hc⟩ := hr k hk
  exact ⟨b, off, e, Nat.lt_of_lt_of_le hlt hb.size, by rw [kept_cell hb b _ hlt]; exact hc⟩

/-- A row of elements of the call's own (type e, sz cells each), in a block from lo on and below hi. -/
def RowF (e sz : Nat) (w : World) (lo hi : Nat) (v : Value) (n : Nat) (xs : List Value) : Prop :=
  w.ownsRow lo e sz v n xs ∧ ∀ g, v.ownBlock = some g → lo ≤ g ∧ g < hi

theorem RowF_nil (e sz : Nat) (w : World) (lo hi : Nat) : RowF e sz w lo hi (.slice none 0 0) 0 [] := ⟨World.ownsRow_nil _ _ _ _, fun g h => by simp [Value.ownBlock] at h⟩

theorem RowF_form {e sz : Nat} {w : World} {lo hi : Nat} {v : Value} {n : Nat} {xs : List Value} (h : RowF e sz w lo hi v n xs) :
    (n = 0 ∧ xs = [] ∧ v = .slice none 0 0) ∨ ∃ g cap, v = .slice (some ⟨g, 0, none⟩) n cap ∧ lo ≤ g ∧ g < hi ∧ g < w.heap.size ∧ n ≤ cap ∧ cap ≤ maxLen := by
  rcases h.1.2 with ⟨h1, h2⟩ | ⟨g, cap, cur, rfl, hg, hh, h3, h4, _⟩
  · exact Or.inl ⟨h2, List.eq_nil_of_length_eq_zero (by rw [h.1.1, h2, Nat.zero_mul]), h1⟩
  · exact Or.inr ⟨g, cap, rfl, hg, (h.2 g rfl).2, (h.1.lt g rfl).2, h3, h4⟩

theorem RowF_rd {e sz : Nat} {w : World} {lo hi : Nat} {v : Value} {n : Nat} {xs : List Value} (h : RowF e sz w lo hi v n xs) : RdF w v n sz xs := by
  rcases RowF_form h with ⟨rfl, rfl, rfl⟩ | ⟨g, cap, rfl, _, _, hlt, h3, h4⟩
  · exact ⟨by simp, by simp, none, 0, rfl, fun k hk => by simp at hk⟩
  · unfold maxLen at h4
    refine ⟨by omega, h.1.1, some ⟨g, 0, none⟩, cap, rfl, fun k hk => ⟨g, 0, rfl, hlt, ?_⟩⟩
    rw [Nat.zero_add, h.1.cellAt k hk]

theorem RowF_kept {e sz : Nat} {W w1 : World} {lo hi : Nat} {v : Value} {n : Nat} {xs : List Value} (h : RowF e sz W lo hi v n xs) (hb : Below W.heap.size W w1) : RowF e sz w1 lo hi v n xs := ⟨own_kept h.1 hb, h.2⟩

theorem RowF_far {e sz : Nat} {W w1 : World} {lo hi : Nat} {v : Value} {n : Nat} {xs : List Value} {row : Option Nat} (h : RowF e sz W lo hi v n xs) (hg : W.grownBy w1 row) (hr : ∀ g, row = some g → g < lo ∨ hi ≤ g) : RowF e sz w1 lo hi v n xs := by
  refine ⟨h.1.kept hg ?_, h.2⟩
  rcases hv : v.ownBlock with _ | g
  · exact Or.inl rfl
  · refine Or.inr (fun e => ?_)
    have h1 := h.2 g hv
    have h2 := hr g e.symm
    omega

theorem RowF_lo {e sz : Nat} {w : World} {lo lo' hi hi' : Nat} {v : Value} {n : Nat} {xs : List Value} (h : RowF e sz w lo hi v n xs) (hl : lo' ≤ lo) (hh : hi ≤ hi') : RowF e sz w lo' hi' v n xs :=
  ⟨Joins.ownsRow_le h.1 hl, fun g hg => ⟨by have := (h.2 g hg).1; omega, by have := (h.2 g hg).2; omega⟩⟩

theorem RowF_set {e sz : Nat} {w : World} {lo hi b o n : Nat} {v u : Value} {xs : List Value} (h : RowF e sz w lo hi v n xs) (hb : b < lo) : RowF e sz (w.setCell ⟨b, o, none⟩ u) lo hi v n xs :=
  RowF_far h (grown_set _ _ _) (fun g hg => by simp at hg; omega)

/-- A pair of numbers, cell by cell. -/
def encP (z : Int × Int) : List Value := [.int .i64 z.1, .int .i64 z.2]

def flatP (zs : List (Int × Int)) : List Value := zs.flatMap encP

theorem flatP_at (zs : List (Int × Int)) (k : Nat) (h : k < zs.length) : (flatP zs)[k * 2]? = some (.int .i64 zs[k].1) ∧ (flatP zs)[k * 2 + 1]? = some (.int .i64 zs[k].2) :=
  ⟨flat_at (enc := encP) (sz := 2) (fun _ => rfl) zs k 0 h (by omega), flat_at (enc := encP) (sz := 2) (fun _ => rfl) zs k 1 h (by omega)⟩

/-- The slice value reads as a list of pairs of numbers. -/
def RdP (w : World) (v : Value) (zs : List (Int × Int)) : Prop := RdF w v zs.length 2 (flatP zs)

theorem RdP_kept {W w1 : World} {v : Value} {zs : List (Int × Int)} (h : RdP W v zs) (hb : Below W.heap.size W w1) : RdP w1 v zs := RdF_kept h hb

theorem RdP_slice {w : World} {v : Value} {zs : List (Int × Int)} (h : RdP w v zs) : ∃ A c, v = .slice A zs.length c ∧ zs.length ≤ 9223372036854775807 ∧
    ∀ k, (hk : k < zs.length) → ∃ b off, A = some ⟨b, off, none⟩ ∧ b < w.heap.size ∧ w.cell? ⟨b, off + k * 2, none⟩ = some (.int .i64 zs[k].1) ∧ w.cell? ⟨b, off + k * 2 + 1, none⟩ = some (.int .i64 zs[k].2) := by
  obtain ⟨hl, hx, A, c, rfl, hr⟩ := h
  refine ⟨A, c, rfl, hl, fun k hk => ?_⟩
  obtain ⟨b, off, rfl, hlt, h0⟩ := hr (k * 2) (by omega)
  obtain ⟨b', off', e, _, h1⟩ := hr (k * 2 + 1) (by omega)
  simp only [Option.some.injEq, Addr.mk.injEq, and_true] at e
  obtain ⟨rfl, rfl⟩ := e
  rw [(flatP_at zs k hk).1] at h0
  rw [(flatP_at zs k hk).2, ← Nat.add_assoc] at h1
  exact ⟨b, off, rfl, hlt, h0, h1⟩

theorem info_step : (Try.prog.info? 35).map (fun i => (i.zero, i.size, i.bytes)) = some (some (.agg #[.int .i64 0, .int .i64 0]), 2, 16) := by kernel_rfl

theorem flatP_set (l : List (Int × Int)) (j : Nat) (x y : Int) : ((flatP l).set (j * 2) (.int .i64 x)).set (j * 2 + 1) (.int .i64 y) = flatP (l.set j (x, y)) := by
  induction l generalizing j with
  | nil => simp [flatP]
  | cons z l ih =>
    cases j with
    | zero => simp [flatP, encP]
    | succ j =>
      have := ih j
      simp only [flatP, encP, List.flatMap_cons, List.cons_append, List.nil_append, Nat.succ_mul, List.set_cons_succ] at this ⊢
      rw [this]

/-- The step i of a list is in order. -/
def OkAt (zs : List (Int × Int)) (i : Nat) (h : i < zs.length) : Prop :=
  (1 ≤ zs[i].1 ∧ zs[i].1 ≤ 1000 ∧ 0 ≤ zs[i].2 ∧ zs[i].2 ≤ 50000) ∧ (0 < i → zs[i - 1].1 < zs[i].1 ∧ zs[i].2 ≤ zs[i - 1].2)

def OkAll (zs : List (Int × Int)) (n : Nat) : Prop := ∀ i, (h : i < zs.length) → i < n → OkAt zs i h

theorem OkAll_step {zs : List (Int × Int)} {n : Nat} (h : OkAll zs n) (hn : n < zs.length) (h1 : OkAt zs n hn) : OkAll zs (n + 1) := by
  intro i hi hlt
  rcases Nat.lt_or_ge i n with h2 | h2
  · exact h i hi h2
  · obtain rfl : i = n := by omega
    exact h1

/-- The list is a load chart. -/
def ChartP (zs : List (Int × Int)) : Prop := OkAll zs zs.length ∧ 1 ≤ zs.length ∧ zs.length ≤ 20

open Classical in
/-- .. as a bool. -/
noncomputable def chartB (zs : List (Int × Int)) : Bool := decide (ChartP zs)

theorem chartB_true {zs : List (Int × Int)} (h : ChartP zs) : chartB zs = true := by simp [chartB, h]

theorem chartB_false {zs : List (Int × Int)} (h : ¬ ChartP zs) : chartB zs = false := by simp [chartB, h]

theorem chartB_iff {zs : List (Int × Int)} : chartB zs = true ↔ ChartP zs := by simp [chartB]

theorem drew_more {w a : World} (h : ∃ q, a = w.drewN q) (n : Nat) : ∃ q, a.drewN n = w.drewN q := by
  obtain ⟨q, rfl⟩ := h
  exact ⟨q + n, World.drewN_drewN _ _ _⟩

theorem specChart_quiet (v : Value) (zs : List (Int × Int)) (w : World) (h : RdP w v zs) :
    Calls Try.prog 34 #[v] w fun e w' => e = .returned (.bool (chartB zs)) ∧ ∃ q, w' = w.drewN q := by
  obtain ⟨A, c, rfl, hl, r1⟩ := RdP_slice h
  clear h
  have R := Lib.hid r1; clear r1
  go_enter Try.func34, Try.ntmps34
  go_wp2_with fail
  go_loopw [3] (fun i wr => ∃ k : Nat, k ≤ zs.length ∧ i = .int .i64 k ∧ OkAll zs k ∧ ∃ q, wr = w.drewN q) (fun i _ => zs.length - (intOf i).toNat)
  case atStart => exact ⟨0, by omega, rfl, fun i _ h => by omega, 0, World.drewN_zero w⟩
  case round =>
    obtain ⟨k, hk, rfl, hall, hq⟩ := hrel
    have hb : Below w.heap.size w wr := by obtain ⟨q, rfl⟩ := hq; exact kept_drewN (Below.refl _ _) _
    have HQ := Lib.hid hq; clear hq
    by_cases hlt : k < zs.length
    · obtain ⟨b, off, rfl, hbl, hc0, hc1⟩ := R.out k hlt
      rw [← kept_cell hb b _ hbl] at hc0 hc1
      have hbad : ¬ OkAt zs k hlt → chartB zs = false := fun hn => chartB_false fun hc => hn (hc.1 k hlt hlt)
      have hgood : OkAt zs k hlt → OkAll zs (k + 1) := OkAll_step hall hlt
      unfold OkAt at hbad hgood
      generalize hx : zs[k].1 = x at *
      generalize hy : zs[k].2 = y at *
      have Hall := Lib.hid hall; clear hall
      have Hbad := Lib.hid hbad; clear hbad
      have Hgood := Lib.hid hgood; clear hgood
      cases i1 : inB x 1 1000
      · go_wp2_with (go_at_call 84; refine (in_any _ _ _ _).mono ?_; rintro e w1 ⟨rfl, rfl⟩)
        go_ret
        exact ⟨by rw [Hbad.out (fun h => inB_false i1 ⟨h.1.1, h.1.2.1⟩)]; rfl, HQ.out⟩
      · have j1 := inB_true i1
        cases i2 : inB y 0 50000
        · go_wp2_with (go_at_call 84; refine (in_any _ _ _ _).mono ?_; rintro e w1 ⟨rfl, rfl⟩)
          go_ret
          exact ⟨by rw [Hbad.out (fun h => inB_false i2 ⟨h.1.2.2.1, h.1.2.2.2⟩)]; rfl, HQ.out⟩
        · have j2 := inB_true i2
          by_cases h0 : k = 0
          · subst h0
            simp only [Nat.zero_mul, Nat.add_zero] at hc0 hc1
            go_wp2_with (go_at_call 84; refine (in_any _ _ _ _).mono ?_; rintro e w1 ⟨rfl, rfl⟩)
            go_quiet (fail)
            go_wp2
            go_roundw
            case rel => exact ⟨1, by omega, by go_num, Hgood.out ⟨by omega, fun h => by omega⟩, drew_more HQ.out _⟩
            case measure => simp [intOf]; omega
          · obtain ⟨m, hm⟩ : ∃ m, k - 1 = m := ⟨k - 1, rfl⟩
            have hkm : (k : Int) - 1 = (m : Int) := by omega
            have hkd : decide (0 < k) = true := by simp; omega
            obtain ⟨b', off', e', _, hd0, hd1⟩ := R.out m (by omega)
            simp only [Option.some.injEq, Addr.mk.injEq, and_true] at e'
            obtain ⟨rfl, rfl⟩ := e'
            rw [← kept_cell hb b _ hbl] at hd0 hd1
            simp only [hm] at Hbad Hgood
            generalize zs[m].1 = x' at *
            generalize zs[m].2 = y' at *
            by_cases h1 : x ≤ x'
            · go_wp2_with (go_at_call 84; refine (in_any _ _ _ _).mono ?_; rintro e w1 ⟨rfl, rfl⟩)
              go_quiet (fail)
              go_wp2
              go_ret
              exact ⟨by rw [Hbad.out (fun h => by omega)]; rfl, drew_more HQ.out _⟩
            · have hd1 : decide (x ≤ x') = false := by simp; omega
              by_cases h2 : y' < y
              · go_wp2_with (go_at_call 84; refine (in_any _ _ _ _).mono ?_; rintro e w1 ⟨rfl, rfl⟩)
                go_quiet (fail)
                go_wp2
                go_ret
                exact ⟨by rw [Hbad.out (fun h => by omega)]; rfl, drew_more HQ.out _⟩
              · go_wp2_with (go_at_call 84; refine (in_any _ _ _ _).mono ?_; rintro e w1 ⟨rfl, rfl⟩)
                go_quiet (fail)
                go_wp2
                go_roundw
                case rel => exact ⟨k + 1, by omega, by go_num, Hgood.out ⟨by omega, fun h => by omega⟩, drew_more HQ.out _⟩
                case measure => simp [intOf]; omega
    · have : k = zs.length := by omega
      subst this
      have E : inB (zs.length : Int) 1 20 = chartB zs := by
        by_cases hc : 1 ≤ zs.length ∧ zs.length ≤ 20
        · rw [chartB_true ⟨hall, hc⟩]
          simp [inB]
          omega
        · rw [chartB_false fun h => hc h.2]
          simp only [inB]
          simp
          omega
      go_wp2_with (go_at_call 84; refine (in_any _ _ _ _).mono ?_; rintro e w1 ⟨rfl, rfl⟩)
      go_ret
      exact ⟨rfl, HQ.out⟩

theorem specChart_any (v : Value) (zs : List (Int × Int)) (w : World) (h : RdP w v zs) :
    Calls Try.prog 34 #[v] w fun e w' => e = .returned (.bool (chartB zs)) ∧ Below w.heap.size w w' :=
  (specChart_quiet v zs w h).mono fun e w' ⟨he, q, hq⟩ => ⟨he, hq ▸ kept_drewN (Below.refl _ _) _⟩

/-- The step before the step k; ahead of the first one, what no step can fail. -/
def prevP (zs : List (Int × Int)) : Nat → Int × Int
  | 0 => (0, 50000)
  | m + 1 => zs.getD m (0, 50000)

theorem prevP_succ (zs : List (Int × Int)) (k : Nat) (h : k < zs.length) : prevP zs (k + 1) = zs[k] := by simp [prevP, h]

theorem OkAt_prev {zs : List (Int × Int)} {k : Nat} (hall : OkAll zs k) (h : k < zs.length) :
    OkAt zs k h ↔ (prevP zs k).1 < zs[k].1 ∧ zs[k].1 ≤ 1000 ∧ 0 ≤ zs[k].2 ∧ zs[k].2 ≤ (prevP zs k).2 := by
  cases k with
  | zero => simp only [OkAt, prevP]; omega
  | succ m =>
    have h1 := hall m (by omega) (by omega)
    rw [prevP_succ zs m (by omega)]
    simp only [OkAt, Nat.add_sub_cancel] at h1 ⊢
    omega

theorem implChart_any (v : Value) (zs : List (Int × Int)) (w : World) (h : RdP w v zs) :
    Calls Try.prog 25 #[v] w fun e w' => e = .returned (.bool (chartB zs)) ∧ Below w.heap.size w w' := by
  obtain ⟨A, c, rfl, hl, r1⟩ := RdP_slice h
  clear h
  have R := Lib.hid r1; clear r1
  by_cases g1 : zs.length < 1
  · have hc : chartB zs = false := chartB_false fun h => by have := h.2; omega
    rw [hc]
    go_enter Try.func25, Try.ntmps25
    go_wp2
    go_ret
    exact ⟨rfl, Below.refl _ _⟩
  by_cases g2 : 20 < zs.length
  · have hc : chartB zs = false := chartB_false fun h => by have := h.2; omega
    rw [hc]
    go_enter Try.func25, Try.ntmps25
    go_wp2
    go_ret
    exact ⟨rfl, Below.refl _ _⟩
  go_enter Try.func25, Try.ntmps25
  go_wp2_with fail
  go_loopw [17] (fun i wr => ∃ k : Nat, k ≤ zs.length ∧ i = .int .i64 k ∧ OkAll zs k ∧ Below w.heap.size w wr ∧ w.heap.size < wr.heap.size ∧ wr.cell? ⟨w.heap.size, 0, none⟩ = some (.int .i64 (prevP zs k).1) ∧ wr.cell? ⟨w.heap.size, 1, none⟩ = some (.int .i64 (prevP zs k).2) ∧ wr.frozen? ⟨w.heap.size, 0, none⟩ = false ∧ wr.frozen? ⟨w.heap.size, 1, none⟩ = false) (fun i _ => zs.length - (intOf i).toNat)
  case atStart => exact ⟨0, by omega, rfl, fun i _ h => by omega, by go_grown, by simp, by simp [prevP], by simp [prevP], by simp, by simp⟩
  case round =>
    obtain ⟨k, hk, rfl, hall, hb, hlw, hp0, hp1, hz0, hz1⟩ := hrel
    by_cases hlt : k < zs.length
    · obtain ⟨b, off, rfl, hbl, hc0, hc1⟩ := R.out k hlt
      rw [← kept_cell hb b _ hbl] at hc0 hc1
      have hiff := OkAt_prev hall hlt
      have hbad : ¬ OkAt zs k hlt → chartB zs = false := fun hn => chartB_false fun hc => hn (hc.1 k hlt hlt)
      have hgood : OkAt zs k hlt → OkAll zs (k + 1) := OkAll_step hall hlt
      have hnext := prevP_succ zs k hlt
      rw [hiff] at hbad hgood
      clear hiff
      rw [show zs[k] = (zs[k].1, zs[k].2) from rfl] at hnext
      generalize zs[k].1 = x at *
      generalize zs[k].2 = y at *
      generalize (prevP zs k).1 = x' at *
      generalize (prevP zs k).2 = y' at *
      have Hall := Lib.hid hall; clear hall
      have Hbad := Lib.hid hbad; clear hbad
      have Hgood := Lib.hid hgood; clear hgood
      have Hnext := Lib.hid hnext; clear hnext
      by_cases h1 : x ≤ x'
      · go_wp2
        go_ret
        exact ⟨by rw [Hbad.out (fun h => by omega)]; rfl, by go_grown⟩
      · have hd1 : decide (x ≤ x') = false := by simp; omega
        by_cases h2 : 1000 < x
        · go_wp2
          go_ret
          exact ⟨by rw [Hbad.out (fun h => by omega)]; rfl, by go_grown⟩
        · by_cases h3 : y < 0
          · go_wp2
            go_ret
            exact ⟨by rw [Hbad.out (fun h => by omega)]; rfl, by go_grown⟩
          · by_cases h4 : y' < y
            · go_wp2
              go_ret
              exact ⟨by rw [Hbad.out (fun h => by omega)]; rfl, by go_grown⟩
            · go_wp2
              go_roundw
              case rel => exact ⟨k + 1, by omega, by go_num, Hgood.out (by omega), by go_grown, by simp; omega, by rw [Hnext.out]; simp [World.cell?_alloc_past, World.cell?_setCell_same', World.cell?_setCell_other, hlw, hp0, hp1], by rw [Hnext.out]; simp [World.cell?_alloc_past, World.cell?_setCell_same', World.cell?_setCell_other, hlw, hp0, hp1], by simp [World.frozen?_alloc_past, hlw, hz0], by simp [World.frozen?_alloc_past, hlw, hz1]⟩
              case measure => simp [intOf]; omega
    · have : k = zs.length := by omega
      subst this
      go_wp2
      go_ret
      exact ⟨by rw [chartB_true ⟨hall, by omega, by omega⟩]; rfl, hb⟩

def sameB (zs us : List (Int × Int)) : Bool := decide (zs = us)

theorem take_step {zs us : List (Int × Int)} {k : Nat} (h : zs.take k = us.take k) (h1 : k < zs.length) (h2 : k < us.length) (e : zs[k] = us[k]) : zs.take (k + 1) = us.take (k + 1) := by
  rw [← List.take_append_getElem h1, ← List.take_append_getElem h2, h, e]

theorem specSame_quiet (v1 : Value) (zs : List (Int × Int)) (v2 : Value) (us : List (Int × Int)) (w : World) (h1 : RdP w v1 zs) (h2 : RdP w v2 us) :
    Calls Try.prog 64 #[v1, v2] w fun e w' => e = .returned (.bool (sameB zs us)) ∧ ∃ q, w' = w.drewN q := by
  obtain ⟨A, c, rfl, hl, r1⟩ := RdP_slice h1
  obtain ⟨A2, c2, rfl, hl2, r2⟩ := RdP_slice h2
  clear h1 h2
  have R1 := Lib.hid r1; clear r1
  have R2 := Lib.hid r2; clear r2
  by_cases hlen : zs.length = us.length
  · rw [← hlen]
    have hle : us.length ≤ zs.length ∧ zs.length ≤ us.length := by omega
    clear hlen
    go_enter Try.func64, Try.ntmps64
    go_wp2_with fail
    go_loopw [5] (fun i wr => ∃ k : Nat, k ≤ zs.length ∧ i = .int .i64 k ∧ zs.take k = us.take k ∧ ∃ q, wr = w.drewN q) (fun i _ => zs.length - (intOf i).toNat)
    case atStart => exact ⟨0, by omega, rfl, by simp, 0, World.drewN_zero w⟩
    case round =>
      obtain ⟨k, hk, rfl, ht, hq⟩ := hrel
      have hb : Below w.heap.size w wr := by obtain ⟨q, rfl⟩ := hq; exact kept_drewN (Below.refl _ _) _
      have HQ := Lib.hid hq; clear hq
      by_cases hlt : k < zs.length
      · obtain ⟨b, off, rfl, hbl, hc0, hc1⟩ := R1.out k hlt
        obtain ⟨b2, off2, rfl, hbl2, hd0, hd1⟩ := R2.out k (by omega)
        rw [← kept_cell hb b _ hbl] at hc0 hc1
        rw [← kept_cell hb b2 _ hbl2] at hd0 hd1
        have hstep := take_step ht hlt (by omega)
        have hno : zs[k] ≠ us[k]'(by omega) → sameB zs us = false := fun hn => by
          simp only [sameB, decide_eq_false_iff_not]
          intro he
          subst he
          exact hn rfl
        rw [show zs[k] = (zs[k].1, zs[k].2) from rfl, show us[k]'(by omega) = ((us[k]'(by omega)).1, (us[k]'(by omega)).2) from rfl] at hstep hno
        have Hstep := Lib.hid hstep; clear hstep
        have Hno := Lib.hid hno; clear hno
        have Ht := Lib.hid ht; clear ht
        generalize zs[k].1 = x at *
        generalize zs[k].2 = y at *
        generalize (us[k]'(by omega)).1 = x' at *
        generalize (us[k]'(by omega)).2 = y' at *
        by_cases he : x = x' ∧ y = y'
        · obtain ⟨rfl, rfl⟩ := he
          go_wp2_with fail
          go_quiet (fail)
          go_wp2
          go_roundw
          case rel => exact ⟨k + 1, by omega, by go_num, Hstep.out trivial, drew_more HQ.out _⟩
          case measure => simp [intOf]; omega
        · by_cases hx : x = x'
          · subst hx
            have hy : ¬ y = y' := fun e => he ⟨rfl, e⟩
            have hy1 : (y == y') = false := by simpa using hy
            have hy2 : decide (y = y') = false := by simpa using hy
            have hs := Hno.out (by simpa using hy)
            clear Hno Hstep
            go_wp2_with fail
            go_quiet (fail)
            go_wp2
            go_ret
            exact ⟨by rw [hs]; rfl, drew_more HQ.out _⟩
          · have hx1 : (x == x') = false := by simpa using hx
            have hx2 : decide (x = x') = false := by simpa using hx
            have hs := Hno.out (by simp [hx])
            clear Hno Hstep
            go_wp2_with fail
            go_quiet (fail)
            go_wp2
            go_ret
            exact ⟨by rw [hs]; rfl, drew_more HQ.out _⟩
      · have : k = zs.length := by omega
        subst this
        have hs : sameB zs us = true := by
          rw [List.take_of_length_le (Nat.le_refl _), List.take_of_length_le (by omega)] at ht
          simp [sameB, ht]
        have Ht := Lib.hid ht; clear ht
        go_wp2
        go_ret
        exact ⟨by rw [hs]; rfl, HQ.out⟩
  · have hs : sameB zs us = false := by
      simp only [sameB, decide_eq_false_iff_not]
      intro he
      exact hlen (by rw [he])
    go_enter Try.func64, Try.ntmps64
    go_wp2
    go_ret
    exact ⟨by rw [hs]; rfl, 0, World.drewN_zero w⟩

theorem specSame_any (v1 : Value) (zs : List (Int × Int)) (v2 : Value) (us : List (Int × Int)) (w : World) (h1 : RdP w v1 zs) (h2 : RdP w v2 us) :
    Calls Try.prog 64 #[v1, v2] w fun e w' => e = .returned (.bool (sameB zs us)) ∧ Below w.heap.size w w' :=
  (specSame_quiet v1 zs v2 us w h1 h2).mono fun e w' ⟨he, q, hq⟩ => ⟨he, hq ▸ kept_drewN (Below.refl _ _) _⟩

theorem specSameC_any (v1 : Value) (zs : List (Int × Int)) (v2 : Value) (us : List (Int × Int)) (w : World) (h1 : RdP w v1 zs) (h2 : RdP w v2 us) :
    Calls Try.prog 23 #[v1, v2] w fun e w' => e = .returned (.bool (sameB zs us)) ∧ Below w.heap.size w w' := by
  go_enter Try.func23, Try.ntmps23
  go_wp2_with fail
  refine (specSame_any _ zs _ us _ h1 h2).mono ?_
  rintro e w1 ⟨rfl, hb⟩
  go_wp2
  go_ret
  exact ⟨rfl, hb⟩

/-- The step k. -/
def atP (zs : List (Int × Int)) (k : Nat) : Int × Int := zs.getD k (0, 0)

theorem atP_is (zs : List (Int × Int)) (k : Nat) (h : k < zs.length) : atP zs k = zs[k] := by simp [atP, h]

theorem rd_at {w : World} {A : Option Addr} {n c : Nat} {zs : List (Int × Int)} (h : RdP w (.slice A n c) zs) (k : Nat) (hk : k < zs.length) :
    n = zs.length ∧ ∃ b off, A = some ⟨b, off, none⟩ ∧ b < w.heap.size ∧ w.cell? ⟨b, off + k * 2, none⟩ = some (.int .i64 (atP zs k).1) ∧ w.cell? ⟨b, off + k * 2 + 1, none⟩ = some (.int .i64 (atP zs k).2) := by
  obtain ⟨A', c', e, hl, r1⟩ := RdP_slice h
  obtain ⟨b, off, rfl, hb, h0, h1⟩ := r1 k hk
  simp only [Value.slice.injEq] at e
  refine ⟨e.2.1, b, off, e.1, hb, ?_, ?_⟩
  · rw [atP_is zs k hk]; exact h0
  · rw [atP_is zs k hk]; exact h1

theorem mul_bd (a b p q : Int) (h1 : 0 ≤ a ∧ a ≤ p) (h2 : 0 ≤ b ∧ b ≤ q) : 0 ≤ a * b ∧ a * b ≤ p * q :=
  ⟨Int.mul_nonneg h1.1 h2.1, Int.mul_le_mul h1.2 h2.2 h2.1 (by omega)⟩

theorem flatP_snoc (zs : List (Int × Int)) (p q : Int) : flatP zs ++ [.int .i64 p, .int .i64 q] = flatP (zs ++ [(p, q)]) := by simp [flatP, encP]

/-- append of one pair to a row of the call's own. -/
theorem wp_appendP {ops : Array Oper} {rest : List Oper} {o : Oper} {a : Act} {Q : Exit → Act → World → Prop} {W wr : World} (hgd : o.guard = none) (s x : Operand)
    (ho : o.op = .call { callee := .builtin .append, args := #[s, x], argTypes := #[24, 24] })
    (lo : Nat) (v : Value) (zs : List (Int × Int)) (p q : Int) (hs : a.eval s = v) (hrow : RowF 35 2 wr lo wr.heap.size v zs.length (flatP zs)) (hx : a.eval x = .slice (some ⟨wr.heap.size, 0, none⟩) 1 1)
    (hW : Below W.heap.size W wr) (hlo : W.heap.size ≤ lo) (hlo2 : lo ≤ wr.heap.size) (hn : zs.length < 1000000000)
    (h : ∀ v' w', RowF 35 2 w' lo w'.heap.size v' (zs ++ [(p, q)]).length (flatP (zs ++ [(p, q)])) → Below W.heap.size W w' → wr.heap.size ≤ w'.heap.size → wpList Try.prog ops Q rest (a.put o.dst v') w') :
    wpList Try.prog ops Q (o :: rest) a (wr.alloc (.cells #[.int .i64 p, .int .i64 q] 35)) := by
  obtain ⟨i0, hi, hz0, hz1, hz2⟩ := info_parts info_step
  refine wpList_append_own _ hgd s x _ ho lo 35 i0 (.agg #[.int .i64 0, .int .i64 0]) 2 16 Try.underlying24 hi hz0 hz1 hz2 rfl (by decide) v zs.length _ hs (hrow.1.alloc _) ⟨wr.heap.size, 0, none⟩ 1 1 [.int .i64 p, .int .i64 q] hx rfl ?_ ?_ ?_ ?_ ?_ ?_
  · intro j u hj
    match j with
    | 0 => simp at hj; subst hj; simp [Addr.add]
    | 1 => simp at hj; subst hj; simp [Addr.add]
    | j + 2 => simp at hj
  · intro u hu; simp at hu; rcases hu with rfl | rfl <;> rfl
  · unfold maxLen; omega
  · omega
  · simp; omega
  · intro v' w' hown hg _
    rw [flatP_snoc] at hown
    have hrow' : RowF 35 2 w' lo w'.heap.size v' (zs ++ [(p, q)]).length (flatP (zs ++ [(p, q)])) := ⟨by simpa using hown, hown.lt⟩
    refine h v' w' hrow' ?_ (Nat.le_trans (by simp) hg.size)
    refine grown_below (hW.alloc hW.size _) hg (fun g hg2 => ?_)
    have := (hrow.2 g hg2).1
    omega

theorem below_drew {B : Nat} {a w : World} (h : Below B a w) : Below B a w.drew := { os := h.os, tape := h.tape, output := h.output, size := h.size, block := h.block }

theorem max_any (a b : Int) (w : World) :
    Calls Try.prog 83 #[.int .i64 a, .int .i64 b] w fun e w' => e = .returned (.int .i64 (max a b)) ∧ w = w' := by
  by_cases h : b < a
  · rw [show max a b = a by omega]
    go_enter Try.func83, Try.ntmps83
    go_wp2
    go_ret
    exact ⟨rfl, rfl⟩
  · rw [show max a b = b by omega]
    go_enter Try.func83, Try.ntmps83
    go_wp2
    go_ret
    exact ⟨rfl, rfl⟩

theorem min_any (x y : Int) (w : World) :
    Calls Try.prog 37 #[.int .i64 x, .int .i64 y] w fun e w' => e = .returned (.int .i64 (min x y)) ∧ w = w' := by
  by_cases h : x < y
  · rw [show min x y = x by omega]
    go_enter Try.func37, Try.ntmps37
    go_wp2
    go_ret
    exact ⟨rfl, rfl⟩
  · rw [show min x y = y by omega]
    go_enter Try.func37, Try.ntmps37
    go_wp2
    go_ret
    exact ⟨rfl, rfl⟩

/-- The first place at which p holds; -1 if there is none. -/
def idxL {α : Type} (p : α → Bool) (zs : List α) : Int := if zs.findIdx p < zs.length then (zs.findIdx p : Int) else -1

theorem idxL_is {α : Type} {p : α → Bool} {zs : List α} {k : Nat} (h : k < zs.length) (hk : p zs[k] = true) (hb : ∀ j (hj : j < zs.length), j < k → p zs[j] = false) : idxL p zs = (k : Int) := by
  unfold idxL
  have e : zs.findIdx p = k := by
    rw [List.findIdx_eq h]
    exact ⟨hk, fun j hj => hb j (by omega) hj⟩
  rw [e, if_pos h]

theorem idxL_none {α : Type} {p : α → Bool} {zs : List α} (hb : ∀ j (hj : j < zs.length), p zs[j] = false) : idxL p zs = -1 := by
  unfold idxL
  have e : zs.findIdx p = zs.length := by
    rw [List.findIdx_eq_length]
    intro x hx
    obtain ⟨i, hi, rfl⟩ := List.mem_iff_getElem.1 hx
    exact hb i hi
  rw [e, if_neg (by omega)]

theorem idxL_any {α : Type} (p : α → Bool) (zs : List α) : decide (0 ≤ idxL p zs) = zs.any p := by
  unfold idxL
  by_cases h : zs.findIdx p < zs.length
  · rw [if_pos h]
    have := List.findIdx_lt_length.1 h
    simp
    obtain ⟨x, hx, hp⟩ := this
    exact ⟨x, hx, hp⟩
  · rw [if_neg h]
    have : ¬ ∃ x ∈ zs, p x = true := fun hx => h (List.findIdx_lt_length.2 hx)
    simp at this ⊢
    exact this

theorem idxL_bd {α : Type} (p : α → Bool) (zs : List α) : -1 ≤ idxL p zs ∧ idxL p zs ≤ zs.length := by
  unfold idxL
  split <;> omega

/-- A base's numbers (side, mass, ballast, jib's mass, its radius, counterweight, its radius) are as asked. -/
def baseB (s m b j a c d : Int) : Bool := inB s 10 200 && inB m 1 500000 && inB b 0 500000 && inB j 0 500000 && inB c 0 500000 && inB a 0 1000 && inB d 0 1000

/-- The mass of a crane with a load. -/
def totL (m b j c l : Int) : Int := m + b + j + c + l

/-- The moment of a crane with a load at a radius. -/
def tipL (j a c d l r : Int) : Int := l * r + j * a - c * d

/-- A moment without its sign. -/
def tiltL (n : Int) : Int := max n (-n)

theorem seven (p0 p1 p2 p3 p4 p5 p6 : Bool) : p0 = false ∨ (p0 = true ∧ p1 = false) ∨ (p0 = true ∧ p1 = true ∧ p2 = false) ∨ (p0 = true ∧ p1 = true ∧ p2 = true ∧ p3 = false) ∨ (p0 = true ∧ p1 = true ∧ p2 = true ∧ p3 = true ∧ p4 = false) ∨
    (p0 = true ∧ p1 = true ∧ p2 = true ∧ p3 = true ∧ p4 = true ∧ p5 = false) ∨ (p0 = true ∧ p1 = true ∧ p2 = true ∧ p3 = true ∧ p4 = true ∧ p5 = true ∧ p6 = false) ∨ (p0 = true ∧ p1 = true ∧ p2 = true ∧ p3 = true ∧ p4 = true ∧ p5 = true ∧ p6 = true) := by
  cases p0 <;> cases p1 <;> cases p2 <;> cases p3 <;> cases p4 <;> cases p5 <;> cases p6 <;> simp

theorem three (p0 p1 p2 : Bool) : p0 = false ∨ (p0 = true ∧ p1 = false) ∨ (p0 = true ∧ p1 = true ∧ p2 = false) ∨ (p0 = true ∧ p1 = true ∧ p2 = true) := by
  cases p0 <;> cases p1 <;> cases p2 <;> simp

/-- What is known of the numbers of a base. -/
theorem base_bd {s m b j a c d : Int} (h : baseB s m b j a c d = true) : (10 ≤ s ∧ s ≤ 200) ∧ (1 ≤ m ∧ m ≤ 500000) ∧ (0 ≤ b ∧ b ≤ 500000) ∧ (0 ≤ j ∧ j ≤ 500000) ∧ (0 ≤ c ∧ c ≤ 500000) ∧ (0 ≤ a ∧ a ≤ 1000) ∧ 0 ≤ d ∧ d ≤ 1000 := by
  simp only [baseB, Bool.and_eq_true] at h
  obtain ⟨⟨⟨⟨⟨⟨g0, g1⟩, g2⟩, g3⟩, g4⟩, g5⟩, g6⟩ := h
  exact ⟨inB_true g0, inB_true g1, inB_true g2, inB_true g3, inB_true g4, inB_true g5, inB_true g6⟩

/-- The parts of a moment, and that they are not too great. -/
def TipP (x y z : Int) : Prop := (0 ≤ x ∧ x ≤ 50000000) ∧ (0 ≤ y ∧ y ≤ 500000000) ∧ 0 ≤ z ∧ z ≤ 500000000

theorem tip_parts {s m b j a c d l r : Int} (h : baseB s m b j a c d = true) (hl : inB l 0 50000 = true) (hr : inB r 0 1000 = true) : TipP (l * r) (j * a) (c * d) := by
  obtain ⟨_, _, _, h3, h4, h5, h6⟩ := base_bd h
  exact ⟨mul_bd l r 50000 1000 (inB_true hl) (inB_true hr), mul_bd j a 500000 1000 h3 h5, mul_bd c d 500000 1000 h4 h6⟩

/-- A base at the beginning of a block. -/
def BaAt (w : World) (p : Nat) (s m b j a c d : Int) : Prop :=
  w.cell? ⟨p, 0, none⟩ = some (.int .i64 s) ∧ w.cell? ⟨p, 1, none⟩ = some (.int .i64 m) ∧ w.cell? ⟨p, 2, none⟩ = some (.int .i64 b) ∧ w.cell? ⟨p, 3, none⟩ = some (.int .i64 j) ∧
    w.cell? ⟨p, 4, none⟩ = some (.int .i64 a) ∧ w.cell? ⟨p, 5, none⟩ = some (.int .i64 c) ∧ w.cell? ⟨p, 6, none⟩ = some (.int .i64 d)

theorem BaAt_kept {W w1 : World} {p : Nat} {s m b j a c d : Int} (h : BaAt W p s m b j a c d) (hb : Below W.heap.size W w1) : BaAt w1 p s m b j a c d := by
  obtain ⟨h0, h1, h2, h3, h4, h5, h6⟩ := h
  have hl := World.block_lt_of_cell? _ _ h0
  refine ⟨?_, ?_, ?_, ?_, ?_, ?_, ?_⟩ <;> (rw [kept_cell hb p _ hl]; assumption)

theorem BaAt_new (s m b j a c d : Int) (w : World) : BaAt (w.alloc (.cells #[.int .i64 s, .int .i64 m, .int .i64 b, .int .i64 j, .int .i64 a, .int .i64 c, .int .i64 d] 39)) w.heap.size s m b j a c d := ⟨by simp, by simp, by simp, by simp, by simp, by simp, by simp⟩

theorem mass_any (n : Int) (w : World) :
    Calls Try.prog 93 #[.int .i64 n] w fun e w' => e = .returned (.bool (inB n 0 500000)) ∧ w = w' := by
  go_enter Try.func93, Try.ntmps93
  go_wp2_with (go_at_call 84; refine (in_any _ _ _ _).mono ?_; rintro e w1 ⟨rfl, rfl⟩)
  go_ret
  exact ⟨rfl, rfl⟩

theorem specBase_any (p : Nat) (s m b j a c d : Int) (w : World) (h : BaAt w p s m b j a c d) :
    Calls Try.prog 52 #[.pointer (some ⟨p, 0, none⟩)] w fun e w' => e = .returned (.bool (baseB s m b j a c d)) ∧ w = w' := by
  obtain ⟨h0, h1, h2, h3, h4, h5, h6⟩ := h
  unfold baseB
  rcases seven (inB s 10 200) (inB m 1 500000) (inB b 0 500000) (inB j 0 500000) (inB c 0 500000) (inB a 0 1000) (inB d 0 1000) with g | ⟨g0, g⟩ | ⟨g0, g1, g⟩ | ⟨g0, g1, g2, g⟩ | ⟨g0, g1, g2, g3, g⟩ | ⟨g0, g1, g2, g3, g4, g⟩ | ⟨g0, g1, g2, g3, g4, g5, g⟩ | ⟨g0, g1, g2, g3, g4, g5, g⟩
  all_goals
    go_enter Try.func52, Try.ntmps52
    go_wp2_with (first | (go_at_call 84; refine (in_any _ _ _ _).mono ?_; rintro e w1 ⟨rfl, rfl⟩) | (go_at_call 93; refine (mass_any _ _).mono ?_; rintro e w1 ⟨rfl, rfl⟩))
    go_ret
    exact ⟨by simp [*], rfl⟩

/-- The code of a base and of what is told about the other arguments. -/
def codeL3 (B : Bool) (bs : List Bool) : Int := if B then (if bs.all id then 0 else 2) else 1

theorem codeL3_ok {B : Bool} {bs : List Bool} (h : codeL3 B bs = 0) : B = true ∧ ∀ x ∈ bs, x = true := by
  unfold codeL3 at h
  cases B
  · simp at h
  · cases hb : bs.all id
    · rw [hb] at h; simp at h
    · exact ⟨rfl, fun x hx => by have := List.all_eq_true.1 hb x hx; simpa using this⟩

theorem specBCode_any (p : Nat) (s m b j a c d : Int) (l r : Int) (w : World) (h : BaAt w p s m b j a c d) :
    Calls Try.prog 103 #[.pointer (some ⟨p, 0, none⟩), .int .i64 l, .int .i64 r] w fun e w' => e = .returned (.int .i64 (codeL3 (baseB s m b j a c d) [inB l 0 50000, inB r 0 1000])) ∧ w = w' := by
  have HB := Lib.hid (specBase_any p s m b j a c d w h); clear h
  rcases three (baseB s m b j a c d) (inB l 0 50000) (inB r 0 1000) with g | ⟨g0, g⟩ | ⟨g0, g1, g⟩ | ⟨g0, g1, g⟩
  all_goals
    generalize baseB s m b j a c d = B at *
    subst_vars
    go_enter Try.func103, Try.ntmps103
    go_wp2_with fail
    refine HB.out.mono ?_
    rintro e w1 ⟨rfl, rfl⟩
    go_wp2_with (go_at_call 84; refine (in_any _ _ _ _).mono ?_; rintro e w1 ⟨rfl, rfl⟩)
    go_ret
    exact ⟨by simp [codeL3, *], rfl⟩

theorem specPercent_any (n : Int) (w : World) :
    Calls Try.prog 53 #[.int .i64 n] w fun e w' => e = .returned (.bool (inB n 100 1000)) ∧ w = w' := by
  go_enter Try.func53, Try.ntmps53
  go_wp2_with (go_at_call 84; refine (in_any _ _ _ _).mono ?_; rintro e w1 ⟨rfl, rfl⟩)
  go_ret
  exact ⟨rfl, rfl⟩

theorem specAsked_any (p : Nat) (s m b j a c d : Int) (l r q : Int) (w : World) (h : BaAt w p s m b j a c d) :
    Calls Try.prog 62 #[.pointer (some ⟨p, 0, none⟩), .int .i64 l, .int .i64 r, .int .i64 q] w fun e w' => e = .returned (.int .i64 (codeL3 (baseB s m b j a c d) [inB l 0 50000, inB r 0 1000, inB q 100 1000])) ∧ w = w' := by
  have HC := specBCode_any p s m b j a c d l r w h
  clear h
  have hE : codeL3 (baseB s m b j a c d) [inB l 0 50000, inB r 0 1000, inB q 100 1000] = if codeL3 (baseB s m b j a c d) [inB l 0 50000, inB r 0 1000] = 0 then (if inB q 100 1000 then 0 else 2) else codeL3 (baseB s m b j a c d) [inB l 0 50000, inB r 0 1000] := by
    unfold codeL3
    cases baseB s m b j a c d <;> cases inB l 0 50000 <;> cases inB r 0 1000 <;> cases inB q 100 1000 <;> simp
  rw [hE]
  clear hE
  generalize codeL3 (baseB s m b j a c d) [inB l 0 50000, inB r 0 1000] = K at *
  have HC := Lib.hid HC
  by_cases hK : K = 0
  · subst hK
    rw [if_pos rfl]
    cases hq : inB q 100 1000
    all_goals
      go_enter Try.func62, Try.ntmps62
      go_wp2_with fail
      refine HC.out.mono ?_
      rintro e w1 ⟨rfl, rfl⟩
      go_wp2_with (go_at_call 53; refine (specPercent_any _ _).mono ?_; rintro e w1 ⟨rfl, rfl⟩)
      go_ret
      exact ⟨rfl, rfl⟩
  · rw [if_neg hK]
    have hK1 : (K == 0) = false := by simpa using hK
    have hK2 : (K != 0) = true := by simpa using hK
    go_enter Try.func62, Try.ntmps62
    go_wp2_with fail
    refine HC.out.mono ?_
    rintro e w1 ⟨rfl, rfl⟩
    go_wp2_with fail
    go_ret
    exact ⟨rfl, rfl⟩

theorem BaAt_drew {w : World} {p : Nat} {s m b j a c d : Int} (h : BaAt w p s m b j a c d) (n : Nat) : BaAt (w.drewN n) p s m b j a c d := BaAt_kept h (kept_drewN (Below.refl _ _) n)

theorem specTotal_any (p : Nat) (s m b j a c d : Int) (l : Int) (w : World) (h : BaAt w p s m b j a c d) (hv : baseB s m b j a c d = true) (hl : inB l 0 50000 = true) :
    Calls Try.prog 94 #[.pointer (some ⟨p, 0, none⟩), .int .i64 l] w fun e w' => e = .returned (.int .i64 (totL m b j c l)) ∧ ∃ n, w' = w.drewN n := by
  obtain ⟨h0, h1, h2, h3, h4, h5, h6⟩ := h
  have hb := base_bd hv
  have hi := inB_true hl
  unfold totL
  clear hv hl
  have w1 : IntKind.i64.wrap (m + b) = m + b := IntWalk.i64_in _ (by omega)
  have w2 : IntKind.i64.wrap (m + b + j) = m + b + j := IntWalk.i64_in _ (by omega)
  have w3 : IntKind.i64.wrap (m + b + j + c) = m + b + j + c := IntWalk.i64_in _ (by omega)
  have w4 : IntKind.i64.wrap (m + b + j + c + l) = m + b + j + c + l := IntWalk.i64_in _ (by omega)
  go_enter Try.func94, Try.ntmps94
  go_wp2_with fail
  go_quiet (fail)
  go_wp2
  go_ret
  exact ⟨rfl, _, rfl⟩

theorem specTip_any (p : Nat) (s m b j a c d : Int) (l r : Int) (w : World) (h : BaAt w p s m b j a c d) (hm : TipP (l * r) (j * a) (c * d)) :
    Calls Try.prog 96 #[.pointer (some ⟨p, 0, none⟩), .int .i64 l, .int .i64 r] w fun e w' => e = .returned (.int .i64 (tipL j a c d l r)) ∧ ∃ n, w' = w.drewN n := by
  obtain ⟨h0, h1, h2, h3, h4, h5, h6⟩ := h
  obtain ⟨m0, m1, m2⟩ := hm
  unfold tipL
  have w1 : IntKind.i64.wrap (l * r) = l * r := IntWalk.i64_in _ (by omega)
  have w2 : IntKind.i64.wrap (j * a) = j * a := IntWalk.i64_in _ (by omega)
  have w3 : IntKind.i64.wrap (c * d) = c * d := IntWalk.i64_in _ (by omega)
  have w4 : IntKind.i64.wrap (l * r + j * a) = l * r + j * a := IntWalk.i64_in _ (by omega)
  have w5 : IntKind.i64.wrap (l * r + j * a - c * d) = l * r + j * a - c * d := IntWalk.i64_in _ (by omega)
  go_enter Try.func96, Try.ntmps96
  go_wp2_with fail
  go_quiet (fail)
  go_wp2
  go_ret
  exact ⟨rfl, _, rfl⟩

theorem specSize_any (n : Int) (h : -1000000000000000000 ≤ n ∧ n ≤ 1000000000000000000) (w : World) :
    Calls Try.prog 95 #[.int .i64 n] w fun e w' => e = .returned (.int .i64 (tiltL n)) ∧ w = w' := by
  unfold tiltL
  go_enter Try.func95, Try.ntmps95
  go_wp2_with (go_at_call 83; refine (max_any _ _ _).mono ?_; rintro e w1 ⟨rfl, rfl⟩)
  go_ret
  exact ⟨rfl, rfl⟩

/-- A crane has a safety. -/
def stabB (s m b j a c d : Int) (l r q : Int) : Bool := decide (2 * q * tiltL (tipL j a c d l r) ≤ 100 * totL m b j c l * s)

/-- The numbers of a stability, and that their products are not too great. -/
def StabP (T M s q : Int) : Prop := (0 ≤ T ∧ T ≤ 2050000) ∧ (-550000000 ≤ M ∧ M ≤ 550000000) ∧ (0 ≤ tiltL M ∧ tiltL M ≤ 550000000) ∧ (0 ≤ 100 * T * s ∧ 100 * T * s ≤ 41000000000) ∧ (0 ≤ 2 * q * tiltL M ∧ 2 * q * tiltL M ≤ 1100000000000) ∧ (0 ≤ T * s ∧ T * s ≤ 410000000)

theorem stab_parts {s m b j a c d l r q : Int} (h : baseB s m b j a c d = true) (hl : inB l 0 50000 = true) (hr : inB r 0 1000 = true) (hq : inB q 0 1000 = true) : StabP (totL m b j c l) (tipL j a c d l r) s q := by
  have hp := tip_parts h hl hr
  have hb := base_bd h
  have gl := inB_true hl
  have gq := inB_true hq
  obtain ⟨p0, p1, p2⟩ := hp
  have hT : 0 ≤ totL m b j c l ∧ totL m b j c l ≤ 2050000 := by unfold totL; omega
  have hM : -550000000 ≤ tipL j a c d l r ∧ tipL j a c d l r ≤ 550000000 := by unfold tipL; omega
  have hA : 0 ≤ tiltL (tipL j a c d l r) ∧ tiltL (tipL j a c d l r) ≤ 550000000 := by unfold tiltL; omega
  have k1 := mul_bd (100 * totL m b j c l) s 205000000 200 (by omega) (by omega)
  have k2 := mul_bd (2 * q) (tiltL (tipL j a c d l r)) 2000 550000000 (by omega) hA
  have k3 := mul_bd (totL m b j c l) s 2050000 200 (by omega) (by omega)
  exact ⟨hT, hM, hA, by omega, by omega, by omega⟩

theorem specStable_any (p : Nat) (s m b j a c d : Int) (l r q : Int) (w : World) (h : BaAt w p s m b j a c d) (hv : baseB s m b j a c d = true) (hl : inB l 0 50000 = true) (hr : inB r 0 1000 = true) (hq : inB q 0 1000 = true) :
    Calls Try.prog 55 #[.pointer (some ⟨p, 0, none⟩), .int .i64 l, .int .i64 r, .int .i64 q] w fun e w' => e = .returned (.bool (stabB s m b j a c d l r q)) ∧ ∃ n, w' = w.drewN n := by
  have HT := Lib.hid (fun n => specTotal_any p s m b j a c d l (w.drewN n) (BaAt_drew h n) hv hl)
  have hS := stab_parts hv hl hr hq
  have HM := Lib.hid (fun n => specTip_any p s m b j a c d l r (w.drewN n) (BaAt_drew h n) (tip_parts hv hl hr))
  obtain ⟨h0, h1, h2, h3, h4, h5, h6⟩ := h
  have gq := inB_true hq
  have gs := (base_bd hv).1
  unfold stabB
  clear h1 h2 h3 h4 h5 h6 hv hl hr hq
  generalize totL m b j c l = T at *
  generalize tipL j a c d l r = M at *
  have HA := Lib.hid (fun u => specSize_any M (by have := hS.2.1; omega) u)
  obtain ⟨s0, s1, s2, s3, s4, _⟩ := hS
  generalize tiltL M = A at *
  have x1 : IntKind.i64.wrap (100 * T) = 100 * T := IntWalk.i64_in _ (by omega)
  have x2 : IntKind.i64.wrap (100 * T * s) = 100 * T * s := IntWalk.i64_in _ (by omega)
  have x3 : IntKind.i64.wrap (2 * q) = 2 * q := IntWalk.i64_in _ (by omega)
  have x4 : IntKind.i64.wrap (2 * q * A) = 2 * q * A := IntWalk.i64_in _ (by omega)
  go_enter Try.func55, Try.ntmps55
  go_wp2_with fail
  go_quiet (first | (go_at_call 94; exact Calls.quiet_of (HT.out _)) | (go_at_call 96; exact Calls.quiet_of (HM.out _)) | (go_at_call 95; exact Calls.quiet_of_same ((HA.out _).mono fun e w' h => ⟨h.1, h.2.symm⟩)))
  go_wp2
  go_ret
  exact ⟨rfl, _, rfl⟩

/-- The greatest of the numbers 50 * n, .., 50, 0 with p; -1 if there is none. -/
def downL (p : Int → Bool) : Nat → Int
  | 0 => if p 0 then 0 else -1
  | n + 1 => if p (50 * (n + 1 : Nat)) then 50 * (n + 1 : Nat) else downL p n

theorem downL_bd (p : Int → Bool) (n : Nat) : downL p n = -1 ∨ (0 ≤ downL p n ∧ downL p n ≤ 50 * n ∧ p (downL p n) = true) := by
  induction n with
  | zero => unfold downL; split <;> simp_all
  | succ n ih =>
    unfold downL
    split
    · right; refine ⟨by omega, by omega, by assumption⟩
    · rcases ih with h | h
      · exact Or.inl h
      · right; refine ⟨h.1, by omega, h.2.2⟩

/-- The safe part of a chart: g: the greatest loads, p: what is stable, l: the load before. -/
def safeL (g : Int → Int) (p : Int → Int → Bool) : Int → List (Int × Int) → List (Int × Int)
  | _, [] => []
  | l, z :: zs => if g z.1 < 0 ∨ p (min (min z.2 (g z.1)) l) z.1 = false then [] else (z.1, min (min z.2 (g z.1)) l) :: safeL g p (min (min z.2 (g z.1)) l) zs

theorem RdI_of (w : World) (g c : Nat) (zs : List Int) (hl : zs.length ≤ 9223372036854775807) (hg : g < w.heap.size) (hc : ∀ k, (hk : k < zs.length) → w.cell? ⟨g, k, none⟩ = some (.int .i64 zs[k])) : RdI w (.slice (some ⟨g, 0, none⟩) zs.length c) zs :=
  ⟨hl, _, _, rfl, fun k hk => ⟨g, 0, rfl, hg, by rw [Nat.zero_add]; exact hc k hk⟩⟩

theorem rdI1 {w : World} {g c : Nat} {x : Int} (hg : g < w.heap.size) (h0 : w.cell? ⟨g, 0, none⟩ = some (.int .i64 x)) : RdI w (.slice (some ⟨g, 0, none⟩) 1 c) [x] :=
  RdI_of w g c [x] (by simp) hg (fun k hk => by simp at hk; subst hk; exact h0)

theorem rdI2 {w : World} {g c : Nat} {x y : Int} (hg : g < w.heap.size) (h0 : w.cell? ⟨g, 0, none⟩ = some (.int .i64 x)) (h1 : w.cell? ⟨g, 1, none⟩ = some (.int .i64 y)) : RdI w (.slice (some ⟨g, 0, none⟩) 2 c) [x, y] :=
  RdI_of w g c [x, y] (by simp) hg (fun k hk => by
    match k, hk with
    | 0, _ => exact h0
    | 1, _ => exact h1)

theorem rdI3 {w : World} {g c : Nat} {x y z : Int} (hg : g < w.heap.size) (h0 : w.cell? ⟨g, 0, none⟩ = some (.int .i64 x)) (h1 : w.cell? ⟨g, 1, none⟩ = some (.int .i64 y)) (h2 : w.cell? ⟨g, 2, none⟩ = some (.int .i64 z)) : RdI w (.slice (some ⟨g, 0, none⟩) 3 c) [x, y, z] :=
  RdI_of w g c [x, y, z] (by simp) hg (fun k hk => by
    match k, hk with
    | 0, _ => exact h0
    | 1, _ => exact h1
    | 2, _ => exact h2)

set_option maxRecDepth 100000 in
theorem indexFuncI_any (v : Value) (zs : List Int) (g : FuncId) (he : Enters Try.prog g) (cap : Array Value) (p : Int → Bool) (w : World) (h : RdI w v zs)
    (hf : ∀ k (hk : k < zs.length) w1, Below w.heap.size w w1 → Calls Try.prog g (#[.int .i64 zs[k]] ++ cap) w1 fun e w2 => e = .returned (.bool (p zs[k])) ∧ Below w1.heap.size w1 w2) :
    Calls Try.prog 136 #[v, .func (.func g) #[] cap] w fun e w' => e = .returned (.int .i64 (idxL p zs)) ∧ Below w.heap.size w w' := by
  obtain ⟨hl, A, c, rfl, r1⟩ := h
  have R := Lib.hid r1; clear r1
  have Hf := Lib.hid hf; clear hf
  have HIS := Lib.hid (fun k (h : k < zs.length) => @idxL_is _ p zs k h)
  have HNO := Lib.hid (@idxL_none _ p zs)
  generalize idxL p zs = G at *
  go_enter Try.func136, Try.ntmps136
  go_wp2_with fail
  go_loopw [8] (fun i wr => ∃ k : Nat, k ≤ zs.length ∧ i = .int .i64 k ∧ (∀ j (hj : j < zs.length), j < k → p zs[j] = false) ∧ Below w.heap.size w wr) (fun i _ => zs.length - (intOf i).toNat)
  case atStart => exact ⟨0, by omega, rfl, fun j _ h => by omega, Below.refl _ _⟩
  case round =>
    obtain ⟨k, hk, rfl, hall, hb⟩ := hrel
    by_cases hlt : k < zs.length
    · obtain ⟨b, off, rfl, hbl, hc0⟩ := R.out k hlt
      rw [← kept_cell hb b _ hbl] at hc0
      have hc := Hf.out k hlt wr hb
      cases hp : p zs[k]
      · have hnx : ∀ j (hj : j < zs.length), j < k + 1 → p zs[j] = false := fun j hj hjk => by
          rcases Nat.lt_or_ge j k with h1 | h1
          · exact hall j hj h1
          · obtain rfl : j = k := by omega
            exact hp
        rw [hp] at hc
        have HNX := Lib.hid hnx; clear hnx hall hp
        have Hc := Lib.hid hc; clear hc
        generalize zs[k] = x at *
        go_wp2_with fail
        rw [he, Oper.upon_enter]
        refine Hc.out.mono ?_
        rintro e w1 ⟨rfl, hb1⟩
        go_wp2
        go_roundw
        case rel => exact ⟨k + 1, by omega, by go_num, HNX.out, kept_trans hb hb1⟩
        case measure => simp [intOf]; omega
      · have hE := HIS.out k hlt hp hall
        subst hE
        rw [hp] at hc
        have Hc := Lib.hid hc; clear hc hall hp
        generalize zs[k] = x at *
        go_wp2_with fail
        rw [he, Oper.upon_enter]
        refine Hc.out.mono ?_
        rintro e w1 ⟨rfl, hb1⟩
        go_wp2
        go_ret
        exact ⟨rfl, kept_trans hb hb1⟩
    · have : k = zs.length := by omega
      subst this
      have hE := HNO.out (fun j hj => hall j hj hj)
      clear hall
      subst hE
      go_wp2
      go_ret
      exact ⟨rfl, hb⟩

theorem containsFuncI_any (v : Value) (zs : List Int) (g : FuncId) (he : Enters Try.prog g) (cap : Array Value) (p : Int → Bool) (w : World) (h : RdI w v zs)
    (hf : ∀ k (hk : k < zs.length) w1, Below w.heap.size w w1 → Calls Try.prog g (#[.int .i64 zs[k]] ++ cap) w1 fun e w2 => e = .returned (.bool (p zs[k])) ∧ Below w1.heap.size w1 w2) :
    Calls Try.prog 123 #[v, .func (.func g) #[] cap] w fun e w' => e = .returned (.bool (zs.any p)) ∧ Below w.heap.size w w' := by
  have H := Lib.hid (indexFuncI_any v zs g he cap p w h hf)
  obtain ⟨hl, A, c, rfl, r1⟩ := h
  clear hf r1
  have hbd := idxL_bd p zs
  rw [← idxL_any]
  generalize idxL p zs = G at *
  go_enter Try.func123, Try.ntmps123
  go_wp2_with fail
  refine H.out.mono ?_
  rintro e w1 ⟨rfl, hb1⟩
  go_wp2
  go_ret
  exact ⟨rfl, hb1⟩

theorem outside_any (n lo hi : Int) (b1 b2 : Nat) (w : World) (h1 : w.cell? ⟨b1, 0, none⟩ = some (.int .i64 lo)) (h2 : w.cell? ⟨b2, 0, none⟩ = some (.int .i64 hi)) :
    Calls Try.prog 124 #[.int .i64 n, .pointer (some ⟨b1, 0, none⟩), .pointer (some ⟨b2, 0, none⟩)] w fun e w' => e = .returned (.bool (!inB n lo hi)) ∧ Below w.heap.size w w' := by
  unfold inB
  by_cases g1 : lo ≤ n <;> by_cases g2 : n ≤ hi
  all_goals
    go_enter Try.func124, Try.ntmps124
    go_wp2
    go_ret
    exact ⟨by simp [*], Below.refl _ _⟩

theorem within_any (lo hi : Int) (v : Value) (zs : List Int) (w : World) (h : RdI w v zs) :
    Calls Try.prog 99 #[.int .i64 lo, .int .i64 hi, v] w fun e w' => e = .returned (.bool (zs.all fun n => inB n lo hi)) ∧ Below w.heap.size w w' := by
  have hall : (zs.all fun n => inB n lo hi) = !(zs.any fun n => !inB n lo hi) := by simp [List.any_eq_not_all_not]
  rw [hall]
  clear hall
  have HC := Lib.hid (fun u (q : RdI u v zs) b1 b2 (l1 : b1 < u.heap.size) (l2 : b2 < u.heap.size) (c1 : u.cell? ⟨b1, 0, none⟩ = some (.int .i64 lo)) (c2 : u.cell? ⟨b2, 0, none⟩ = some (.int .i64 hi)) =>
    containsFuncI_any v zs 124 (enters_of Try.func124 (by kernel_rfl) rfl) #[.pointer (some ⟨b1, 0, none⟩), .pointer (some ⟨b2, 0, none⟩)] (fun n => !inB n lo hi) u q
      (fun k hk w1 hb => outside_any zs[k] lo hi b1 b2 w1 (by rw [kept_cell hb b1 0 l1]; exact c1) (by rw [kept_cell hb b2 0 l2]; exact c2)))
  obtain ⟨hl, A, c, rfl, r1⟩ := h
  have H := Lib.hid (show RdI w (.slice A zs.length c) zs from ⟨hl, A, c, rfl, r1⟩); clear r1
  generalize (zs.any fun n => !inB n lo hi) = X at *
  have hmf : ∀ (fn : Fn) (first cap : Array Value) (w : World), (Instr.makeFunc fn first cap).run Try.prog w = .ok (.func fn first cap) w := fun _ _ _ _ => rfl
  go_enter Try.func99, Try.ntmps99
  go_wp2_with fail
  refine (HC.out _ (RdI_kept H.out (by go_grown)) w.heap.size (w.heap.size + 1) (by simp; try omega) (by simp) (by simp) (by simp)).mono ?_
  rintro e w1 ⟨rfl, hb1⟩
  have b1 := kept_trans (a := w) (by go_grown) hb1
  go_wp2
  go_ret
  exact ⟨rfl, b1⟩

/-- The slice value reads as a list of truth values. -/
def RdT (w : World) (v : Value) (zs : List Bool) : Prop :=
  zs.length ≤ 9223372036854775807 ∧ ∃ A c, v = .slice A zs.length c ∧ ∀ k, (hk : k < zs.length) → ∃ b off, A = some ⟨b, off, none⟩ ∧ b < w.heap.size ∧ w.cell? ⟨b, off + k, none⟩ = some (.bool zs[k])

theorem RdT_of (w : World) (g c : Nat) (zs : List Bool) (hl : zs.length ≤ 9223372036854775807) (hg : g < w.heap.size) (hc : ∀ k, (hk : k < zs.length) → w.cell? ⟨g, k, none⟩ = some (.bool zs[k])) : RdT w (.slice (some ⟨g, 0, none⟩) zs.length c) zs :=
  ⟨hl, _, _, rfl, fun k hk => ⟨g, 0, rfl, hg, by rw [Nat.zero_add]; exact hc k hk⟩⟩

theorem RdT_kept {W w1 : World} {v : Value} {zs : List Bool} (h : RdT W v zs) (hb : Below W.heap.size W w1) : RdT w1 v zs := by
  obtain ⟨hl, A, c, rfl, hr⟩ := h
  refine ⟨hl, A, c, rfl, fun k hk => ?_⟩
  obtain ⟨b, off, e, hlt, hc⟩ := hr k hk
  exact ⟨b, off, e, Nat.lt_of_lt_of_le hlt hb.size, by rw [kept_cell hb b _ hlt]; exact hc⟩

theorem rdT1 {w : World} {g c : Nat} {x : Bool} (hg : g < w.heap.size) (h0 : w.cell? ⟨g, 0, none⟩ = some (.bool x)) : RdT w (.slice (some ⟨g, 0, none⟩) 1 c) [x] :=
  RdT_of w g c [x] (by simp) hg (fun k hk => by simp at hk; subst hk; exact h0)

theorem rdT2 {w : World} {g c : Nat} {x y : Bool} (hg : g < w.heap.size) (h0 : w.cell? ⟨g, 0, none⟩ = some (.bool x)) (h1 : w.cell? ⟨g, 1, none⟩ = some (.bool y)) : RdT w (.slice (some ⟨g, 0, none⟩) 2 c) [x, y] :=
  RdT_of w g c [x, y] (by simp) hg (fun k hk => by
    match k, hk with
    | 0, _ => exact h0
    | 1, _ => exact h1)

theorem rdT3 {w : World} {g c : Nat} {x y z : Bool} (hg : g < w.heap.size) (h0 : w.cell? ⟨g, 0, none⟩ = some (.bool x)) (h1 : w.cell? ⟨g, 1, none⟩ = some (.bool y)) (h2 : w.cell? ⟨g, 2, none⟩ = some (.bool z)) : RdT w (.slice (some ⟨g, 0, none⟩) 3 c) [x, y, z] :=
  RdT_of w g c [x, y, z] (by simp) hg (fun k hk => by
    match k, hk with
    | 0, _ => exact h0
    | 1, _ => exact h1
    | 2, _ => exact h2)

theorem indexT_any (v : Value) (zs : List Bool) (w : World) (h : RdT w v zs) :
    Calls Try.prog 122 #[v, .bool false] w fun e w' => e = .returned (.int .i64 (idxL (fun x => !x) zs)) ∧ Below w.heap.size w w' := by
  obtain ⟨hl, A, c, rfl, r1⟩ := h
  have R := Lib.hid r1; clear r1
  have HIS := Lib.hid (fun k (h : k < zs.length) => @idxL_is _ (fun x : Bool => !x) zs k h)
  have HNO := Lib.hid (@idxL_none _ (fun x : Bool => !x) zs)
  generalize idxL (fun x : Bool => !x) zs = G at *
  go_enter Try.func122, Try.ntmps122
  go_wp2_with fail
  go_loopw [8] (fun i wr => ∃ k : Nat, k ≤ zs.length ∧ i = .int .i64 k ∧ (∀ j (hj : j < zs.length), j < k → (!zs[j]) = false) ∧ Below w.heap.size w wr) (fun i _ => zs.length - (intOf i).toNat)
  case atStart => exact ⟨0, by omega, rfl, fun j _ h => by omega, Below.refl _ _⟩
  case round =>
    obtain ⟨k, hk, rfl, hall, hb⟩ := hrel
    by_cases hlt : k < zs.length
    · obtain ⟨b, off, rfl, hbl, hc0⟩ := R.out k hlt
      rw [← kept_cell hb b _ hbl] at hc0
      cases hp : zs[k]
      · have hE := HIS.out k hlt (by rw [hp]; rfl) hall
        subst hE
        rw [hp] at hc0
        clear hp hall
        go_wp2
        go_ret
        exact ⟨rfl, hb⟩
      · have hnx : ∀ j (hj : j < zs.length), j < k + 1 → (!zs[j]) = false := fun j hj hjk => by
          rcases Nat.lt_or_ge j k with h1 | h1
          · exact hall j hj h1
          · obtain rfl : j = k := by omega
            rw [hp]; rfl
        have HNX := Lib.hid hnx; clear hnx hall
        rw [hp] at hc0
        clear hp
        go_wp2
        go_roundw
        case rel => exact ⟨k + 1, by omega, by go_num, HNX.out, hb⟩
        case measure => simp [intOf]; omega
    · have : k = zs.length := by omega
      subst this
      have hE := HNO.out (fun j hj => hall j hj hj)
      clear hall
      subst hE
      go_wp2
      go_ret
      exact ⟨rfl, hb⟩

theorem containsT_any (v : Value) (zs : List Bool) (w : World) (h : RdT w v zs) :
    Calls Try.prog 98 #[v, .bool false] w fun e w' => e = .returned (.bool (zs.any fun x => !x)) ∧ Below w.heap.size w w' := by
  have H := Lib.hid (indexT_any v zs w h)
  obtain ⟨hl, A, c, rfl, r1⟩ := h
  clear r1
  have hbd := idxL_bd (fun x : Bool => !x) zs
  rw [← idxL_any]
  generalize idxL (fun x : Bool => !x) zs = G at *
  go_enter Try.func98, Try.ntmps98
  go_wp2_with fail
  refine H.out.mono ?_
  rintro e w1 ⟨rfl, hb1⟩
  go_wp2
  go_ret
  exact ⟨rfl, hb1⟩

theorem four (p0 p1 p2 p3 : Bool) : p0 = false ∨ (p0 = true ∧ p1 = false) ∨ (p0 = true ∧ p1 = true ∧ p2 = false) ∨ (p0 = true ∧ p1 = true ∧ p2 = true ∧ p3 = false) ∨ (p0 = true ∧ p1 = true ∧ p2 = true ∧ p3 = true) := by
  cases p0 <;> cases p1 <;> cases p2 <;> cases p3 <;> simp

set_option maxHeartbeats 1000000 in
theorem implVB_any (s m b j a c d : Int) (w : World) :
    Calls Try.prog 97 #[.agg #[.int .i64 s, .int .i64 m, .int .i64 b, .int .i64 j, .int .i64 a, .int .i64 c, .int .i64 d]] w fun e w' => e = .returned (.bool (baseB s m b j a c d)) ∧ Below w.heap.size w w' := by
  have e1 : baseB s m b j a c d = ([s].all (fun n => inB n 10 200) && [m].all (fun n => inB n 1 500000) && [b, j, c].all (fun n => inB n 0 500000) && [a, d].all (fun n => inB n 0 1000)) := by simp [baseB, Bool.and_assoc]
  rw [e1]; clear e1
  have H0 := fun v u q => within_any 10 200 v [s] u q
  have H1 := fun v u q => within_any 1 500000 v [m] u q
  have H2 := fun v u q => within_any 0 500000 v [b, j, c] u q
  have H3 := fun v u q => within_any 0 1000 v [a, d] u q
  generalize [s].all (fun n => inB n 10 200) = p0 at *
  generalize [m].all (fun n => inB n 1 500000) = p1 at *
  generalize [b, j, c].all (fun n => inB n 0 500000) = p2 at *
  generalize [a, d].all (fun n => inB n 0 1000) = p3 at *
  rcases four p0 p1 p2 p3 with rfl | ⟨rfl, rfl⟩ | ⟨rfl, rfl, rfl⟩ | ⟨rfl, rfl, rfl, rfl⟩ | ⟨rfl, rfl, rfl, rfl⟩
  all_goals
    have H0 := Lib.hid H0
    have H1 := Lib.hid H1
    have H2 := Lib.hid H2
    have H3 := Lib.hid H3
  case inl =>
    go_enter Try.func97, Try.ntmps97
    go_wp2_with fail
    refine (H0.out _ _ (rdI1 (by go_size) (by go_simp))).mono ?_
    rintro e w1 ⟨rfl, hb1⟩
    refine kept_at hb1 w.heap.size (by go_size) fun c1_0 z1_0 s1_0 => ?_
    have b1 := kept_trans (a := w) (by go_grown) hb1
    go_wp2
    go_ret
    exact ⟨rfl, b1⟩
  case inr.inl =>
    go_enter Try.func97, Try.ntmps97
    go_wp2_with fail
    refine (H0.out _ _ (rdI1 (by go_size) (by go_simp))).mono ?_
    rintro e w1 ⟨rfl, hb1⟩
    refine kept_at hb1 w.heap.size (by go_size) fun c1_0 z1_0 s1_0 => ?_
    have b1 := kept_trans (a := w) (by go_grown) hb1
    go_wp2_with fail
    refine (H1.out _ _ (rdI1 (by go_size) (by go_simp))).mono ?_
    rintro e w2 ⟨rfl, hb2⟩
    refine kept_at hb2 w.heap.size (by go_size) fun c2_0 z2_0 s2_0 => ?_
    have b2 := kept_trans (a := w) (by go_grown) hb2
    go_wp2
    go_ret
    exact ⟨rfl, b2⟩
  case inr.inr.inl =>
    go_enter Try.func97, Try.ntmps97
    go_wp2_with fail
    refine (H0.out _ _ (rdI1 (by go_size) (by go_simp))).mono ?_
    rintro e w1 ⟨rfl, hb1⟩
    refine kept_at hb1 w.heap.size (by go_size) fun c1_0 z1_0 s1_0 => ?_
    have b1 := kept_trans (a := w) (by go_grown) hb1
    go_wp2_with fail
    refine (H1.out _ _ (rdI1 (by go_size) (by go_simp))).mono ?_
    rintro e w2 ⟨rfl, hb2⟩
    refine kept_at hb2 w.heap.size (by go_size) fun c2_0 z2_0 s2_0 => ?_
    have b2 := kept_trans (a := w) (by go_grown) hb2
    go_wp2_with fail
    refine (H2.out _ _ (rdI3 (by go_size) (by go_simp) (by go_simp) (by go_simp))).mono ?_
    rintro e w3 ⟨rfl, hb3⟩
    refine kept_at hb3 w.heap.size (by go_size) fun c3_0 z3_0 s3_0 => ?_
    have b3 := kept_trans (a := w) (by go_grown) hb3
    go_wp2
    go_ret
    exact ⟨rfl, b3⟩
  all_goals
    go_enter Try.func97, Try.ntmps97
    go_wp2_with fail
    refine (H0.out _ _ (rdI1 (by go_size) (by go_simp))).mono ?_
    rintro e w1 ⟨rfl, hb1⟩
    refine kept_at hb1 w.heap.size (by go_size) fun c1_0 z1_0 s1_0 => ?_
    have b1 := kept_trans (a := w) (by go_grown) hb1
    go_wp2_with fail
    refine (H1.out _ _ (rdI1 (by go_size) (by go_simp))).mono ?_
    rintro e w2 ⟨rfl, hb2⟩
    refine kept_at hb2 w.heap.size (by go_size) fun c2_0 z2_0 s2_0 => ?_
    have b2 := kept_trans (a := w) (by go_grown) hb2
    go_wp2_with fail
    refine (H2.out _ _ (rdI3 (by go_size) (by go_simp) (by go_simp) (by go_simp))).mono ?_
    rintro e w3 ⟨rfl, hb3⟩
    refine kept_at hb3 w.heap.size (by go_size) fun c3_0 z3_0 s3_0 => ?_
    have b3 := kept_trans (a := w) (by go_grown) hb3
    go_wp2_with fail
    refine (H3.out _ _ (rdI2 (by go_size) (by go_simp) (by go_simp))).mono ?_
    rintro e w4 ⟨rfl, hb4⟩
    have b4 := kept_trans (a := w) (by go_grown) hb4
    go_wp2
    go_ret
    exact ⟨rfl, b4⟩

theorem validLoad_any (n : Int) (w : World) :
    Calls Try.prog 65 #[.int .i64 n] w fun e w' => e = .returned (.bool (inB n 0 50000)) ∧ Below w.heap.size w w' := by
  have H := fun v u q => within_any 0 50000 v [n] u q
  rw [show ([n].all fun n => inB n 0 50000) = inB n 0 50000 by simp] at H
  have H := Lib.hid H
  generalize inB n 0 50000 = p at *
  go_enter Try.func65, Try.ntmps65
  go_wp2_with fail
  refine (H.out _ _ (rdI1 (by go_size) (by go_simp))).mono ?_
  rintro e w1 ⟨rfl, hb1⟩
  have b1 := kept_trans (a := w) (by go_grown) hb1
  go_wp2
  go_ret
  exact ⟨rfl, b1⟩

theorem validRadius_any (n : Int) (w : World) :
    Calls Try.prog 63 #[.int .i64 n] w fun e w' => e = .returned (.bool (inB n 0 1000)) ∧ Below w.heap.size w w' := by
  have H := fun v u q => within_any 0 1000 v [n] u q
  rw [show ([n].all fun n => inB n 0 1000) = inB n 0 1000 by simp] at H
  have H := Lib.hid H
  generalize inB n 0 1000 = p at *
  go_enter Try.func63, Try.ntmps63
  go_wp2_with fail
  refine (H.out _ _ (rdI1 (by go_size) (by go_simp))).mono ?_
  rintro e w1 ⟨rfl, hb1⟩
  have b1 := kept_trans (a := w) (by go_grown) hb1
  go_wp2
  go_ret
  exact ⟨rfl, b1⟩

theorem validPercent_any (n : Int) (w : World) :
    Calls Try.prog 57 #[.int .i64 n] w fun e w' => e = .returned (.bool (inB n 100 1000)) ∧ Below w.heap.size w w' := by
  have H := fun v u q => within_any 100 1000 v [n] u q
  rw [show ([n].all fun n => inB n 100 1000) = inB n 100 1000 by simp] at H
  have H := Lib.hid H
  generalize inB n 100 1000 = p at *
  go_enter Try.func57, Try.ntmps57
  go_wp2_with fail
  refine (H.out _ _ (rdI1 (by go_size) (by go_simp))).mono ?_
  rintro e w1 ⟨rfl, hb1⟩
  have b1 := kept_trans (a := w) (by go_grown) hb1
  go_wp2
  go_ret
  exact ⟨rfl, b1⟩

theorem baseCode_any (s m b j a c d : Int) (v : Value) (zs : List Bool) (w : World) (h : RdT w v zs) :
    Calls Try.prog 56 #[.agg #[.int .i64 s, .int .i64 m, .int .i64 b, .int .i64 j, .int .i64 a, .int .i64 c, .int .i64 d], v] w fun e w' => e = .returned (.int .i64 (codeL3 (baseB s m b j a c d) zs)) ∧ Below w.heap.size w w' := by
  have HB := fun u => implVB_any s m b j a c d u
  have HC := fun u (q : RdT u v zs) => containsT_any v zs u q
  have hE : codeL3 (baseB s m b j a c d) zs = if baseB s m b j a c d = true then (if (zs.any fun x => !x) = true then 2 else 0) else 1 := by
    unfold codeL3
    have : (zs.any fun x => !x) = !(zs.all id) := by simp [List.any_eq_not_all_not]; rfl
    rw [this]
    cases baseB s m b j a c d <;> cases zs.all id <;> rfl
  rw [hE]
  clear hE
  have H := Lib.hid h
  obtain ⟨hl, A, cp, rfl, _⟩ := h
  generalize baseB s m b j a c d = p at *
  generalize (zs.any fun x => !x) = q at *
  cases p
  case false =>
    have HB := Lib.hid HB
    clear HC
    go_enter Try.func56, Try.ntmps56
    go_wp2_with fail
    refine (HB.out _).mono ?_
    rintro e w1 ⟨rfl, hb1⟩
    have b1 := kept_trans (a := w) (by go_grown) hb1
    go_wp2
    go_ret
    exact ⟨rfl, b1⟩
  cases q
  all_goals
    have HB := Lib.hid HB
    have HC := Lib.hid HC
    go_enter Try.func56, Try.ntmps56
    go_wp2_with fail
    refine (HB.out _).mono ?_
    rintro e w1 ⟨rfl, hb1⟩
    have b1 := kept_trans (a := w) (by go_grown) hb1
    go_wp2_with fail
    refine (HC.out _ (RdT_kept H.out b1)).mono ?_
    rintro e w2 ⟨rfl, hb2⟩
    have b2 := kept_trans b1 hb2
    go_wp2
    go_ret
    exact ⟨rfl, b2⟩

theorem loaded_any (s m b j a c d : Int) (l r : Int) (w : World) (hv : baseB s m b j a c d = true) (hl : inB l 0 50000 = true) (hr : inB r 0 1000 = true) :
    Calls Try.prog 100 #[.agg #[.int .i64 s, .int .i64 m, .int .i64 b, .int .i64 j, .int .i64 a, .int .i64 c, .int .i64 d], .int .i64 l, .int .i64 r] w fun e w' => e = .returned (.tuple #[.int .i64 (totL m b j c l), .int .i64 (tipL j a c d l r)]) ∧ Below w.heap.size w w' := by
  obtain ⟨m0, m1, m2⟩ := tip_parts hv hl hr
  have hb := base_bd hv
  have hi := inB_true hl
  unfold totL tipL
  clear hv hl hr
  have w1 : IntKind.i64.wrap (l * r) = l * r := IntWalk.i64_in _ (by omega)
  have w2 : IntKind.i64.wrap (j * a) = j * a := IntWalk.i64_in _ (by omega)
  have w3 : IntKind.i64.wrap (c * d) = c * d := IntWalk.i64_in _ (by omega)
  have v1 : wrap64 (l * r) = l * r := IntWalk.wrap64_in _ (by omega)
  have v2 : wrap64 (j * a) = j * a := IntWalk.wrap64_in _ (by omega)
  have v3 : wrap64 (c * d) = c * d := IntWalk.wrap64_in _ (by omega)
  go_enter Try.func100, Try.ntmps100
  go_wp2
  go_ret2
  exact ⟨by simp [*], by go_grown⟩

theorem stance_any (s m b j a c d : Int) (l r : Int) (w : World) (hv : baseB s m b j a c d = true) (hl : inB l 0 50000 = true) (hr : inB r 0 1000 = true) :
    Calls Try.prog 59 #[.agg #[.int .i64 s, .int .i64 m, .int .i64 b, .int .i64 j, .int .i64 a, .int .i64 c, .int .i64 d], .int .i64 l, .int .i64 r] w fun e w' => e = .returned (.agg #[.int .i64 s, .int .i64 (totL m b j c l), .int .i64 (tiltL (tipL j a c d l r))]) ∧ Below w.heap.size w w' := by
  have HL := Lib.hid (fun u => loaded_any s m b j a c d l r u hv hl hr)
  have hS := stab_parts hv hl hr (q := 0) (by simp [inB])
  clear hv hl hr
  unfold tiltL at *
  generalize totL m b j c l = T at *
  generalize tipL j a c d l r = M at *
  obtain ⟨s0, s1, s2, _⟩ := hS
  go_enter Try.func59, Try.ntmps59
  go_wp2_with fail
  refine (HL.out _).mono ?_
  rintro e w1 ⟨rfl, hb1⟩
  refine kept_at hb1 w.heap.size (by go_size) fun c1_0 z1_0 s1_0 => ?_
  refine kept_at hb1 (w.heap.size + 1) (by go_size) fun c1_1 z1_1 s1_1 => ?_
  have b1 := kept_trans (a := w) (by go_grown) hb1
  go_wp2
  all_goals
    (try simp only [Exit.inBlock, Exit.then])
    refine bodyPost_ret (v := .agg #[.int .i64 s, .int .i64 T, .int .i64 (max M (-M))]) ?_ rfl ⟨rfl, ?_⟩
    · rw [results_cell1 rfl]
      go_simp
      try omega
    · exact (by first | (go_grown; done) | (refine kept_drewN ?_ _; go_grown; done) | (go_grown; refine kept_drewN ?_ _; go_grown))

theorem safe_any (s T A q : Int) (w : World) (h1 : 0 ≤ 100 * T * s ∧ 100 * T * s ≤ 41000000000) (h2 : 0 ≤ 2 * q * A ∧ 2 * q * A ≤ 1100000000000) (hT : 0 ≤ T ∧ T ≤ 2050000) (hq : 0 ≤ q ∧ q ≤ 1000) :
    Calls Try.prog 60 #[.agg #[.int .i64 s, .int .i64 T, .int .i64 A], .int .i64 q] w fun e w' => e = .returned (.bool (decide (2 * q * A ≤ 100 * T * s))) ∧ Below w.heap.size w w' := by
  have v1 : wrap64 (100 * T) = 100 * T := IntWalk.wrap64_in _ (by omega)
  have v2 : wrap64 (100 * T * s) = 100 * T * s := IntWalk.wrap64_in _ (by omega)
  have v3 : wrap64 (2 * q) = 2 * q := IntWalk.wrap64_in _ (by omega)
  have v4 : wrap64 (2 * q * A) = 2 * q * A := IntWalk.wrap64_in _ (by omega)
  have w1 : IntKind.i64.wrap (100 * T) = 100 * T := IntWalk.i64_in _ (by omega)
  have w2 : IntKind.i64.wrap (100 * T * s) = 100 * T * s := IntWalk.i64_in _ (by omega)
  have w3 : IntKind.i64.wrap (2 * q) = 2 * q := IntWalk.i64_in _ (by omega)
  have w4 : IntKind.i64.wrap (2 * q * A) = 2 * q * A := IntWalk.i64_in _ (by omega)
  go_enter Try.func60, Try.ntmps60
  go_wp2
  go_ret
  exact ⟨by simp [*], by go_grown⟩

theorem in_wide {q : Int} (h : inB q 100 1000 = true) : inB q 0 1000 = true := by
  have := inB_true h
  simp [inB]; omega

/-- What IsStable returns. -/
def isL (s m b j a c d : Int) (l r q : Int) : Bool × Int := if codeL3 (baseB s m b j a c d) [inB l 0 50000, inB r 0 1000, inB q 100 1000] = 0 then (stabB s m b j a c d l r q, 0) else (false, codeL3 (baseB s m b j a c d) [inB l 0 50000, inB r 0 1000, inB q 100 1000])

set_option maxHeartbeats 2000000 in
theorem implIS_any (s m b j a c d : Int) (l r q : Int) (w : World) :
    Calls Try.prog 24 #[.agg #[.int .i64 s, .int .i64 m, .int .i64 b, .int .i64 j, .int .i64 a, .int .i64 c, .int .i64 d], .int .i64 l, .int .i64 r, .int .i64 q] w fun e w' => e = .returned (.tuple #[.bool (isL s m b j a c d l r q).1, .int .i64 (isL s m b j a c d l r q).2]) ∧ Below w.heap.size w w' := by
  have HC := fun u v (x : RdT u v [inB l 0 50000, inB r 0 1000, inB q 100 1000]) => baseCode_any s m b j a c d v [inB l 0 50000, inB r 0 1000, inB q 100 1000] u x
  unfold isL
  by_cases hK : codeL3 (baseB s m b j a c d) [inB l 0 50000, inB r 0 1000, inB q 100 1000] = 0
  · rw [hK] at HC
    rw [if_pos hK]
    obtain ⟨hv, hbs⟩ := codeL3_ok hK
    have hl : inB l 0 50000 = true := hbs _ (by simp)
    have hr : inB r 0 1000 = true := hbs _ (by simp)
    have hq : inB q 0 1000 = true := in_wide (hbs _ (by simp))
    have HC := Lib.hid (fun u v x => HC u v x)
    have HT := Lib.hid (fun u => stance_any s m b j a c d l r u hv hl hr)
    have hS := stab_parts hv hl hr hq
    have gq := inB_true hq
    unfold stabB
    clear hK hbs hv hl hr hq
    generalize totL m b j c l = T at *
    generalize tipL j a c d l r = M at *
    obtain ⟨s0, s1, s2, s3, s4, _⟩ := hS
    generalize tiltL M = A at *
    have HF := Lib.hid (fun u => safe_any s T A q u s3 s4 s0 gq)
    go_enter Try.func24, Try.ntmps24
    go_wp2_with fail
    first
      | go_region_held3 (fun w' => w'.cell? ⟨w.heap.size, 0, none⟩ = some (.int .i64 s) ∧ w'.cell? ⟨w.heap.size, 1, none⟩ = some (.int .i64 m) ∧ w'.cell? ⟨w.heap.size, 2, none⟩ = some (.int .i64 b) ∧ w'.cell? ⟨w.heap.size, 3, none⟩ = some (.int .i64 j) ∧ w'.cell? ⟨w.heap.size, 4, none⟩ = some (.int .i64 a) ∧ w'.cell? ⟨w.heap.size, 5, none⟩ = some (.int .i64 c) ∧ w'.cell? ⟨w.heap.size, 6, none⟩ = some (.int .i64 d)) (go_keep) (first
          | (go_at_call 65; refine (validLoad_any _ _).mono ?_; rintro e w1 ⟨rfl, hb1⟩; refine kept_at hb1 (w.heap.size) (by go_size) fun c1_0 z1_0 s1_0 => ?_; have b1 := kept_trans (a := w) (by go_grown) hb1)
          | (go_at_call 63; refine (validRadius_any _ _).mono ?_; rintro e w2 ⟨rfl, hb2⟩; refine kept_at hb2 (w.heap.size) (by go_size) fun c2_0 z2_0 s2_0 => ?_; have b2 := kept_trans (a := w) (by go_grown) hb2)
          | (go_at_call 57; refine (validPercent_any _ _).mono ?_; rintro e w3 ⟨rfl, hb3⟩; refine kept_at hb3 (w.heap.size) (by go_size) fun c3_0 z3_0 s3_0 => ?_; have b3 := kept_trans (a := w) (by go_grown) hb3)
          | (go_at_call 56; refine (HC.out _ _ (rdT3 (by go_size) (by go_simp) (by go_simp) (by go_simp))).mono ?_; rintro e w4 ⟨rfl, hb4⟩; refine kept_at hb4 (w.heap.size) (by go_size) fun c4_0 z4_0 s4_0 => ?_; have b4 := kept_trans (a := w) (by go_grown) hb4))
      | fail
    all_goals
      go_wp2_with fail
      refine (HT.out _).mono ?_
      rintro e w8 ⟨rfl, hb8⟩
      refine kept_at hb8 w.heap.size (by go_size) fun c8_0 z8_0 s8_0 => ?_
      have b8 := kept_trans (a := w) (by go_grown) hb8
      go_wp2_with fail
      refine (HF.out _).mono ?_
      rintro e w9 ⟨rfl, hb9⟩
      refine kept_at hb9 w.heap.size (by go_size) fun c9_0 z9_0 s9_0 => ?_
      have b9 := kept_trans (a := w) (by go_grown) hb9
      go_wp2
      go_ret2
      exact ⟨rfl, by go_grown⟩
  · rw [if_neg hK]
    have hK1 : (codeL3 (baseB s m b j a c d) [inB l 0 50000, inB r 0 1000, inB q 100 1000] == 0) = false := by simpa using hK
    have hK2 : (codeL3 (baseB s m b j a c d) [inB l 0 50000, inB r 0 1000, inB q 100 1000] != 0) = true := by simpa using hK
    generalize codeL3 (baseB s m b j a c d) [inB l 0 50000, inB r 0 1000, inB q 100 1000] = K at *
    have HC := Lib.hid (fun u v x => HC u v x)
    go_enter Try.func24, Try.ntmps24
    go_wp2_with fail
    first
      | go_region_held3 (fun w' => w'.cell? ⟨w.heap.size, 0, none⟩ = some (.int .i64 s) ∧ w'.cell? ⟨w.heap.size, 1, none⟩ = some (.int .i64 m) ∧ w'.cell? ⟨w.heap.size, 2, none⟩ = some (.int .i64 b) ∧ w'.cell? ⟨w.heap.size, 3, none⟩ = some (.int .i64 j) ∧ w'.cell? ⟨w.heap.size, 4, none⟩ = some (.int .i64 a) ∧ w'.cell? ⟨w.heap.size, 5, none⟩ = some (.int .i64 c) ∧ w'.cell? ⟨w.heap.size, 6, none⟩ = some (.int .i64 d)) (go_keep) (first
          | (go_at_call 65; refine (validLoad_any _ _).mono ?_; rintro e w1 ⟨rfl, hb1⟩; refine kept_at hb1 (w.heap.size) (by go_size) fun c1_0 z1_0 s1_0 => ?_; have b1 := kept_trans (a := w) (by go_grown) hb1)
          | (go_at_call 63; refine (validRadius_any _ _).mono ?_; rintro e w2 ⟨rfl, hb2⟩; refine kept_at hb2 (w.heap.size) (by go_size) fun c2_0 z2_0 s2_0 => ?_; have b2 := kept_trans (a := w) (by go_grown) hb2)
          | (go_at_call 57; refine (validPercent_any _ _).mono ?_; rintro e w3 ⟨rfl, hb3⟩; refine kept_at hb3 (w.heap.size) (by go_size) fun c3_0 z3_0 s3_0 => ?_; have b3 := kept_trans (a := w) (by go_grown) hb3)
          | (go_at_call 56; refine (HC.out _ _ (rdT3 (by go_size) (by go_simp) (by go_simp) (by go_simp))).mono ?_; rintro e w4 ⟨rfl, hb4⟩; refine kept_at hb4 (w.heap.size) (by go_size) fun c4_0 z4_0 s4_0 => ?_; have b4 := kept_trans (a := w) (by go_grown) hb4))
      | fail
    all_goals
      go_wp2
      go_ret2
      exact ⟨rfl, by go_grown⟩

theorem downL_hit {p : Int → Bool} {k : Nat} (h : p (50 * (k : Int)) = true) : downL p k = 50 * (k : Int) := by
  cases k with
  | zero => unfold downL; simp at h ⊢; exact h
  | succ k => unfold downL; rw [if_pos h]

theorem downL_miss0 {p : Int → Bool} (h : p (50 * ((0 : Nat) : Int)) = false) : downL p 0 = -1 := by
  unfold downL
  simp at h
  simp [h]

theorem downL_miss {p : Int → Bool} {k : Nat} (h : p (50 * ((k + 1 : Nat) : Int)) = false) : downL p (k + 1) = downL p k := by
  rw [downL, if_neg (by rw [h]; simp)]

/-- The greatest load with which a crane has a safety at a radius; -1 if there is none. -/
def glL (s m b j a c d : Int) (r q : Int) : Int := downL (fun l => stabB s m b j a c d l r q) 1000

/-- How far the search has come. -/
def GlR (p : Int → Bool) (x : Int) : Prop := (∃ k : Nat, k ≤ 1000 ∧ x = 50 * (k : Int) ∧ downL p 1000 = downL p k) ∨ x = -50 ∧ downL p 1000 = -1

theorem GlR_next {p : Int → Bool} {k : Nat} (hk : k ≤ 1000) (he : downL p 1000 = downL p k) (h : p (50 * (k : Int)) = false) : GlR p (50 * (k : Int) - 50) := by
  cases k with
  | zero => exact Or.inr ⟨by simp, by rw [he]; exact downL_miss0 h⟩
  | succ k => exact Or.inl ⟨k, by omega, by omega, by rw [he]; exact downL_miss h⟩

theorem load_in {k : Nat} (hk : k ≤ 1000) : inB (50 * (k : Int)) 0 50000 = true := by simp [inB]; omega

theorem specGl_any (p : Nat) (s m b j a c d : Int) (r q : Int) (w : World) (h : BaAt w p s m b j a c d) (hv : baseB s m b j a c d = true) (hr : inB r 0 1000 = true) (hq : inB q 0 1000 = true) :
    Calls Try.prog 54 #[.pointer (some ⟨p, 0, none⟩), .int .i64 r, .int .i64 q] w fun e w' => e = .returned (.int .i64 (glL s m b j a c d r q)) ∧ Below w.heap.size w w' := by
  obtain ⟨P, hP⟩ : ∃ P : Int → Bool, ∀ l, P l = stabB s m b j a c d l r q := ⟨_, fun _ => rfl⟩
  have hgl : glL s m b j a c d r q = downL P 1000 := by unfold glL; congr 1; funext l; exact (hP l).symm
  rw [hgl]
  have HP : ∀ l, inB l 0 50000 = true → ∀ u, Below w.heap.size w u → Calls Try.prog 55 #[.pointer (some ⟨p, 0, none⟩), .int .i64 l, .int .i64 r, .int .i64 q] u fun e w' => e = .returned (.bool (P l)) ∧ ∃ n, w' = u.drewN n := fun l hl u hb => by
    rw [hP l]
    exact specStable_any p s m b j a c d l r q u (BaAt_kept h hb) hv hl hr hq
  have HP := Lib.hid HP
  clear h hv hr hq hP hgl
  have HD := Lib.hid (rfl : downL P 1000 = downL P 1000)
  generalize hG : downL P 1000 = G at *
  have HG := Lib.hid hG; clear hG HD
  go_enter Try.func54, Try.ntmps54
  go_wp2_with fail
  go_loopw [7] (fun x wr => ∃ y : Int, x = .int .i64 y ∧ GlR P y ∧ Below w.heap.size w wr) (fun x _ => (intOf x + 50).toNat)
  case atStart => exact ⟨50000, rfl, Or.inl ⟨1000, by omega, rfl, rfl⟩, Below.refl _ _⟩
  case round =>
    obtain ⟨y, rfl, hy, hb⟩ := hrel
    rcases hy with ⟨k, hk, rfl, he⟩ | ⟨rfl, he⟩
    · have hc := HP.out _ (load_in hk) wr hb
      have hnx := GlR_next hk he
      rw [HG.out] at he
      cases hp : P (50 * (k : Int))
      · have hnx := Lib.hid (hnx hp)
        rw [hp] at hc
        have HC := Lib.hid hc; clear hc he hp
        go_wp2_with fail
        refine HC.out.mono ?_
        rintro e w1 ⟨rfl, n, rfl⟩
        go_wp2
        go_roundw
        case rel => exact ⟨50 * (k : Int) - 50, by go_num, hnx.out, kept_drewN hb _⟩
        case measure => simp [intOf]; omega
      · rw [hp] at hc
        have HC := Lib.hid hc; clear hc hnx
        rw [downL_hit hp] at he
        clear hp
        subst he
        go_wp2_with fail
        refine HC.out.mono ?_
        rintro e w1 ⟨rfl, n, rfl⟩
        go_wp2
        go_ret
        exact ⟨rfl, kept_drewN hb _⟩
    · rw [HG.out] at he
      subst he
      go_wp2
      go_ret
      exact ⟨rfl, hb⟩

/-- The load of a search and whether there is one. -/
theorem glL_bd (s m b j a c d : Int) (r q : Int) : glL s m b j a c d r q = -1 ∨ (0 ≤ glL s m b j a c d r q ∧ glL s m b j a c d r q ≤ 50000 ∧ stabB s m b j a c d (glL s m b j a c d r q) r q = true) := by
  have := downL_bd (fun l => stabB s m b j a c d l r q) 1000
  unfold glL
  rcases this with h | ⟨h1, h2, h3⟩
  · exact Or.inl h
  · exact Or.inr ⟨h1, by omega, h3⟩

theorem implGl_any (s m b j a c d : Int) (r q : Int) (w : World) (hv : baseB s m b j a c d = true) (hr : inB r 0 1000 = true) (hq : inB q 0 1000 = true) :
    Calls Try.prog 58 #[.agg #[.int .i64 s, .int .i64 m, .int .i64 b, .int .i64 j, .int .i64 a, .int .i64 c, .int .i64 d], .int .i64 r, .int .i64 q] w fun e w' => e = .returned (.tuple #[.int .i64 (if glL s m b j a c d r q = -1 then 0 else glL s m b j a c d r q), .bool (decide (glL s m b j a c d r q ≠ -1))]) ∧ Below w.heap.size w w' := by
  obtain ⟨P, hP⟩ : ∃ P : Int → Bool, ∀ l, P l = stabB s m b j a c d l r q := ⟨_, fun _ => rfl⟩
  have hgl : glL s m b j a c d r q = downL P 1000 := by unfold glL; congr 1; funext l; exact (hP l).symm
  rw [hgl]
  have HT : ∀ l, inB l 0 50000 = true → ∃ T A : Int, (∀ u, Calls Try.prog 59 #[.agg #[.int .i64 s, .int .i64 m, .int .i64 b, .int .i64 j, .int .i64 a, .int .i64 c, .int .i64 d], .int .i64 l, .int .i64 r] u fun e w' => e = .returned (.agg #[.int .i64 s, .int .i64 T, .int .i64 A]) ∧ Below u.heap.size u w') ∧
      ∀ u, Calls Try.prog 60 #[.agg #[.int .i64 s, .int .i64 T, .int .i64 A], .int .i64 q] u fun e w' => e = .returned (.bool (P l)) ∧ Below u.heap.size u w' := fun l hl => by
    have hS := stab_parts hv hl hr hq
    refine ⟨_, _, fun u => stance_any s m b j a c d l r u hv hl hr, fun u => ?_⟩
    rw [hP l]
    exact safe_any s _ _ q u hS.2.2.2.1 hS.2.2.2.2.1 hS.1 (inB_true hq)
  have HT := Lib.hid HT
  clear hv hr hq hP hgl
  generalize hG : downL P 1000 = G at *
  have HG := Lib.hid hG; clear hG
  have hA := BaAt_new s m b j a c d w
  obtain ⟨a0, a1, a2, a3, a4, a5, a6⟩ := hA
  have HA := Lib.hid (BaAt_new s m b j a c d w)
  clear a0 a1 a2 a3 a4 a5 a6
  go_enter Try.func58, Try.ntmps58
  go_wp2_with fail
  go_loopw [6] (fun x wr => ∃ y : Int, x = .int .i64 y ∧ GlR P y ∧ w.heap.size < wr.heap.size ∧ BaAt wr w.heap.size s m b j a c d ∧ Below w.heap.size w wr) (fun x _ => (intOf x + 50).toNat)
  case atStart => exact ⟨50000, rfl, Or.inl ⟨1000, by omega, rfl, rfl⟩, by simp, HA.out, by go_grown⟩
  case round =>
    obtain ⟨y, rfl, hy, hsz, hba, hb⟩ := hrel
    rcases hy with ⟨k, hk, rfl, he⟩ | ⟨rfl, he⟩
    · obtain ⟨T, A, ht, hs⟩ := HT.out _ (load_in hk)
      have hnx := GlR_next hk he
      rw [HG.out] at he
      have HB := Lib.hid hba
      obtain ⟨a0, a1, a2, a3, a4, a5, a6⟩ := hba
      have HTT := Lib.hid ht; clear ht
      cases hp : P (50 * (k : Int))
      · have hnx := Lib.hid (hnx hp)
        rw [hp] at hs
        have HS := Lib.hid hs; clear hs he hp
        go_wp2_with fail
        refine (HTT.out _).mono ?_
        rintro e w1 ⟨rfl, hb1⟩
        go_wp2_with fail
        refine (HS.out _).mono ?_
        rintro e w2 ⟨rfl, hb2⟩
        have hb3 := kept_trans hb1 hb2
        go_wp2
        go_roundw
        case rel => exact ⟨50 * (k : Int) - 50, by go_num, hnx.out, Nat.lt_of_lt_of_le hsz hb3.size, BaAt_kept HB.out hb3, kept_trans hb hb3⟩
        case measure => simp [intOf]; omega
      · rw [hp] at hs
        have HS := Lib.hid hs; clear hs hnx
        rw [downL_hit hp] at he
        clear hp
        subst he
        go_wp2_with fail
        refine (HTT.out _).mono ?_
        rintro e w1 ⟨rfl, hb1⟩
        go_wp2_with fail
        refine (HS.out _).mono ?_
        rintro e w2 ⟨rfl, hb2⟩
        have hb3 := kept_trans hb1 hb2
        go_wp2
        all_goals first
          | (exfalso; omega)
          | (go_ret2; exact ⟨rfl, kept_trans hb hb3⟩)
    · rw [HG.out] at he
      subst he
      clear hba
      go_wp2
      go_ret2
      exact ⟨rfl, hb⟩

/-- What GreatestLoad returns. -/
def glAll (s m b j a c d : Int) (r q : Int) : Int × Int := if codeL3 (baseB s m b j a c d) [inB r 0 1000, inB q 100 1000] = 0 then (if glL s m b j a c d r q = -1 then (0, 3) else (glL s m b j a c d r q, 0)) else (0, codeL3 (baseB s m b j a c d) [inB r 0 1000, inB q 100 1000])

set_option maxHeartbeats 1000000 in
theorem specGL_any (s m b j a c d : Int) (r q : Int) (w : World) :
    Calls Try.prog 21 #[.agg #[.int .i64 s, .int .i64 m, .int .i64 b, .int .i64 j, .int .i64 a, .int .i64 c, .int .i64 d], .int .i64 r, .int .i64 q] w fun e w' => e = .returned (.tuple #[.int .i64 (glAll s m b j a c d r q).1, .int .i64 (glAll s m b j a c d r q).2]) ∧ Below w.heap.size w w' := by
  have HA := Lib.hid (BaAt_new s m b j a c d w)
  have HC := fun u (x : BaAt u w.heap.size s m b j a c d) => specAsked_any w.heap.size s m b j a c d 0 r q u x
  rw [show codeL3 (baseB s m b j a c d) [inB 0 0 50000, inB r 0 1000, inB q 100 1000] = codeL3 (baseB s m b j a c d) [inB r 0 1000, inB q 100 1000] from by simp [codeL3, inB]] at HC
  unfold glAll
  by_cases hK : codeL3 (baseB s m b j a c d) [inB r 0 1000, inB q 100 1000] = 0
  · rw [hK] at HC
    rw [if_pos hK]
    obtain ⟨hv, hbs⟩ := codeL3_ok hK
    have hr : inB r 0 1000 = true := hbs _ (by simp)
    have hq : inB q 0 1000 = true := in_wide (hbs _ (by simp))
    have HC := Lib.hid HC
    have HG := fun u (x : BaAt u w.heap.size s m b j a c d) => specGl_any w.heap.size s m b j a c d r q u x hv hr hq
    have hbd := glL_bd s m b j a c d r q
    clear hK hbs hv hr hq
    generalize glL s m b j a c d r q = G at *
    have hbd : G = -1 ∨ 0 ≤ G := by rcases hbd with h | h; exact Or.inl h; exact Or.inr h.1
    rcases hbd with rfl | h0
    · rw [if_pos rfl]
      have HG := Lib.hid HG
      go_enter Try.func21, Try.ntmps21
      go_wp2_with fail
      refine (HC.out _ (BaAt_kept HA.out (by first | (go_grown; done) | (refine kept_drewN ?_ _; go_grown; done) | (go_grown; refine kept_drewN ?_ _; go_grown)))).mono ?_
      rintro e w1 ⟨rfl, rfl⟩
      go_wp2_with fail
      refine (HG.out _ (BaAt_kept HA.out (by first | (go_grown; done) | (refine kept_drewN ?_ _; go_grown; done) | (go_grown; refine kept_drewN ?_ _; go_grown)))).mono ?_
      rintro e w2 ⟨rfl, hb2⟩
      have b2 := kept_trans (a := w) (by go_grown) hb2
      go_wp2
      go_ret2
      exact ⟨rfl, b2⟩
    · rw [if_neg (by omega)]
      have HG := Lib.hid HG
      go_enter Try.func21, Try.ntmps21
      go_wp2_with fail
      refine (HC.out _ (BaAt_kept HA.out (by first | (go_grown; done) | (refine kept_drewN ?_ _; go_grown; done) | (go_grown; refine kept_drewN ?_ _; go_grown)))).mono ?_
      rintro e w1 ⟨rfl, rfl⟩
      go_wp2_with fail
      refine (HG.out _ (BaAt_kept HA.out (by first | (go_grown; done) | (refine kept_drewN ?_ _; go_grown; done) | (go_grown; refine kept_drewN ?_ _; go_grown)))).mono ?_
      rintro e w2 ⟨rfl, hb2⟩
      have b2 := kept_trans (a := w) (by go_grown) hb2
      go_wp2
      go_ret2
      exact ⟨rfl, b2⟩
  · rw [if_neg hK]
    have hK1 : (codeL3 (baseB s m b j a c d) [inB r 0 1000, inB q 100 1000] == 0) = false := by simpa using hK
    have hK2 : (codeL3 (baseB s m b j a c d) [inB r 0 1000, inB q 100 1000] != 0) = true := by simpa using hK
    generalize codeL3 (baseB s m b j a c d) [inB r 0 1000, inB q 100 1000] = K at *
    have HC := Lib.hid HC
    go_enter Try.func21, Try.ntmps21
    go_wp2_with fail
    refine (HC.out _ (BaAt_kept HA.out (by first | (go_grown; done) | (refine kept_drewN ?_ _; go_grown; done) | (go_grown; refine kept_drewN ?_ _; go_grown)))).mono ?_
    rintro e w1 ⟨rfl, rfl⟩
    go_wp2
    go_ret2
    exact ⟨rfl, by go_grown⟩

set_option maxHeartbeats 2000000 in
theorem implGL_any (s m b j a c d : Int) (r q : Int) (w : World) :
    Calls Try.prog 22 #[.agg #[.int .i64 s, .int .i64 m, .int .i64 b, .int .i64 j, .int .i64 a, .int .i64 c, .int .i64 d], .int .i64 r, .int .i64 q] w fun e w' => e = .returned (.tuple #[.int .i64 (glAll s m b j a c d r q).1, .int .i64 (glAll s m b j a c d r q).2]) ∧ Below w.heap.size w w' := by
  have HC := fun u v (x : RdT u v [inB r 0 1000, inB q 100 1000]) => baseCode_any s m b j a c d v [inB r 0 1000, inB q 100 1000] u x
  unfold glAll
  by_cases hK : codeL3 (baseB s m b j a c d) [inB r 0 1000, inB q 100 1000] = 0
  · rw [hK] at HC
    rw [if_pos hK]
    obtain ⟨hv, hbs⟩ := codeL3_ok hK
    have hr : inB r 0 1000 = true := hbs _ (by simp)
    have hq : inB q 0 1000 = true := in_wide (hbs _ (by simp))
    have HC := Lib.hid (fun u v x => HC u v x)
    have HG := fun u => implGl_any s m b j a c d r q u hv hr hq
    have hbd := glL_bd s m b j a c d r q
    clear hK hbs hv hr hq
    generalize glL s m b j a c d r q = G at *
    have hbd : G = -1 ∨ 0 ≤ G := by rcases hbd with h | h; exact Or.inl h; exact Or.inr h.1
    rcases hbd with rfl | h0
    · rw [if_pos rfl]
      simp only [if_pos] at HG
      have HG := Lib.hid HG
      go_enter Try.func22, Try.ntmps22
      go_wp2_with fail
      first
        | go_region_held3 (fun w' => w'.cell? ⟨w.heap.size, 0, none⟩ = some (.int .i64 s) ∧ w'.cell? ⟨w.heap.size, 1, none⟩ = some (.int .i64 m) ∧ w'.cell? ⟨w.heap.size, 2, none⟩ = some (.int .i64 b) ∧ w'.cell? ⟨w.heap.size, 3, none⟩ = some (.int .i64 j) ∧ w'.cell? ⟨w.heap.size, 4, none⟩ = some (.int .i64 a) ∧ w'.cell? ⟨w.heap.size, 5, none⟩ = some (.int .i64 c) ∧ w'.cell? ⟨w.heap.size, 6, none⟩ = some (.int .i64 d)) (go_keep) (first
            | (go_at_call 63; refine (validRadius_any _ _).mono ?_; rintro e w1 ⟨rfl, hb1⟩; refine kept_at hb1 w.heap.size (by go_size) fun c1_0 z1_0 s1_0 => ?_; have b1 := kept_trans (a := w) (by go_grown) hb1)
            | (go_at_call 57; refine (validPercent_any _ _).mono ?_; rintro e w2 ⟨rfl, hb2⟩; refine kept_at hb2 w.heap.size (by go_size) fun c2_0 z2_0 s2_0 => ?_; have b2 := kept_trans (a := w) (by go_grown) hb2)
            | (go_at_call 56; refine (HC.out _ _ (rdT2 (by go_size) (by go_simp) (by go_simp))).mono ?_; rintro e w3 ⟨rfl, hb3⟩; refine kept_at hb3 w.heap.size (by go_size) fun c3_0 z3_0 s3_0 => ?_; have b3 := kept_trans (a := w) (by go_grown) hb3))
        | fail
      all_goals
        go_wp2_with fail
        refine (HG.out _).mono ?_
        rintro e w9 ⟨rfl, hb9⟩
        have b9 := kept_trans (a := w) (by go_grown) hb9
        go_wp2
        go_ret2
        exact ⟨rfl, b9⟩
    · rw [if_neg (by omega)]
      rw [if_neg (by omega), show decide (G ≠ -1) = true by simp; omega] at HG
      have HG := Lib.hid HG
      go_enter Try.func22, Try.ntmps22
      go_wp2_with fail
      first
        | go_region_held3 (fun w' => w'.cell? ⟨w.heap.size, 0, none⟩ = some (.int .i64 s) ∧ w'.cell? ⟨w.heap.size, 1, none⟩ = some (.int .i64 m) ∧ w'.cell? ⟨w.heap.size, 2, none⟩ = some (.int .i64 b) ∧ w'.cell? ⟨w.heap.size, 3, none⟩ = some (.int .i64 j) ∧ w'.cell? ⟨w.heap.size, 4, none⟩ = some (.int .i64 a) ∧ w'.cell? ⟨w.heap.size, 5, none⟩ = some (.int .i64 c) ∧ w'.cell? ⟨w.heap.size, 6, none⟩ = some (.int .i64 d)) (go_keep) (first
            | (go_at_call 63; refine (validRadius_any _ _).mono ?_; rintro e w1 ⟨rfl, hb1⟩; refine kept_at hb1 w.heap.size (by go_size) fun c1_0 z1_0 s1_0 => ?_; have b1 := kept_trans (a := w) (by go_grown) hb1)
            | (go_at_call 57; refine (validPercent_any _ _).mono ?_; rintro e w2 ⟨rfl, hb2⟩; refine kept_at hb2 w.heap.size (by go_size) fun c2_0 z2_0 s2_0 => ?_; have b2 := kept_trans (a := w) (by go_grown) hb2)
            | (go_at_call 56; refine (HC.out _ _ (rdT2 (by go_size) (by go_simp) (by go_simp))).mono ?_; rintro e w3 ⟨rfl, hb3⟩; refine kept_at hb3 w.heap.size (by go_size) fun c3_0 z3_0 s3_0 => ?_; have b3 := kept_trans (a := w) (by go_grown) hb3))
        | fail
      all_goals
        go_wp2_with fail
        refine (HG.out _).mono ?_
        rintro e w9 ⟨rfl, hb9⟩
        have b9 := kept_trans (a := w) (by go_grown) hb9
        go_wp2
        go_ret2
        exact ⟨rfl, b9⟩
  · rw [if_neg hK]
    have hK1 : (codeL3 (baseB s m b j a c d) [inB r 0 1000, inB q 100 1000] == 0) = false := by simpa using hK
    have hK2 : (codeL3 (baseB s m b j a c d) [inB r 0 1000, inB q 100 1000] != 0) = true := by simpa using hK
    generalize codeL3 (baseB s m b j a c d) [inB r 0 1000, inB q 100 1000] = K at *
    have HC := Lib.hid (fun u v x => HC u v x)
    go_enter Try.func22, Try.ntmps22
    go_wp2_with fail
    first
      | go_region_held3 (fun w' => w'.cell? ⟨w.heap.size, 0, none⟩ = some (.int .i64 s) ∧ w'.cell? ⟨w.heap.size, 1, none⟩ = some (.int .i64 m) ∧ w'.cell? ⟨w.heap.size, 2, none⟩ = some (.int .i64 b) ∧ w'.cell? ⟨w.heap.size, 3, none⟩ = some (.int .i64 j) ∧ w'.cell? ⟨w.heap.size, 4, none⟩ = some (.int .i64 a) ∧ w'.cell? ⟨w.heap.size, 5, none⟩ = some (.int .i64 c) ∧ w'.cell? ⟨w.heap.size, 6, none⟩ = some (.int .i64 d)) (go_keep) (first
          | (go_at_call 63; refine (validRadius_any _ _).mono ?_; rintro e w1 ⟨rfl, hb1⟩; refine kept_at hb1 w.heap.size (by go_size) fun c1_0 z1_0 s1_0 => ?_; have b1 := kept_trans (a := w) (by go_grown) hb1)
          | (go_at_call 57; refine (validPercent_any _ _).mono ?_; rintro e w2 ⟨rfl, hb2⟩; refine kept_at hb2 w.heap.size (by go_size) fun c2_0 z2_0 s2_0 => ?_; have b2 := kept_trans (a := w) (by go_grown) hb2)
          | (go_at_call 56; refine (HC.out _ _ (rdT2 (by go_size) (by go_simp) (by go_simp))).mono ?_; rintro e w3 ⟨rfl, hb3⟩; refine kept_at hb3 w.heap.size (by go_size) fun c3_0 z3_0 s3_0 => ?_; have b3 := kept_trans (a := w) (by go_grown) hb3))
      | fail
    all_goals
      go_wp2
      go_ret2
      exact ⟨rfl, by go_grown⟩

/-- What SafeChart returns. -/
noncomputable def scAll (s m b j a c d : Int) (zs : List (Int × Int)) (q : Int) : List (Int × Int) × Int :=
  if (baseB s m b j a c d && chartB zs) = true then (if inB q 100 1000 = true then (if safeL (fun r => glL s m b j a c d r q) (fun l r => stabB s m b j a c d l r q) 50000 zs = [] then ([], 3) else (safeL (fun r => glL s m b j a c d r q) (fun l r => stabB s m b j a c d l r q) 50000 zs, 0)) else ([], 2)) else ([], 1)

theorem safeL_stop {g : Int → Int} {p : Int → Int → Bool} {l : Int} {zs : List (Int × Int)} {k : Nat} (hk : k < zs.length) (h : g zs[k].1 < 0 ∨ p (min (min zs[k].2 (g zs[k].1)) l) zs[k].1 = false) : safeL g p l (zs.drop k) = [] := by
  rw [List.drop_eq_getElem_cons hk, safeL, if_pos h]

theorem safeL_go {g : Int → Int} {p : Int → Int → Bool} {l : Int} {zs : List (Int × Int)} {k : Nat} (hk : k < zs.length) (h1 : 0 ≤ g zs[k].1) (h2 : p (min (min zs[k].2 (g zs[k].1)) l) zs[k].1 = true) :
    safeL g p l (zs.drop k) = (zs[k].1, min (min zs[k].2 (g zs[k].1)) l) :: safeL g p (min (min zs[k].2 (g zs[k].1)) l) (zs.drop (k + 1)) := by
  rw [List.drop_eq_getElem_cons hk, safeL, if_neg (by rw [h2]; simp; omega)]

theorem safeL_end {g : Int → Int} {p : Int → Int → Bool} {l : Int} {zs : List (Int × Int)} : safeL g p l (zs.drop zs.length) = [] := by
  rw [List.drop_eq_nil_of_le (Nat.le_refl _), safeL]

theorem safeL_len (g : Int → Int) (p : Int → Int → Bool) (l : Int) (zs : List (Int × Int)) : (safeL g p l zs).length ≤ zs.length := by
  induction zs generalizing l with
  | nil => simp [safeL]
  | cons z zs ih =>
    unfold safeL
    split
    · simp
    · have := ih (min (min z.2 (g z.1)) l)
      simp only [List.length_cons]
      omega

/-- How far a safe chart has come: k steps, us; l: the load before; R: the whole. -/
def ScR (g : Int → Int) (p : Int → Int → Bool) (zs R : List (Int × Int)) (k : Nat) (us : List (Int × Int)) (l : Int) : Prop :=
  k ≤ zs.length ∧ us.length = k ∧ R = us ++ safeL g p l (zs.drop k) ∧ (0 ≤ l ∧ l ≤ 50000) ∧ (k = 0 → l = 50000) ∧ (0 < k → ∃ x, us[k - 1]? = some (x, l))

theorem ScR_go {g : Int → Int} {p : Int → Int → Bool} {zs R : List (Int × Int)} {k : Nat} {us : List (Int × Int)} {l : Int} (h : ScR g p zs R k us l) (hk : k < zs.length) (h1 : 0 ≤ g zs[k].1) (hy : 0 ≤ zs[k].2) (h2 : p (min (min zs[k].2 (g zs[k].1)) l) zs[k].1 = true) :
    ScR g p zs R (k + 1) (us ++ [(zs[k].1, min (min zs[k].2 (g zs[k].1)) l)]) (min (min zs[k].2 (g zs[k].1)) l) := by
  obtain ⟨a1, a2, a3, a4, a5, a6⟩ := h
  refine ⟨by omega, by simp [a2], ?_, by omega, by omega, fun _ => ⟨zs[k].1, ?_⟩⟩
  · rw [a3, safeL_go hk h1 h2]; simp
  · rw [Nat.add_sub_cancel, List.getElem?_append_right (by omega), a2, Nat.sub_self]; rfl

set_option maxHeartbeats 4000000 in
theorem specSC_loop (s m b j a c d : Int) (v : Value) (zs : List (Int × Int)) (q : Int) (g : Int → Int) (p : Int → Int → Bool) (R : List (Int × Int)) (w : World) (h : RdP w v zs) (hv : baseB s m b j a c d = true) (hch : ChartP zs) (hq : inB q 100 1000 = true) (hg : ∀ r, g r = glL s m b j a c d r q) (hp : ∀ l r, p l r = stabB s m b j a c d l r q) (hR : R = safeL g p 50000 zs) :
    Calls Try.prog 18 #[.agg #[.int .i64 s, .int .i64 m, .int .i64 b, .int .i64 j, .int .i64 a, .int .i64 c, .int .i64 d], v, .int .i64 q] w fun e w' => ∃ v', e = .returned (.tuple #[v', .int .i64 (if R = [] then 3 else 0)]) ∧ RowF 35 2 w' w.heap.size w'.heap.size v' R.length (flatP R) ∧ Below w.heap.size w w' := by
  have hqw := in_wide hq
  have HB := fun u (x : BaAt u w.heap.size s m b j a c d) => specBase_any w.heap.size s m b j a c d u x
  have HC := fun u (x : RdP u v zs) => specChart_any v zs u x
  have HQ := fun u => specPercent_any q u
  rw [hv] at HB
  rw [chartB_true hch] at HC
  rw [hq] at HQ
  have HG : ∀ r, inB r 0 1000 = true → ∀ u, BaAt u w.heap.size s m b j a c d → Calls Try.prog 54 #[.pointer (some ⟨w.heap.size, 0, none⟩), .int .i64 r, .int .i64 q] u fun e w' => e = .returned (.int .i64 (g r)) ∧ Below u.heap.size u w' := fun r hr u x => by
    rw [hg]
    exact specGl_any w.heap.size s m b j a c d r q u x hv hr hqw
  have HT : ∀ l r, inB l 0 50000 = true → inB r 0 1000 = true → ∀ u, BaAt u w.heap.size s m b j a c d → Calls Try.prog 55 #[.pointer (some ⟨w.heap.size, 0, none⟩), .int .i64 l, .int .i64 r, .int .i64 q] u fun e w' => e = .returned (.bool (p l r)) ∧ ∃ n, w' = u.drewN n := fun l r hl hr u x => by
    rw [hp]
    exact specStable_any w.heap.size s m b j a c d l r q u x hv hl hr hqw
  have hgb : ∀ r, -1 ≤ g r ∧ g r ≤ 50000 := fun r => by rw [hg]; rcases glL_bd s m b j a c d r q with h | h <;> omega
  have HB := Lib.hid HB
  have HC := Lib.hid HC
  have HQ := Lib.hid HQ
  have HG := Lib.hid HG
  have HT := Lib.hid HT
  have HGB := Lib.hid hgb
  obtain ⟨A, cp, rfl, hln, _⟩ := RdP_slice h
  have hn := hch.2
  have Hat := Lib.hid (fun (k : Nat) (hk : k < zs.length) => hch.1 k hk hk)
  have b0 : Below w.heap.size w (w.alloc (.cells #[.int .i64 s, .int .i64 m, .int .i64 b, .int .i64 j, .int .i64 a, .int .i64 c, .int .i64 d] 39)) := by go_grown
  have H := Lib.hid (RdP_kept h b0)
  have ha := BaAt_new s m b j a c d w
  have hz0 : w.heap.size < (w.alloc (.cells #[.int .i64 s, .int .i64 m, .int .i64 b, .int .i64 j, .int .i64 a, .int .i64 c, .int .i64 d] 39)).heap.size := by simp
  have h0 : ScR g p zs R 0 [] 50000 := ⟨by omega, rfl, by rw [hR]; simp, by omega, fun _ => rfl, fun h => by omega⟩
  have H0 := Lib.hid h0
  clear h hv hch hq hqw hg hp hgb hR h0
  have hk3 : R = [] → (if R = [] then (3 : Int) else 0) = 3 := fun h => if_pos h
  have hk0 : R ≠ [] → (if R = [] then (3 : Int) else 0) = 0 := fun h => if_neg h
  generalize (if R = [] then (3 : Int) else 0) = KK at *
  have HK3 := Lib.hid hk3; clear hk3
  have HK0 := Lib.hid hk0; clear hk0
  go_enter Try.func18, Try.ntmps18
  go_wp2_with fail
  generalize w.alloc (.cells #[.int .i64 s, .int .i64 m, .int .i64 b, .int .i64 j, .int .i64 a, .int .i64 c, .int .i64 d] 39) = w100 at *
  have HA := Lib.hid ha; clear ha
  refine (HB.out _ HA.out).mono ?_
  rintro e w1 ⟨rfl, rfl⟩
  go_wp2_with fail
  refine (HC.out _ H.out).mono ?_
  rintro e w2 ⟨rfl, hb2⟩
  have hz2 := hb2.size
  go_wp2_with fail
  refine (HQ.out _).mono ?_
  rintro e w3 ⟨rfl, rfl⟩
  go_wp2_with fail
  go_loopw [8, 9] (fun o i wr => ∃ (k : Nat) (us : List (Int × Int)) (l : Int) (ov : Value), ov = o ∧ i = .int .i64 k ∧ ScR g p zs R k us l ∧ RowF 35 2 wr w100.heap.size wr.heap.size ov us.length (flatP us) ∧ Below w100.heap.size w100 wr) (fun _ i _ => zs.length - (intOf i).toNat)
  case atStart => exact ⟨0, [], 50000, _, rfl, rfl, H0.out, ⟨World.ownsRow_lit _ #[] 0 hz2 (by decide) (by rfl), fun g hg => by simp [Value.ownBlock] at hg; subst hg; simp; omega⟩, by first | (go_grown; done) | exact hb2.alloc hb2.size _⟩
  case round =>
    obtain ⟨k, us, l, ov, ho, rfl, hsc, hrow, hb⟩ := hrel
    subst ho
    have hsz := hb.size
    obtain ⟨Ao, co, rfl⟩ : ∃ Ao co, ov = .slice Ao us.length co := by
      rcases RowF_form hrow with ⟨e1, _, rfl⟩ | ⟨gb, cap, rfl, _⟩
      · exact ⟨none, 0, by rw [e1]⟩
      · exact ⟨_, _, rfl⟩
    by_cases hlt : k < zs.length
    · obtain ⟨_, b', off, rfl, hbl, hc0, hc1⟩ := rd_at H.out k hlt
      rw [atP_is zs k hlt] at hc0 hc1
      rw [← kept_cell hb b' _ hbl] at hc0 hc1
      have hat := (Hat.out k hlt).1
      have hrb : inB zs[k].1 0 1000 = true := by simp [inB]; omega
      have hg := HG.out zs[k].1 hrb wr (BaAt_kept HA.out hb)
      have hgb := HGB.out zs[k].1
      have hgo := fun h1 h2 => ScR_go hsc hlt h1 (by omega) h2
      have hst := safeL_stop (g := g) (p := p) (l := l) hlt
      obtain ⟨s1, s2, s3, s4, s5, s6⟩ := hsc
      have hT := fun (hG : 0 ≤ g zs[k].1) => HT.out (min (min zs[k].2 (g zs[k].1)) l) zs[k].1 (by simp [inB]; omega) hrb
      have hbl' := Nat.lt_of_lt_of_le hbl hb.size
      have Hgo := Lib.hid hgo; clear hgo
      have Hst := Lib.hid hst; clear hst
      have HTT := Lib.hid hT; clear hT
      have Hg := Lib.hid hg; clear hg
      have Hrow := Lib.hid hrow; clear hrow
      generalize zs[k].1 = x at *
      generalize zs[k].2 = y at *
      generalize hGx : g x = G at *
      have HGx := Lib.hid hGx; clear hGx
      subst s2
      by_cases hk0 : us.length = 0
      · obtain rfl : us = [] := List.eq_nil_of_length_eq_zero hk0
        have hl := s5 rfl
        subst hl
        simp only [List.nil_append, List.length_nil, Nat.zero_mul, Nat.add_zero] at *
        clear s6
        by_cases hneg : G < 0
        · have hR : R = [] := by rw [s3, Hst.out (Or.inl hneg)]
          have hKK := HK3.out hR
          subst hKK
          go_wp2_with fail
          refine Hg.out.mono ?_
          rintro e w4 ⟨rfl, hb4⟩
          refine kept_at hb4 b' (by go_size) fun c4 z4 t4 => ?_
          have b4 := kept_trans hb hb4
          go_wp2
          go_ret2
          subst hR
          exact ⟨_, rfl, RowF_nil _ _ _ _ _, kept_trans b0 b4⟩
        have hTT := HTT.out (by omega)
        generalize hL0 : min (min y G) 50000 = L at *
        have hL : min G y = L := by omega
        clear hL0
        have HL := Lib.hid hL; clear hL
        cases hp : p L x
        · have hR : R = [] := by rw [s3, Hst.out (Or.inr hp)]
          have hKK := HK3.out hR
          subst hKK
          go_wp2_with fail
          refine Hg.out.mono ?_
          rintro e w4 ⟨rfl, hb4⟩
          refine kept_at hb4 b' (by go_size) fun c4 z4 t4 => ?_
          have b4 := kept_trans hb hb4
          go_wp2_with fail
          refine (min_any _ _ _).mono ?_
          rintro e w5 ⟨rfl, rfl⟩
          rw [HL.out]
          have hTU := hTT w4 (BaAt_kept HA.out b4)
          rw [hp] at hTU
          go_wp2_with fail
          refine hTU.mono ?_
          rintro e w7 ⟨rfl, n7, rfl⟩
          go_wp2
          go_ret2
          subst hR
          exact ⟨_, rfl, RowF_nil _ _ _ _ _, kept_trans b0 (kept_drewN b4 _)⟩
        · have hsc := Hgo.out (by omega) hp
          go_wp2_with fail
          refine Hg.out.mono ?_
          rintro e w4 ⟨rfl, hb4⟩
          refine kept_at hb4 b' (by go_size) fun c4 z4 t4 => ?_
          have b4 := kept_trans hb hb4
          go_wp2_with fail
          refine (min_any _ _ _).mono ?_
          rintro e w5 ⟨rfl, rfl⟩
          rw [HL.out]
          have hTU := hTT w4 (BaAt_kept HA.out b4)
          rw [hp] at hTU
          go_wp2_with fail
          refine hTU.mono ?_
          rintro e w7 ⟨rfl, n7, rfl⟩
          go_wp2_with (first | (at_builtin; refine wp_appendP rfl (.tmp 63) (.tmp 71) rfl w100.heap.size _ [] x L rfl (by exact RowF_kept (RowF_kept (RowF_lo Hrow.out (Nat.le_refl _) hb4.size) hb4) (kept_drewN (Below.refl _ _) n7)) rfl (kept_drewN b4 _) (Nat.le_refl _) (Nat.le_trans hsz hb4.size) (by simp) ?_; intro v' w' hrow' hb' _))
          go_roundw
          case rel => exact ⟨_, _, L, _, rfl, by go_num, hsc, hrow', hb'⟩
          case measure => simp [intOf]; omega
      · obtain ⟨m, hm⟩ : ∃ m, us.length = m + 1 := ⟨us.length - 1, by omega⟩
        have hkm : (us.length : Int) - 1 = (m : Int) := by omega
        have hkp : decide (0 < us.length) = true := by simp; omega
        obtain ⟨xp, hxp⟩ := s6 (by omega)
        rw [show us.length - 1 = m by omega] at hxp
        have hmk : m < us.length := by omega
        obtain ⟨gb, rfl, hcp, hgb1⟩ : ∃ gb, Ao = some ⟨gb, 0, none⟩ ∧ wr.cell? ⟨gb, m * 2 + 1, none⟩ = some (.int .i64 l) ∧ gb < wr.heap.size := by
          rcases RowF_form Hrow.out with ⟨e1, _, _⟩ | ⟨gb, cap, e, _, _, hlt, _⟩
          · omega
          · injection e with e1
            subst e1
            refine ⟨gb, rfl, ?_, hlt⟩
            rw [Hrow.out.1.cellAt (m * 2 + 1) (by omega), (flatP_at us m hmk).2]
            rw [List.getElem?_eq_getElem hmk] at hxp
            injection hxp with hxp
            rw [hxp]
        have hne : us ≠ [] := fun e => by rw [e] at hmk; simp at hmk
        have hlen0 : ((us.length : Int) == 0) = false := by simp; exact hne
        have hlen1 : ¬ us.length = 0 := by omega
        clear s5 s6 hxp hm
        by_cases hneg : G < 0
        · have hR : R = us := by rw [s3, Hst.out (Or.inl hneg), List.append_nil]
          have hKK := HK0.out (by rw [hR]; exact hne)
          subst hKK
          go_wp2_with fail
          refine Hg.out.mono ?_
          rintro e w4 ⟨rfl, hb4⟩
          refine kept_at hb4 b' (by go_size) fun c4 z4 t4 => ?_
          have b4 := kept_trans hb hb4
          go_wp2
          go_ret2
          subst hR
          exact ⟨_, rfl, RowF_lo (RowF_kept Hrow.out hb4) (Nat.le_of_lt hz0) (hb4.size), kept_trans b0 b4⟩
        have hTT := HTT.out (by omega)
        generalize hL0 : min (min y G) l = L at *
        have hL : min (min G y) l = L := by omega
        clear hL0
        have HL := Lib.hid hL; clear hL
        cases hp : p L x
        · have hR : R = us := by rw [s3, Hst.out (Or.inr hp), List.append_nil]
          have hKK := HK0.out (by rw [hR]; exact hne)
          subst hKK
          go_wp2_with fail
          refine Hg.out.mono ?_
          rintro e w4 ⟨rfl, hb4⟩
          refine kept_at hb4 b' (by go_size) fun c4 z4 t4 => ?_
          have b4 := kept_trans hb hb4
          go_wp2_with fail
          refine (min_any _ _ _).mono ?_
          rintro e w5 ⟨rfl, rfl⟩
          refine kept_at hb4 gb (by go_size) fun d4 y4 v4 => ?_
          go_wp2_with fail
          refine (min_any _ _ _).mono ?_
          rintro e w6 ⟨rfl, rfl⟩
          rw [HL.out]
          have hTU := hTT w4 (BaAt_kept HA.out b4)
          rw [hp] at hTU
          go_wp2_with fail
          refine hTU.mono ?_
          rintro e w7 ⟨rfl, n7, rfl⟩
          go_wp2
          go_ret2
          subst hR
          exact ⟨_, rfl, RowF_lo (RowF_kept (RowF_kept Hrow.out hb4) (kept_drewN (Below.refl _ _) n7)) (Nat.le_of_lt hz0) (hb4.size), kept_trans b0 (kept_drewN b4 _)⟩
        · have hsc := Hgo.out (by omega) hp
          go_wp2_with fail
          refine Hg.out.mono ?_
          rintro e w4 ⟨rfl, hb4⟩
          refine kept_at hb4 b' (by go_size) fun c4 z4 t4 => ?_
          have b4 := kept_trans hb hb4
          go_wp2_with fail
          refine (min_any _ _ _).mono ?_
          rintro e w5 ⟨rfl, rfl⟩
          refine kept_at hb4 gb (by go_size) fun d4 y4 v4 => ?_
          go_wp2_with fail
          refine (min_any _ _ _).mono ?_
          rintro e w6 ⟨rfl, rfl⟩
          rw [HL.out]
          have hTU := hTT w4 (BaAt_kept HA.out b4)
          rw [hp] at hTU
          go_wp2_with fail
          refine hTU.mono ?_
          rintro e w7 ⟨rfl, n7, rfl⟩
          go_wp2_with (first | (at_builtin; refine wp_appendP rfl (.tmp 63) (.tmp 71) rfl w100.heap.size _ us x L rfl (by exact RowF_kept (RowF_kept (RowF_lo Hrow.out (Nat.le_refl _) hb4.size) hb4) (kept_drewN (Below.refl _ _) n7)) rfl (kept_drewN b4 _) (Nat.le_refl _) (Nat.le_trans hsz hb4.size) (by have := s1; omega) ?_; intro v' w' hrow' hb' _))
          go_roundw
          case rel => exact ⟨_, _, L, _, rfl, by go_num, hsc, hrow', hb'⟩
          case measure => simp [intOf]; omega
    · obtain ⟨s1, s2, s3, s4, s5, s6⟩ := hsc
      have hk : k = zs.length := by omega
      subst hk
      rw [safeL_end, List.append_nil] at s3
      have hne : us ≠ [] := fun e => by rw [e] at s2; simp at s2; omega
      have hlen0 : ((us.length : Int) == 0) = false := by simp; exact hne
      have hlen1 : ¬ us.length = 0 := by omega
      have hKK := HK0.out (by rw [s3]; exact hne)
      subst hKK
      have Hrow := Lib.hid hrow; clear hrow s5 s6 hlt s2
      go_wp2
      go_ret2
      subst s3
      exact ⟨_, rfl, RowF_lo (Hrow.out) (Nat.le_of_lt hz0) (Nat.le_refl _), kept_trans b0 hb⟩

set_option maxHeartbeats 1000000 in
theorem specSC_any (s m b j a c d : Int) (v : Value) (zs : List (Int × Int)) (q : Int) (w : World) (h : RdP w v zs) :
    Calls Try.prog 18 #[.agg #[.int .i64 s, .int .i64 m, .int .i64 b, .int .i64 j, .int .i64 a, .int .i64 c, .int .i64 d], v, .int .i64 q] w fun e w' => ∃ v', e = .returned (.tuple #[v', .int .i64 (scAll s m b j a c d zs q).2]) ∧ RowF 35 2 w' w.heap.size w'.heap.size v' (scAll s m b j a c d zs q).1.length (flatP (scAll s m b j a c d zs q).1) ∧ Below w.heap.size w w' := by
  have HB := fun u (x : BaAt u w.heap.size s m b j a c d) => specBase_any w.heap.size s m b j a c d u x
  have HC := fun u (x : RdP u v zs) => specChart_any v zs u x
  have HQ := fun u => specPercent_any q u
  have b0 : Below w.heap.size w (w.alloc (.cells #[.int .i64 s, .int .i64 m, .int .i64 b, .int .i64 j, .int .i64 a, .int .i64 c, .int .i64 d] 39)) := by go_grown
  have HA := Lib.hid (BaAt_new s m b j a c d w)
  cases hv : baseB s m b j a c d
  · rw [show scAll s m b j a c d zs q = ([], 1) by simp [scAll, hv]]
    rw [hv] at HB
    have HB := Lib.hid HB; clear HC HQ hv
    obtain ⟨A, cp, rfl, _, _⟩ := RdP_slice h
    clear h
    go_enter Try.func18, Try.ntmps18
    go_wp2_with fail
    refine (HB.out _ HA.out).mono ?_
    rintro e w1 ⟨rfl, rfl⟩
    go_wp2
    go_ret2
    exact ⟨_, rfl, RowF_nil _ _ _ _ _, b0⟩
  · by_cases hch : ChartP zs
    · cases hq : inB q 100 1000
      · rw [show scAll s m b j a c d zs q = ([], 2) by simp [scAll, hv, hq, chartB_true hch]]
        rw [hv] at HB
        rw [chartB_true hch] at HC
        rw [hq] at HQ
        have HB := Lib.hid HB
        have HC := Lib.hid HC
        have HQ := Lib.hid HQ
        obtain ⟨A, cp, rfl, _, _⟩ := RdP_slice h
        have H := Lib.hid h; clear h hv hq hch
        go_enter Try.func18, Try.ntmps18
        go_wp2_with fail
        refine (HB.out _ HA.out).mono ?_
        rintro e w1 ⟨rfl, rfl⟩
        go_wp2_with fail
        refine (HC.out _ (RdP_kept H.out b0)).mono ?_
        rintro e w2 ⟨rfl, hb2⟩
        go_wp2_with fail
        refine (HQ.out _).mono ?_
        rintro e w3 ⟨rfl, rfl⟩
        go_wp2
        go_ret2
        exact ⟨_, rfl, RowF_nil _ _ _ _ _, kept_trans b0 hb2⟩
      · have hR := specSC_loop s m b j a c d v zs q (fun r => glL s m b j a c d r q) (fun l r => stabB s m b j a c d l r q) _ w h hv hch hq (fun _ => rfl) (fun _ _ => rfl) rfl
        unfold scAll
        rw [if_pos (by rw [hv, chartB_true hch]; rfl), if_pos hq]
        generalize safeL (fun r => glL s m b j a c d r q) (fun l r => stabB s m b j a c d l r q) 50000 zs = R at *
        by_cases hE : R = []
        · subst hE
          simpa using hR
        · rw [if_neg hE] at hR ⊢
          exact hR
    · rw [show scAll s m b j a c d zs q = ([], 1) by simp [scAll, chartB_false hch]]
      rw [hv] at HB
      rw [chartB_false hch] at HC
      have HB := Lib.hid HB
      have HC := Lib.hid HC
      obtain ⟨A, cp, rfl, _, _⟩ := RdP_slice h
      have H := Lib.hid h; clear h hv hch HQ
      go_enter Try.func18, Try.ntmps18
      go_wp2_with fail
      refine (HB.out _ HA.out).mono ?_
      rintro e w1 ⟨rfl, rfl⟩
      go_wp2_with fail
      refine (HC.out _ (RdP_kept H.out b0)).mono ?_
      rintro e w2 ⟨rfl, hb2⟩
      go_wp2
      go_ret2
      exact ⟨_, rfl, RowF_nil _ _ _ _ _, kept_trans b0 hb2⟩

theorem min3_any {P : Program} (w : World) (ts : Array TypeId) (t : TypeId) (x y z : Int) : (Builtin.min_ ts t #[.int .i64 x, .int .i64 y, .int .i64 z]).run P w = .ok (.int .i64 (min (min x y) z)) w := by
  have e1 : (if y < x then y else x) = min x y := by rw [Int.min_def]; split <;> split <;> omega
  have e2 : (if z < min x y then z else min x y) = min (min x y) z := by rw [Int.min_def (min x y) z]; split <;> split <;> omega
  simp [Builtin.min_, Builtin.min2, e1, e2]

set_option maxHeartbeats 8000000 in
theorem implSC_loop (s m b j a c d : Int) (v : Value) (zs : List (Int × Int)) (q : Int) (g : Int → Int) (p : Int → Int → Bool) (R : List (Int × Int)) (w : World) (h : RdP w v zs) (hv : baseB s m b j a c d = true) (hch : ChartP zs) (hq : inB q 100 1000 = true) (hg : ∀ r, g r = glL s m b j a c d r q) (hp : ∀ l r, p l r = stabB s m b j a c d l r q) (hR : R = safeL g p 50000 zs) :
    Calls Try.prog 19 #[.agg #[.int .i64 s, .int .i64 m, .int .i64 b, .int .i64 j, .int .i64 a, .int .i64 c, .int .i64 d], v, .int .i64 q] w fun e w' => ∃ v', e = .returned (.tuple #[v', .int .i64 (if R = [] then 3 else 0)]) ∧ RowF 35 2 w' w.heap.size w'.heap.size v' R.length (flatP R) ∧ Below w.heap.size w w' := by
  have hqw := in_wide hq
  have HC := fun u (x : RdP u v zs) => implChart_any v zs u x
  have HBC := fun u vv (x : RdT u vv [inB q 100 1000]) => baseCode_any s m b j a c d vv [inB q 100 1000] u x
  rw [chartB_true hch] at HC
  rw [show codeL3 (baseB s m b j a c d) [inB q 100 1000] = 0 by rw [hv, hq]; rfl] at HBC
  have HG1 : ∀ r, g r = -1 → inB r 0 1000 = true → ∀ u, Calls Try.prog 58 #[.agg #[.int .i64 s, .int .i64 m, .int .i64 b, .int .i64 j, .int .i64 a, .int .i64 c, .int .i64 d], .int .i64 r, .int .i64 q] u fun e w' => e = .returned (.tuple #[.int .i64 0, .bool false]) ∧ Below u.heap.size u w' := fun r h1 hr u => by
    have := implGl_any s m b j a c d r q u hv hr hqw
    rw [← hg, h1] at this
    simpa using this
  have HG2 : ∀ r, 0 ≤ g r → inB r 0 1000 = true → ∀ u, Calls Try.prog 58 #[.agg #[.int .i64 s, .int .i64 m, .int .i64 b, .int .i64 j, .int .i64 a, .int .i64 c, .int .i64 d], .int .i64 r, .int .i64 q] u fun e w' => e = .returned (.tuple #[.int .i64 (g r), .bool true]) ∧ Below u.heap.size u w' := fun r h1 hr u => by
    have := implGl_any s m b j a c d r q u hv hr hqw
    rw [← hg, if_neg (by omega), show decide (g r ≠ -1) = true by simp; omega] at this
    exact this
  have HT : ∀ l r, inB l 0 50000 = true → inB r 0 1000 = true → ∃ T A : Int, (∀ u, Calls Try.prog 59 #[.agg #[.int .i64 s, .int .i64 m, .int .i64 b, .int .i64 j, .int .i64 a, .int .i64 c, .int .i64 d], .int .i64 l, .int .i64 r] u fun e w' => e = .returned (.agg #[.int .i64 s, .int .i64 T, .int .i64 A]) ∧ Below u.heap.size u w') ∧
      ∀ u, Calls Try.prog 60 #[.agg #[.int .i64 s, .int .i64 T, .int .i64 A], .int .i64 q] u fun e w' => e = .returned (.bool (p l r)) ∧ Below u.heap.size u w' := fun l r hl hr => by
    have hS := stab_parts hv hl hr hqw
    refine ⟨_, _, fun u => stance_any s m b j a c d l r u hv hl hr, fun u => ?_⟩
    rw [hp l r]
    exact safe_any s _ _ q u hS.2.2.2.1 hS.2.2.2.2.1 hS.1 (inB_true hqw)
  have hgb : ∀ r, -1 ≤ g r ∧ g r ≤ 50000 := fun r => by rw [hg]; rcases glL_bd s m b j a c d r q with h | h <;> omega
  have HC := Lib.hid HC
  have HBC := Lib.hid HBC
  have HG1 := Lib.hid HG1
  have HG2 := Lib.hid HG2
  have HT := Lib.hid HT
  have HGB := Lib.hid hgb
  obtain ⟨A, cp, rfl, hln, _⟩ := RdP_slice h
  have hn := hch.2
  have Hat := Lib.hid (fun (k : Nat) (hk : k < zs.length) => hch.1 k hk hk)
  have b0 : Below w.heap.size w (w.alloc (.cells #[.int .i64 s, .int .i64 m, .int .i64 b, .int .i64 j, .int .i64 a, .int .i64 c, .int .i64 d] 39)) := by go_grown
  have H := Lib.hid (RdP_kept h b0)
  have ha := BaAt_new s m b j a c d w
  have hz0 : w.heap.size < (w.alloc (.cells #[.int .i64 s, .int .i64 m, .int .i64 b, .int .i64 j, .int .i64 a, .int .i64 c, .int .i64 d] 39)).heap.size := by simp
  have h0 : ScR g p zs R 0 [] 50000 := ⟨by omega, rfl, by rw [hR]; simp, by omega, fun _ => rfl, fun h => by omega⟩
  have H0 := Lib.hid h0
  clear h hv hch hq hqw hg hp hgb hR h0
  have hk3 : R = [] → (if R = [] then (3 : Int) else 0) = 3 := fun h => if_pos h
  have hk0 : R ≠ [] → (if R = [] then (3 : Int) else 0) = 0 := fun h => if_neg h
  generalize (if R = [] then (3 : Int) else 0) = KK at *
  have HK3 := Lib.hid hk3; clear hk3
  have HK0 := Lib.hid hk0; clear hk0
  go_enter Try.func19, Try.ntmps19
  go_wp2_with fail
  generalize w.alloc (.cells #[.int .i64 s, .int .i64 m, .int .i64 b, .int .i64 j, .int .i64 a, .int .i64 c, .int .i64 d] 39) = w100 at *
  have HA := Lib.hid ha; clear ha
  refine (HC.out _ H.out).mono ?_
  rintro e w2 ⟨rfl, hb2⟩
  have hz2 := hb2.size
  obtain ⟨a0, a1, a2, a3, a4, a5, a6⟩ := BaAt_kept HA.out hb2
  have hl2 : w.heap.size < w2.heap.size := by omega
  go_wp2_with fail
  first
    | go_region_held3 (fun w' => w'.cell? ⟨w.heap.size, 0, none⟩ = some (.int .i64 s) ∧ w'.cell? ⟨w.heap.size, 1, none⟩ = some (.int .i64 m) ∧ w'.cell? ⟨w.heap.size, 2, none⟩ = some (.int .i64 b) ∧ w'.cell? ⟨w.heap.size, 3, none⟩ = some (.int .i64 j) ∧ w'.cell? ⟨w.heap.size, 4, none⟩ = some (.int .i64 a) ∧ w'.cell? ⟨w.heap.size, 5, none⟩ = some (.int .i64 c) ∧ w'.cell? ⟨w.heap.size, 6, none⟩ = some (.int .i64 d)) (go_keep) (first
        | (go_at_call 57; refine (validPercent_any _ _).mono ?_; rintro e w3 ⟨rfl, hb3⟩; refine kept_at hb3 w.heap.size (by go_size) fun c3_0 z3_0 s3_0 => ?_; have b3 := kept_trans (a := w2) (by go_grown) hb3)
        | (go_at_call 56; refine (HBC.out _ _ (rdT1 (by go_size) (by go_simp))).mono ?_; rintro e w4 ⟨rfl, hb4⟩; refine kept_at hb4 w.heap.size (by go_size) fun c4_0 z4_0 s4_0 => ?_; have b4 := kept_trans (a := w2) (by first | (go_grown; done) | (go_grown; exact b3.size)) hb4))
    | fail
  have b40 := kept_trans hb2 b4
  have hz4 : w100.heap.size ≤ w4.heap.size := b40.size
  clear a0 a1 a2 a3 a4 a5 a6
  go_wp2_with fail
  go_loopw [9, 10, 30] (fun o t i wr => ∃ (k : Nat) (us : List (Int × Int)) (l : Int) (ov : Value), ov = o ∧ i = .int .i64 k ∧ t = .int .i64 l ∧ ScR g p zs R k us l ∧ RowF 35 2 wr w100.heap.size wr.heap.size ov us.length (flatP us) ∧ Below w100.heap.size w100 wr) (fun _ _ i _ => zs.length - (intOf i).toNat)
  case atStart => exact ⟨0, [], 50000, _, rfl, rfl, rfl, H0.out, ⟨World.ownsRow_lit _ #[] 0 hz4 (by decide) (by rfl), fun g hg => by simp [Value.ownBlock] at hg; subst hg; simp; omega⟩, by first | (go_grown; done) | exact b40.alloc b40.size _⟩
  case round =>
    obtain ⟨k, us, l, ov, ho, rfl, rfl, hsc, hrow, hb⟩ := hrel
    subst ho
    have hsz := hb.size
    obtain ⟨Ao, co, rfl⟩ : ∃ Ao co, ov = .slice Ao us.length co := by
      rcases RowF_form hrow with ⟨e1, _, rfl⟩ | ⟨gb, cap, rfl, _⟩
      · exact ⟨none, 0, by rw [e1]⟩
      · exact ⟨_, _, rfl⟩
    by_cases hlt : k < zs.length
    · obtain ⟨_, b', off, rfl, hbl, hc0, hc1⟩ := rd_at H.out k hlt
      rw [atP_is zs k hlt] at hc0 hc1
      rw [← kept_cell hb b' _ hbl] at hc0 hc1
      have hat := (Hat.out k hlt).1
      have hrb : inB zs[k].1 0 1000 = true := by simp [inB]; omega
      have hgb := HGB.out zs[k].1
      have hg1 := fun (h : g zs[k].1 = -1) => HG1.out _ h hrb
      have hg2 := fun (h : 0 ≤ g zs[k].1) => HG2.out _ h hrb
      have hgo := fun h1 h2 => ScR_go hsc hlt h1 (by omega) h2
      have hst := safeL_stop (g := g) (p := p) (l := l) hlt
      obtain ⟨s1, s2, s3, s4, s5, s6⟩ := hsc
      have hT := fun (hG : 0 ≤ g zs[k].1) => HT.out (min (min zs[k].2 (g zs[k].1)) l) zs[k].1 (by simp [inB]; omega) hrb
      have hbl' := Nat.lt_of_lt_of_le hbl hb.size
      have hA := BaAt_kept HA.out hb
      obtain ⟨a0, a1, a2, a3, a4, a5, a6⟩ := hA
      have hla : w.heap.size < wr.heap.size := by omega
      have Hgo := Lib.hid hgo; clear hgo
      have Hst := Lib.hid hst; clear hst
      have HTT := Lib.hid hT; clear hT
      have Hg1 := Lib.hid hg1; clear hg1
      have Hg2 := Lib.hid hg2; clear hg2
      have Hrow := Lib.hid hrow; clear hrow
      generalize zs[k].1 = x at *
      generalize zs[k].2 = y at *
      generalize hGx : g x = G at *
      have HGx := Lib.hid hGx; clear hGx
      subst s2
      clear s5 s6
      by_cases hneg : G < 0
      · have hR : R = us := by rw [s3, Hst.out (Or.inl hneg), List.append_nil]
        have hg := Hg1.out (by omega)
        have Hg := Lib.hid hg; clear hg
        have hmin3 : ∀ (ts : Array TypeId) (t : TypeId) (W : World), (Builtin.min_ ts t #[.int .i64 y, .int .i64 0, .int .i64 l]).run Try.prog W = .ok (.int .i64 (min (min y 0) l)) W := fun ts t W => by rw [min3_any]
        go_wp2_with fail
        refine (Hg.out _).mono ?_
        rintro e w5 ⟨rfl, hb5⟩
        refine kept_at hb5 (w.heap.size) (by go_size) fun c5_0 z5_0 s5_0 => ?_
        refine kept_at hb5 (wr.heap.size) (by go_size) fun c5_1 z5_1 s5_1 => ?_
        have b5 := kept_trans (a := wr) (by go_grown) hb5
        by_cases hk0 : us.length = 0
        · obtain rfl : us = [] := List.eq_nil_of_length_eq_zero hk0
          have hKK := HK3.out hR
          subst hKK
          simp only [List.length_nil] at *
          go_wp2
          go_ret2
          subst hR
          exact ⟨_, rfl, RowF_nil _ _ _ _ _, kept_trans b0 (kept_trans hb b5)⟩
        · have hne : us ≠ [] := fun e => by rw [e] at hk0; simp at hk0
          have hlen0 : ((us.length : Int) == 0) = false := by simp; exact hne
          have hKK := HK0.out (by rw [hR]; exact hne)
          subst hKK
          go_wp2
          go_ret2
          subst hR
          exact ⟨_, rfl, RowF_lo (RowF_kept (RowF_lo Hrow.out (Nat.le_refl _) b5.size) b5) (Nat.le_of_lt hz0) (Nat.le_refl _), kept_trans b0 (kept_trans hb b5)⟩
      have hg := Hg2.out (by omega)
      have Hg := Lib.hid hg; clear hg
      obtain ⟨T, AA, hst1, hst2⟩ := HTT.out (by omega)
      generalize hL : min (min y G) l = L at *
      have hmin3 : ∀ (ts : Array TypeId) (t : TypeId) (W : World), (Builtin.min_ ts t #[.int .i64 y, .int .i64 G, .int .i64 l]).run Try.prog W = .ok (.int .i64 L) W := fun ts t W => by rw [min3_any]; rw [hL]
      clear hL
      have HS1 := Lib.hid hst1; clear hst1
      cases hp : p L x
      · rw [hp] at hst2
        have HS2 := Lib.hid hst2; clear hst2
        have hR : R = us := by rw [s3, Hst.out (Or.inr hp), List.append_nil]
        go_wp2_with fail
        refine (Hg.out _).mono ?_
        rintro e w5 ⟨rfl, hb5⟩
        refine kept_at hb5 (w.heap.size) (by go_size) fun c5_0 z5_0 s5_0 => ?_
        refine kept_at hb5 (wr.heap.size) (by go_size) fun c5_1 z5_1 s5_1 => ?_
        have b5 := kept_trans (a := wr) (by go_grown) hb5
        go_wp2_with fail
        refine (HS1.out _).mono ?_
        rintro e w6 ⟨rfl, hb6⟩
        refine kept_at hb6 (w.heap.size) (by go_size) fun c6_0 z6_0 s6_0 => ?_
        refine kept_at hb6 (wr.heap.size) (by go_size) fun c6_1 z6_1 s6_1 => ?_
        have b6 := kept_trans b5 hb6
        go_wp2_with fail
        refine (HS2.out _).mono ?_
        rintro e w7 ⟨rfl, hb7⟩
        refine kept_at hb7 (w.heap.size) (by go_size) fun c7_0 z7_0 s7_0 => ?_
        refine kept_at hb7 (wr.heap.size) (by go_size) fun c7_1 z7_1 s7_1 => ?_
        have b7 := kept_trans b6 hb7
        by_cases hk0 : us.length = 0
        · obtain rfl : us = [] := List.eq_nil_of_length_eq_zero hk0
          have hKK := HK3.out hR
          subst hKK
          simp only [List.length_nil] at *
          go_wp2
          go_ret2
          subst hR
          exact ⟨_, rfl, RowF_nil _ _ _ _ _, kept_trans b0 (kept_trans hb b7)⟩
        · have hne : us ≠ [] := fun e => by rw [e] at hk0; simp at hk0
          have hlen0 : ((us.length : Int) == 0) = false := by simp; exact hne
          have hKK := HK0.out (by rw [hR]; exact hne)
          subst hKK
          go_wp2
          go_ret2
          subst hR
          exact ⟨_, rfl, RowF_lo (RowF_kept (RowF_lo Hrow.out (Nat.le_refl _) b7.size) b7) (Nat.le_of_lt hz0) (Nat.le_refl _), kept_trans b0 (kept_trans hb b7)⟩
      · rw [hp] at hst2
        have HS2 := Lib.hid hst2; clear hst2
        have hsc := Hgo.out (by omega) hp
        go_wp2_with fail
        refine (Hg.out _).mono ?_
        rintro e w5 ⟨rfl, hb5⟩
        refine kept_at hb5 (w.heap.size) (by go_size) fun c5_0 z5_0 s5_0 => ?_
        refine kept_at hb5 (wr.heap.size) (by go_size) fun c5_1 z5_1 s5_1 => ?_
        have b5 := kept_trans (a := wr) (by go_grown) hb5
        go_wp2_with fail
        refine (HS1.out _).mono ?_
        rintro e w6 ⟨rfl, hb6⟩
        refine kept_at hb6 (w.heap.size) (by go_size) fun c6_0 z6_0 s6_0 => ?_
        refine kept_at hb6 (wr.heap.size) (by go_size) fun c6_1 z6_1 s6_1 => ?_
        have b6 := kept_trans b5 hb6
        go_wp2_with fail
        refine (HS2.out _).mono ?_
        rintro e w7 ⟨rfl, hb7⟩
        refine kept_at hb7 (w.heap.size) (by go_size) fun c7_0 z7_0 s7_0 => ?_
        refine kept_at hb7 (wr.heap.size) (by go_size) fun c7_1 z7_1 s7_1 => ?_
        have b7 := kept_trans b6 hb7
        go_wp2_with (first | (at_builtin; refine wp_appendP rfl (.tmp 59) (.tmp 64) rfl w100.heap.size _ us x L rfl (by exact RowF_kept (RowF_lo Hrow.out (Nat.le_refl _) b7.size) b7) rfl (kept_trans hb b7) (Nat.le_refl _) (Nat.le_trans hsz b7.size) (by have := s1; omega) ?_; intro v' w' hrow' hb' _))
        go_roundw
        case rel => exact ⟨_, _, L, _, rfl, by go_num, rfl, hsc, hrow', hb'⟩
        case measure => simp [intOf]; omega
    · obtain ⟨s1, s2, s3, s4, s5, s6⟩ := hsc
      have hk : k = zs.length := by omega
      subst hk
      rw [safeL_end, List.append_nil] at s3
      have hne : us ≠ [] := fun e => by rw [e] at s2; simp at s2; omega
      have hlen0 : ((us.length : Int) == 0) = false := by simp; exact hne
      have hKK := HK0.out (by rw [s3]; exact hne)
      subst hKK
      have Hrow := Lib.hid hrow; clear hrow s5 s6 hlt s2
      go_wp2
      go_ret2
      subst s3
      exact ⟨_, rfl, RowF_lo Hrow.out (Nat.le_of_lt hz0) (Nat.le_refl _), kept_trans b0 hb⟩

set_option maxHeartbeats 2000000 in
theorem implSC_any (s m b j a c d : Int) (v : Value) (zs : List (Int × Int)) (q : Int) (w : World) (h : RdP w v zs) :
    Calls Try.prog 19 #[.agg #[.int .i64 s, .int .i64 m, .int .i64 b, .int .i64 j, .int .i64 a, .int .i64 c, .int .i64 d], v, .int .i64 q] w fun e w' => ∃ v', e = .returned (.tuple #[v', .int .i64 (scAll s m b j a c d zs q).2]) ∧ RowF 35 2 w' w.heap.size w'.heap.size v' (scAll s m b j a c d zs q).1.length (flatP (scAll s m b j a c d zs q).1) ∧ Below w.heap.size w w' := by
  have HC := fun u (x : RdP u v zs) => implChart_any v zs u x
  have HBC := fun u vv (x : RdT u vv [inB q 100 1000]) => baseCode_any s m b j a c d vv [inB q 100 1000] u x
  have b0 : Below w.heap.size w (w.alloc (.cells #[.int .i64 s, .int .i64 m, .int .i64 b, .int .i64 j, .int .i64 a, .int .i64 c, .int .i64 d] 39)) := by go_grown
  by_cases hch : ChartP zs
  · by_cases hK : codeL3 (baseB s m b j a c d) [inB q 100 1000] = 0
    · obtain ⟨hv, hbs⟩ := codeL3_ok hK
      have hq : inB q 100 1000 = true := hbs _ (by simp)
      have hR := implSC_loop s m b j a c d v zs q (fun r => glL s m b j a c d r q) (fun l r => stabB s m b j a c d l r q) _ w h hv hch hq (fun _ => rfl) (fun _ _ => rfl) rfl
      unfold scAll
      rw [if_pos (by rw [hv, chartB_true hch]; rfl), if_pos hq]
      generalize safeL (fun r => glL s m b j a c d r q) (fun l r => stabB s m b j a c d l r q) 50000 zs = R at *
      by_cases hE : R = []
      · subst hE
        simpa using hR
      · rw [if_neg hE] at hR ⊢
        exact hR
    · have hE : scAll s m b j a c d zs q = ([], codeL3 (baseB s m b j a c d) [inB q 100 1000]) := by
        unfold scAll codeL3
        unfold codeL3 at hK
        cases hv : baseB s m b j a c d <;> cases hq : inB q 100 1000 <;> simp [hv, hq, chartB_true hch] at hK ⊢
      rw [hE]
      have hK1 : (codeL3 (baseB s m b j a c d) [inB q 100 1000] == 0) = false := by simpa using hK
      have hK2 : (codeL3 (baseB s m b j a c d) [inB q 100 1000] != 0) = true := by simpa using hK
      generalize codeL3 (baseB s m b j a c d) [inB q 100 1000] = K at *
      rw [chartB_true hch] at HC
      have HC := Lib.hid HC
      have HBC := Lib.hid HBC
      obtain ⟨A, cp, rfl, _, _⟩ := RdP_slice h
      have H := Lib.hid h; clear h hch hE
      have ha := BaAt_new s m b j a c d w
      have hz0 : w.heap.size < (w.alloc (.cells #[.int .i64 s, .int .i64 m, .int .i64 b, .int .i64 j, .int .i64 a, .int .i64 c, .int .i64 d] 39)).heap.size := by simp
      go_enter Try.func19, Try.ntmps19
      go_wp2_with fail
      generalize w.alloc (.cells #[.int .i64 s, .int .i64 m, .int .i64 b, .int .i64 j, .int .i64 a, .int .i64 c, .int .i64 d] 39) = w100 at *
      refine (HC.out _ (RdP_kept H.out b0)).mono ?_
      rintro e w2 ⟨rfl, hb2⟩
      have hz2 := hb2.size
      obtain ⟨a0, a1, a2, a3, a4, a5, a6⟩ := BaAt_kept ha hb2
      clear ha
      have hl2 : w.heap.size < w2.heap.size := by omega
      go_wp2_with fail
      first
        | go_region_held3 (fun w' => w'.cell? ⟨w.heap.size, 0, none⟩ = some (.int .i64 s) ∧ w'.cell? ⟨w.heap.size, 1, none⟩ = some (.int .i64 m) ∧ w'.cell? ⟨w.heap.size, 2, none⟩ = some (.int .i64 b) ∧ w'.cell? ⟨w.heap.size, 3, none⟩ = some (.int .i64 j) ∧ w'.cell? ⟨w.heap.size, 4, none⟩ = some (.int .i64 a) ∧ w'.cell? ⟨w.heap.size, 5, none⟩ = some (.int .i64 c) ∧ w'.cell? ⟨w.heap.size, 6, none⟩ = some (.int .i64 d)) (go_keep) (first
            | (go_at_call 57; refine (validPercent_any _ _).mono ?_; rintro e w3 ⟨rfl, hb3⟩; refine kept_at hb3 w.heap.size (by go_size) fun c3_0 z3_0 s3_0 => ?_; have b3 := kept_trans (a := w2) (by go_grown) hb3)
            | (go_at_call 56; refine (HBC.out _ _ (rdT1 (by go_size) (by go_simp))).mono ?_; rintro e w4 ⟨rfl, hb4⟩; refine kept_at hb4 w.heap.size (by go_size) fun c4_0 z4_0 s4_0 => ?_; have b4 := kept_trans (a := w2) (by first | (go_grown; done) | (go_grown; exact b3.size)) hb4))
        | fail
      go_wp2
      go_ret2
      exact ⟨_, rfl, RowF_nil _ _ _ _ _, kept_trans b0 (kept_trans hb2 b4)⟩
  · rw [show scAll s m b j a c d zs q = ([], 1) by simp [scAll, chartB_false hch]]
    rw [chartB_false hch] at HC
    have HC := Lib.hid HC
    obtain ⟨A, cp, rfl, _, _⟩ := RdP_slice h
    have H := Lib.hid h; clear h hch HBC
    go_enter Try.func19, Try.ntmps19
    go_wp2_with fail
    refine (HC.out _ (RdP_kept H.out b0)).mono ?_
    rintro e w2 ⟨rfl, hb2⟩
    go_wp2
    go_ret2
    exact ⟨_, rfl, RowF_nil _ _ _ _ _, kept_trans b0 hb2⟩

/-- A base that fills a block. -/
def BaBox (w : World) (p : Nat) (s m b j a c d : Int) : Prop := w.heap[p]? = some (.cells #[.int .i64 s, .int .i64 m, .int .i64 b, .int .i64 j, .int .i64 a, .int .i64 c, .int .i64 d] 39 (0, 0))

theorem BaBox_at {w : World} {p : Nat} {s m b j a c d : Int} (h : BaBox w p s m b j a c d) : BaAt w p s m b j a c d :=
  ⟨by rw [cell_of_row w p 0 _ _ _ h]; rfl, by rw [cell_of_row w p 1 _ _ _ h]; rfl, by rw [cell_of_row w p 2 _ _ _ h]; rfl, by rw [cell_of_row w p 3 _ _ _ h]; rfl, by rw [cell_of_row w p 4 _ _ _ h]; rfl, by rw [cell_of_row w p 5 _ _ _ h]; rfl, by rw [cell_of_row w p 6 _ _ _ h]; rfl⟩

theorem BaBox_lt {w : World} {p : Nat} {s m b j a c d : Int} (h : BaBox w p s m b j a c d) : p < w.heap.size := World.block_lt_of_cell? _ _ (BaBox_at h).1

theorem BaBox_kept {W w1 : World} {p : Nat} {s m b j a c d : Int} (h : BaBox W p s m b j a c d) (hb : Below W.heap.size W w1) : BaBox w1 p s m b j a c d := by
  unfold BaBox
  rw [hb.block p (BaBox_lt h)]
  exact h

theorem below_grown {u v : World} (h : Below u.heap.size u v) (row : Option Nat) : u.grownBy v row := ⟨h.os, h.tape, h.output, h.size, fun i hi _ => h.block i hi⟩

/-- A source of choices in block B, its bytes in a block before L, at most N bytes on. -/
def Src (w : World) (L B N : Nat) : Prop := L ≤ B ∧ ∃ A n c, (∀ k, k < n → ∃ b off z, A = some ⟨b, off, none⟩ ∧ b < L ∧ b < w.heap.size ∧ w.cell? ⟨b, off + k, none⟩ = some (.int .u8 z) ∧ 0 ≤ z ∧ z ≤ 255) ∧ n ≤ 1000000 ∧ ∃ M, M ≤ N ∧ SrcAt w B (.slice A n c) M

theorem Src_lt {w : World} {L B N : Nat} (h : Src w L B N) : B < w.heap.size := by
  obtain ⟨_, A, n, c, _, _, M, _, s, _, _, hb⟩ := h
  exact World.block_lt_of_cell? _ _ (cell_of_row w B 1 _ _ _ hb)

theorem Src_grown {w w1 : World} {L B N : Nat} {row : Option Nat} (h : Src w L B N) (hg : w.grownBy w1 row) (hr : ∀ g, row = some g → L ≤ g ∧ g ≠ B) : Src w1 L B N := by
  have hB := Src_lt h
  obtain ⟨hL, A, n, c, hr0, hn, M, hM, s, s0, s1, hb⟩ := h
  refine ⟨hL, A, n, c, fun k hk => ?_, hn, M, hM, s, s0, s1, ?_⟩
  · obtain ⟨b, off, z, e, hlt, hlw, hc, z0, z1⟩ := hr0 k hk
    exact ⟨b, off, z, e, hlt, Nat.lt_of_lt_of_le hlw hg.size, hg.cell hc (fun e => by have := hr b e.symm; omega), z0, z1⟩
  · rw [hg.block B hB (fun e => (hr B e.symm).2 rfl)]
    exact hb

theorem Src_below {w w1 : World} {L B N : Nat} (h : Src w L B N) (hb : Below w.heap.size w w1) : Src w1 L B N := Src_grown h (below_grown hb none) (fun g hg => by cases hg)

theorem Src_set {w : World} {L B N p o : Nat} {v : Value} (h : Src w L B N) (h1 : L ≤ p) (h2 : p ≠ B) : Src (w.setCell ⟨p, o, none⟩ v) L B N := Src_grown h (grown_set _ _ _) (fun g hg => by injection hg with hg; subst hg; exact ⟨h1, h2⟩)

theorem Src_more {w : World} {L B N K : Nat} (h : Src w L B N) (hk : N ≤ K) : Src w L B K := by
  obtain ⟨hL, A, n, c, hr0, hn, M, hM, r⟩ := h
  exact ⟨hL, A, n, c, hr0, hn, M, by omega, r⟩

theorem nextS_any (L B N : Nat) (w : World) (h : Src w L B N) (hN : N < 900000000) :
    Calls Try.prog 118 #[.pointer (some ⟨B, 0, none⟩)] w fun e w' => ∃ x : Int, (0 ≤ x ∧ x ≤ 255) ∧ e = .returned (.int .i64 x) ∧ Src w' L B (N + 1) ∧ w.grownBy w' (some B) := by
  obtain ⟨hL, A, n, c, hr0, hn, M, hM, hs⟩ := h
  have hrb : RdB w A n B := fun k hk => by
    obtain ⟨b, off, z, e, hlt, hlw, hc, z0, z1⟩ := hr0 k hk
    exact ⟨b, off, z, e, hlw, by omega, hc, z0, z1⟩
  refine (next_any B A n c M w hs hrb (by omega) hn).mono ?_
  rintro e w' ⟨x, x0, x1, rfl, hs', hg⟩
  refine ⟨x, ⟨x0, x1⟩, rfl, ⟨hL, A, n, c, fun k hk => ?_, hn, M + 1, by omega, hs'⟩, hg⟩
  obtain ⟨b, off, z, e, hlt, hlw, hc, z0, z1⟩ := hr0 k hk
  exact ⟨b, off, z, e, hlt, Nat.lt_of_lt_of_le hlw hg.size, hg.cell hc (fun e => (show b ≠ B by omega) (by injection e)), z0, z1⟩

theorem pickS_any (L B N : Nat) (m : Int) (w : World) (h : Src w L B N) (hN : N < 800000000) (hm : -1000000 ≤ m ∧ m ≤ 1000000) :
    Calls Try.prog 82 #[.pointer (some ⟨B, 0, none⟩), .int .i64 m] w fun e w' => ∃ x : Int, (0 ≤ x ∧ x ≤ 1000000 ∧ (1 ≤ m → x < m)) ∧ e = .returned (.int .i64 x) ∧ Src w' L B (N + 2) ∧ w.grownBy w' (some B) := by
  by_cases h1 : m ≤ 1
  · go_enter Try.func82, Try.ntmps82
    go_wp2
    go_ret
    exact ⟨0, by omega, rfl, Src_more h (by omega), World.grownBy.refl _ _⟩
  have hne : (m == 0) = false := by simp; omega
  have hm0 : ¬ m = 0 := by omega
  have hm1 : ¬ m = -1 := by omega
  by_cases h2 : 200 < m
  · have H := Lib.hid h; clear h
    go_enter Try.func82, Try.ntmps82
    go_wp2_with fail
    refine (nextS_any L B N _ H.out (by omega)).mono ?_
    rintro e w1 ⟨x, hx, rfl, hs1, hg1⟩
    have HS1 := Lib.hid hs1; clear hs1
    go_wp2_with fail
    refine (nextS_any L B (N + 1) _ HS1.out (by omega)).mono ?_
    rintro e w2 ⟨y, hy, rfl, hs2, hg2⟩
    have hrem : (x * 256 + y).tmod m = (x * 256 + y) % m := tmod_pos _ _ (by omega)
    have h0 := Int.emod_nonneg (x * 256 + y) hm0
    have h1' := Int.emod_lt_of_pos (x * 256 + y) (show 0 < m by omega)
    have HREM := Lib.hid hrem; clear hrem
    have HS2 := Lib.hid hs2; clear hs2
    go_wp2
    go_ret
    refine ⟨(x * 256 + y) % m, ⟨h0, by omega, fun _ => h1'⟩, ?_, HS2.out, grown_step hg1 hg2⟩
    first | rfl | (show Ending.returned _ = _; simp [HREM.out])
  · have H := Lib.hid h; clear h
    go_enter Try.func82, Try.ntmps82
    go_wp2_with fail
    refine (nextS_any L B N _ H.out (by omega)).mono ?_
    rintro e w1 ⟨x, hx, rfl, hs1, hg1⟩
    have hrem : x.tmod m = x % m := tmod_pos _ _ (by omega)
    have h0 := Int.emod_nonneg x hm0
    have h1' := Int.emod_lt_of_pos x (show 0 < m by omega)
    have HREM := Lib.hid hrem; clear hrem
    have HS1 := Lib.hid hs1; clear hs1
    go_wp2
    go_ret
    refine ⟨x % m, ⟨h0, by omega, fun _ => h1'⟩, ?_, Src_more HS1.out (by omega), hg1⟩
    first | rfl | (show Ending.returned _ = _; simp [HREM.out])

theorem oneS_any (L B N : Nat) (m : Int) (w : World) (h : Src w L B N) (hN : N < 800000000) (hm : -1000000 ≤ m ∧ m ≤ 1000000) :
    Calls Try.prog 92 #[.pointer (some ⟨B, 0, none⟩), .int .i64 m] w fun e w' => ∃ x : Bool, e = .returned (.bool x) ∧ Src w' L B (N + 2) ∧ w.grownBy w' (some B) := by
  have H := Lib.hid h; clear h
  go_enter Try.func92, Try.ntmps92
  go_wp2_with fail
  refine (pickS_any L B N m _ H.out (by omega) hm).mono ?_
  rintro e w1 ⟨x, hx, rfl, hs1, hg1⟩
  have HS1 := Lib.hid hs1; clear hs1
  go_wp2
  go_ret
  exact ⟨_, rfl, HS1.out, hg1⟩

theorem amongS_any (L B N : Nat) (v : Value) (zs : List Int) (w : World) (h : Src w L B N) (hN : N < 800000000) (hr : RdI w v zs) (h0 : 1 ≤ zs.length) (h1 : zs.length ≤ 1000) (hv : ∀ A n c, v = .slice A n c → ∀ b off, A = some ⟨b, off, none⟩ → b ≠ B) :
    Calls Try.prog 91 #[.pointer (some ⟨B, 0, none⟩), v] w fun e w' => ∃ x : Int, x ∈ zs ∧ e = .returned (.int .i64 x) ∧ Src w' L B (N + 2) ∧ w.grownBy w' (some B) := by
  obtain ⟨hl, A, c, rfl, r1⟩ := hr
  have H := Lib.hid h; clear h
  have R := Lib.hid r1; clear r1
  have HV := Lib.hid (hv A zs.length c rfl); clear hv
  go_enter Try.func91, Try.ntmps91
  go_wp2_with fail
  refine (pickS_any L B N _ _ H.out (by omega) (by omega)).mono ?_
  rintro e w1 ⟨x, hx, rfl, hs1, hg1⟩
  obtain ⟨k, rfl⟩ : ∃ k : Nat, x = (k : Int) := ⟨x.toNat, by omega⟩
  have hk : k < zs.length := by have := hx.2.2 (by omega); omega
  obtain ⟨b, off, rfl, hbl, hc⟩ := R.out k hk
  have hc1 := hg1.cell hc (fun e => by injection e with e; exact HV.out b off rfl e)
  have HS1 := Lib.hid hs1; clear hs1 hc
  have hmem : zs[k] ∈ zs := List.getElem_mem hk
  generalize zs[k] = z at *
  go_wp2
  go_ret
  exact ⟨z, hmem, rfl, HS1.out, hg1⟩

theorem BaBox_grown {w w1 : World} {p B : Nat} {s m b j a c d : Int} (h : BaBox w p s m b j a c d) (hg : w.grownBy w1 (some B)) (hne : p ≠ B) : BaBox w1 p s m b j a c d := blk_grown h hg hne

theorem BaBox_frozen {w : World} {p : Nat} {s m b j a c d : Int} (h : BaBox w p s m b j a c d) (o : Nat) : w.frozen? ⟨p, o, none⟩ = false := frozen_of_row w p o _ _ h

/-- One number of a base is stored. -/
theorem BaBox_put {w : World} {p : Nat} {s m b j a c d : Int} (h : BaBox w p s m b j a c d) (v : Int) : BaBox (w.setCell ⟨p, 0, none⟩ (.int .i64 v)) p v m b j a c d ∧ BaBox (w.setCell ⟨p, 1, none⟩ (.int .i64 v)) p s v b j a c d ∧ BaBox (w.setCell ⟨p, 2, none⟩ (.int .i64 v)) p s m v j a c d ∧
    BaBox (w.setCell ⟨p, 3, none⟩ (.int .i64 v)) p s m b v a c d ∧ BaBox (w.setCell ⟨p, 4, none⟩ (.int .i64 v)) p s m b j v c d ∧ BaBox (w.setCell ⟨p, 5, none⟩ (.int .i64 v)) p s m b j a v d ∧ BaBox (w.setCell ⟨p, 6, none⟩ (.int .i64 v)) p s m b j a c v :=
  ⟨heap_setCell_same w p 0 _ _ _ h, heap_setCell_same w p 1 _ _ _ h, heap_setCell_same w p 2 _ _ _ h, heap_setCell_same w p 3 _ _ _ h, heap_setCell_same w p 4 _ _ _ h, heap_setCell_same w p 5 _ _ _ h, heap_setCell_same w p 6 _ _ _ h⟩

theorem BaBox_facts {w : World} {p : Nat} {s m b j a c d : Int} (h : BaBox w p s m b j a c d) : BaAt w p s m b j a c d ∧ ∀ o, w.frozen? ⟨p, o, none⟩ = false := ⟨BaBox_at h, BaBox_frozen h⟩

theorem grown_new {w w1 : World} {row : Option Nat} (hg : w.grownBy w1 row) {p o : Nat} (hp : w.heap.size ≤ p) (v : Value) : w.grownBy (w1.setCell ⟨p, o, none⟩ v) row :=
  ⟨hg.os, hg.tape, hg.output, by simp [World.setCell]; exact hg.size, fun k hk hne => by rw [heap_setCell_other _ _ _ _ (show k ≠ p by omega)]; exact hg.block k hk hne⟩

theorem BaBox_far {w : World} {p q o : Nat} {v : Value} {s m b j a c d : Int} (h : BaBox w p s m b j a c d) (hne : p ≠ q) : BaBox (w.setCell ⟨q, o, none⟩ v) p s m b j a c d := BaBox_grown h (grown_set _ _ _) hne

/-- A base is stored into the result's box: the source stays. -/
theorem src_end {u : World} {L B N p : Nat} (h : Src u L B N) (h1 : L ≤ p) (h2 : p ≠ B) (v0 v1 v2 v3 v4 v5 v6 : Value) :
    Src (((((((u.setCell ⟨p, 0, none⟩ v0).setCell ⟨p, 1, none⟩ v1).setCell ⟨p, 2, none⟩ v2).setCell ⟨p, 3, none⟩ v3).setCell ⟨p, 4, none⟩ v4).setCell ⟨p, 5, none⟩ v5).setCell ⟨p, 6, none⟩ v6) L B N :=
  Src_set (Src_set (Src_set (Src_set (Src_set (Src_set (Src_set h h1 h2) h1 h2) h1 h2) h1 h2) h1 h2) h1 h2) h1 h2

theorem grown_end {w u : World} {row : Option Nat} (hg : w.grownBy u row) {p : Nat} (hp : w.heap.size ≤ p) (v0 v1 v2 v3 v4 v5 v6 : Value) :
    w.grownBy (((((((u.setCell ⟨p, 0, none⟩ v0).setCell ⟨p, 1, none⟩ v1).setCell ⟨p, 2, none⟩ v2).setCell ⟨p, 3, none⟩ v3).setCell ⟨p, 4, none⟩ v4).setCell ⟨p, 5, none⟩ v5).setCell ⟨p, 6, none⟩ v6) row :=
  grown_new (grown_new (grown_new (grown_new (grown_new (grown_new (grown_new hg hp _) hp _) hp _) hp _) hp _) hp _) hp _

set_option maxHeartbeats 2000000 in
theorem drawB_any (L B N : Nat) (w : World) (h : Src w L B N) (hN : N < 700000000) :
    Calls Try.prog 90 #[.pointer (some ⟨B, 0, none⟩)] w fun e w' => ∃ s m b j a c d : Int, e = .returned (.agg #[.int .i64 s, .int .i64 m, .int .i64 b, .int .i64 j, .int .i64 a, .int .i64 c, .int .i64 d]) ∧ Src w' L B (N + 14) ∧ w.grownBy w' (some B) := by
  have hB := Src_lt h
  have hL := h.1
  have hp0 : BaBox (w.alloc (.cells #[.int .i64 0, .int .i64 0, .int .i64 0, .int .i64 0, .int .i64 0, .int .i64 0, .int .i64 0] 39)) w.heap.size 0 0 0 0 0 0 0 := heap_alloc_new w _
  have hs0 := Src_below h (show Below w.heap.size w (w.alloc (.cells #[.int .i64 0, .int .i64 0, .int .i64 0, .int .i64 0, .int .i64 0, .int .i64 0, .int .i64 0] 39)) by go_grown)
  have hg0 : w.grownBy (w.alloc (.cells #[.int .i64 0, .int .i64 0, .int .i64 0, .int .i64 0, .int .i64 0, .int .i64 0, .int .i64 0] 39)) (some B) := World.grownBy_alloc _ _ _
  have hz0 : (w.alloc (.cells #[.int .i64 0, .int .i64 0, .int .i64 0, .int .i64 0, .int .i64 0, .int .i64 0, .int .i64 0] 39)).heap.size = w.heap.size + 1 := by simp
  go_enter Try.func90, Try.ntmps90
  go_wp2_with fail
  generalize w.alloc (.cells #[.int .i64 0, .int .i64 0, .int .i64 0, .int .i64 0, .int .i64 0, .int .i64 0, .int .i64 0] 39) = u0 at *
  have P0 := Lib.hid hp0; clear hp0
  have S0 := Lib.hid hs0; clear hs0 h
  refine (pickS_any L B N _ _ S0.out (by omega) (by omega)).mono ?_
  rintro e w1 ⟨x1, hx1, rfl, hs1, hg1⟩
  have S1 := Lib.hid hs1; clear hs1
  go_wp2_with fail
  refine (pickS_any L B (N + 2) _ _ S1.out (by omega) (by omega)).mono ?_
  rintro e w2 ⟨x2, hx2, rfl, hs2, hg2⟩
  have S2 := Lib.hid hs2; clear hs2
  go_wp2_with fail
  refine (pickS_any L B (N + 4) _ _ S2.out (by omega) (by omega)).mono ?_
  rintro e w3 ⟨x3, hx3, rfl, hs3, hg3⟩
  have g3 := grown_step hg0 (grown_step (grown_step hg1 hg2) hg3)
  have hz3 := (grown_step (grown_step hg1 hg2) hg3).size
  have P3 := Lib.hid (BaBox_grown P0.out (grown_step (grown_step hg1 hg2) hg3) (by omega))
  clear hg0 hg1 hg2 hg3
  go_wp2_with fail
  have hq3 : BaBox (w3.alloc (.cells #[.int .i64 (40 + x1), .int .i64 (10000 + x2 * 1000), .int .i64 (x3 * 1000), .int .i64 0, .int .i64 0, .int .i64 0, .int .i64 0] 39)) w3.heap.size (40 + x1) (10000 + x2 * 1000) (x3 * 1000) 0 0 0 0 := heap_alloc_new w3 _
  have hb3 : Below w3.heap.size w3 (w3.alloc (.cells #[.int .i64 (40 + x1), .int .i64 (10000 + x2 * 1000), .int .i64 (x3 * 1000), .int .i64 0, .int .i64 0, .int .i64 0, .int .i64 0] 39)) := by go_grown
  generalize hp1 : w3.heap.size = p1 at *
  have S3 := Lib.hid (Src_grown hs3 (below_grown (by rw [hp1]; exact hb3) none) (fun g hg => by cases hg))
  have P4 := Lib.hid (BaBox_kept P3.out (by rw [hp1]; exact hb3))
  have g4 := grown_step g3 (below_grown (by rw [hp1]; exact hb3) (some B))
  clear hb3 hs3 P3 hp1
  generalize w3.alloc (.cells #[.int .i64 (40 + x1), .int .i64 (10000 + x2 * 1000), .int .i64 (x3 * 1000), .int .i64 0, .int .i64 0, .int .i64 0, .int .i64 0] 39) = u3 at *
  have Q3 := Lib.hid hq3; clear hq3
  refine (pickS_any L B (N + 6) _ _ S3.out (by omega) (by omega)).mono ?_
  rintro e w4 ⟨x4, hx4, rfl, hs4, hg4⟩
  have q4 := BaBox_grown Q3.out hg4 (by omega)
  obtain ⟨⟨a0, a1, a2, a3, a4, a5, a6⟩, f⟩ := BaBox_facts q4
  have fz := f 3
  clear f
  go_wp2_with fail
  clear a0 a1 a2 a3 a4 a5 a6 fz
  have hq4 := (BaBox_put q4 (3000 + x4 * 500)).2.2.2.1
  have hs4' := Src_set (p := p1) (o := 3) (v := .int .i64 (3000 + x4 * 500)) hs4 (by omega) (by omega)
  have hg4' := grown_new (grown_step g4 hg4) (p := p1) (o := 3) (by omega) (.int .i64 (3000 + x4 * 500))
  have hp4 := BaBox_far (q := p1) (o := 3) (v := .int .i64 (3000 + x4 * 500)) (BaBox_grown P4.out hg4 (by omega)) (by omega)
  generalize w4.setCell ⟨p1, 3, none⟩ (.int .i64 (3000 + x4 * 500)) = v4 at *
  have Q4 := Lib.hid hq4; clear hq4 q4
  have S4 := Lib.hid hs4'; clear hs4' hs4
  have g5 := hg4'; clear hg4' hg4
  have P5 := Lib.hid hp4; clear hp4
  refine (pickS_any L B (N + 8) _ _ S4.out (by omega) (by omega)).mono ?_
  rintro e w5 ⟨x5, hx5, rfl, hs5, hg5⟩
  have q5 := BaBox_grown Q4.out hg5 (by omega)
  obtain ⟨⟨a0, a1, a2, a3, a4, a5, a6⟩, f⟩ := BaBox_facts q5
  have fz := f 4
  clear f
  go_wp2_with fail
  clear a0 a1 a2 a3 a4 a5 a6 fz
  have hq5 := (BaBox_put q5 (100 + x5)).2.2.2.2.1
  have hs5' := Src_set (p := p1) (o := 4) (v := .int .i64 (100 + x5)) hs5 (by omega) (by omega)
  have hg5' := grown_new (grown_step g5 hg5) (p := p1) (o := 4) (by omega) (.int .i64 (100 + x5))
  have hp5 := BaBox_far (q := p1) (o := 4) (v := .int .i64 (100 + x5)) (BaBox_grown P5.out hg5 (by omega)) (by omega)
  generalize w5.setCell ⟨p1, 4, none⟩ (.int .i64 (100 + x5)) = v5 at *
  have Q5 := Lib.hid hq5; clear hq5 q5
  have S5 := Lib.hid hs5'; clear hs5' hs5
  have g6 := hg5'; clear hg5' hg5
  have P6 := Lib.hid hp5; clear hp5
  refine (pickS_any L B (N + 10) _ _ S5.out (by omega) (by omega)).mono ?_
  rintro e w6 ⟨x6, hx6, rfl, hs6, hg6⟩
  have q6 := BaBox_grown Q5.out hg6 (by omega)
  obtain ⟨⟨a0, a1, a2, a3, a4, a5, a6⟩, f⟩ := BaBox_facts q6
  have fz := f 5
  clear f
  go_wp2_with fail
  clear a0 a1 a2 a3 a4 a5 a6 fz
  have hq6 := (BaBox_put q6 (5000 + x6 * 1000)).2.2.2.2.2.1
  have hs6' := Src_set (p := p1) (o := 5) (v := .int .i64 (5000 + x6 * 1000)) hs6 (by omega) (by omega)
  have hg6' := grown_new (grown_step g6 hg6) (p := p1) (o := 5) (by omega) (.int .i64 (5000 + x6 * 1000))
  have hp6 := BaBox_far (q := p1) (o := 5) (v := .int .i64 (5000 + x6 * 1000)) (BaBox_grown P6.out hg6 (by omega)) (by omega)
  generalize w6.setCell ⟨p1, 5, none⟩ (.int .i64 (5000 + x6 * 1000)) = v6 at *
  have Q6 := Lib.hid hq6; clear hq6 q6
  have S6 := Lib.hid hs6'; clear hs6' hs6
  have g7 := hg6'; clear hg6' hg6
  have P7 := Lib.hid hp6; clear hp6
  refine (pickS_any L B (N + 12) _ _ S6.out (by omega) (by omega)).mono ?_
  rintro e w7 ⟨x7, hx7, rfl, hs7, hg7⟩
  have q7 := BaBox_grown Q6.out hg7 (by omega)
  have r7 := BaBox_grown P7.out hg7 (by omega)
  obtain ⟨⟨a0, a1, a2, a3, a4, a5, a6⟩, f⟩ := BaBox_facts q7
  obtain ⟨⟨c0, c1, c2, c3, c4, c5, c6⟩, fz⟩ := BaBox_facts r7
  have hne : ¬ w.heap.size = p1 := by omega
  have hne' : ¬ p1 = w.heap.size := by omega
  have S7 := Lib.hid hs7; clear hs7
  have G7 := Lib.hid (grown_step g7 hg7)
  clear q7 r7 hg7
  go_wp2
  (try simp only [Exit.inBlock, Exit.then])
  refine bodyPost_ret (v := .agg #[.int .i64 (40 + x1), .int .i64 (10000 + x2 * 1000), .int .i64 (x3 * 1000), .int .i64 (3000 + x4 * 500), .int .i64 (100 + x5), .int .i64 (5000 + x6 * 1000), .int .i64 (60 + x7)]) ?_ rfl ⟨_, _, _, _, _, _, _, rfl, ?_, ?_⟩
  · rw [results_cell1 rfl]
    go_simp
  · exact src_end (Src_set S7.out (by omega) (by omega)) (by omega) (by omega) _ _ _ _ _ _ _
  · exact grown_end (grown_new G7.out (by omega) _) (Nat.le_refl _) _ _ _ _ _ _ _

theorem RdI_lit (u : World) (t : TypeId) (zs : List Int) (hl : zs.length ≤ 9223372036854775807) : RdI (u.alloc (.cells (zs.map (Value.int .i64)).toArray t)) (.slice (some ⟨u.heap.size, 0, none⟩) zs.length zs.length) zs :=
  RdI_of _ _ _ zs hl (by simp) (fun k hk => by
    rw [cell_of_row _ _ k _ _ _ (heap_alloc_new u _)]
    simp [hk])

set_option maxHeartbeats 4000000 in
theorem bentB_any (L B N : Nat) (w : World) (h : Src w L B N) (hN : N < 600000000) :
    Calls Try.prog 49 #[.pointer (some ⟨B, 0, none⟩)] w fun e w' => ∃ s m b j a c d : Int, e = .returned (.agg #[.int .i64 s, .int .i64 m, .int .i64 b, .int .i64 j, .int .i64 a, .int .i64 c, .int .i64 d]) ∧ Src w' L B (N + 20) ∧ w.grownBy w' (some B) := by
  have hB := Src_lt h
  have hL := h.1
  have hp0 : BaBox (w.alloc (.cells #[.int .i64 0, .int .i64 0, .int .i64 0, .int .i64 0, .int .i64 0, .int .i64 0, .int .i64 0] 39)) w.heap.size 0 0 0 0 0 0 0 := heap_alloc_new w _
  have hs0 := Src_below h (show Below w.heap.size w (w.alloc (.cells #[.int .i64 0, .int .i64 0, .int .i64 0, .int .i64 0, .int .i64 0, .int .i64 0, .int .i64 0] 39)) by go_grown)
  have hg0 : w.grownBy (w.alloc (.cells #[.int .i64 0, .int .i64 0, .int .i64 0, .int .i64 0, .int .i64 0, .int .i64 0, .int .i64 0] 39)) (some B) := World.grownBy_alloc _ _ _
  have hz0 : (w.alloc (.cells #[.int .i64 0, .int .i64 0, .int .i64 0, .int .i64 0, .int .i64 0, .int .i64 0, .int .i64 0] 39)).heap.size = w.heap.size + 1 := by simp
  go_enter Try.func49, Try.ntmps49
  go_wp2_with fail
  generalize w.alloc (.cells #[.int .i64 0, .int .i64 0, .int .i64 0, .int .i64 0, .int .i64 0, .int .i64 0, .int .i64 0] 39) = u0 at *
  have P0 := Lib.hid hp0; clear hp0
  have S0 := Lib.hid hs0; clear hs0 h
  refine (drawB_any L B N _ S0.out (by omega)).mono ?_
  rintro e w1 ⟨s, m, b, j, a, c, d, rfl, hs1, hg1⟩
  have g1 := grown_step hg0 hg1
  have hz1 := hg1.size
  have P1 := Lib.hid (BaBox_grown P0.out hg1 (by omega))
  clear hg0 hg1
  go_wp2_with fail
  have hq2 : BaBox (w1.alloc (.cells #[.int .i64 s, .int .i64 m, .int .i64 b, .int .i64 j, .int .i64 a, .int .i64 c, .int .i64 d] 39)) w1.heap.size s m b j a c d := heap_alloc_new w1 _
  have hb2 : Below w1.heap.size w1 (w1.alloc (.cells #[.int .i64 s, .int .i64 m, .int .i64 b, .int .i64 j, .int .i64 a, .int .i64 c, .int .i64 d] 39)) := by go_grown
  generalize hp1 : w1.heap.size = p1 at *
  have S2 := Lib.hid (Src_below hs1 (by rw [hp1]; exact hb2))
  have P2 := Lib.hid (BaBox_kept P1.out (by rw [hp1]; exact hb2))
  have g2 := grown_step g1 (below_grown (by rw [hp1]; exact hb2) (some B))
  clear hb2 hs1 P1 hp1
  generalize w1.alloc (.cells #[.int .i64 s, .int .i64 m, .int .i64 b, .int .i64 j, .int .i64 a, .int .i64 c, .int .i64 d] 39) = u2 at *
  have Q2 := Lib.hid hq2; clear hq2
  refine (pickS_any L B (N + 14) _ _ S2.out (by omega) (by omega)).mono ?_
  rintro e w3 ⟨x, hx, rfl, hs3, hg3⟩
  have Q3 := Lib.hid (BaBox_grown Q2.out hg3 (by omega))
  have P3 := Lib.hid (BaBox_grown P2.out hg3 (by omega))
  have G3 := Lib.hid (grown_step g2 hg3)
  have hz3 := (grown_step g2 hg3).size
  have hl3 := BaBox_lt Q3.out
  have hl3' := BaBox_lt P3.out
  have S3 := Lib.hid hs3; clear hs3 Q2 P2 S2 g1 g2 hg3 S0 P0
  by_cases h0 : x = 0
  · subst h0
    go_wp2_with fail
    have hrA : RdI (w3.alloc (.cells #[.int .i64 9, .int .i64 10, .int .i64 200, .int .i64 201, .int .i64 (-9223372036854775808)] 2)) (.slice (some ⟨w3.heap.size, 0, none⟩) 5 5) [9, 10, 200, 201, -9223372036854775808] := RdI_lit w3 2 [9, 10, 200, 201, -9223372036854775808] (by simp)
    have hbA : Below w3.heap.size w3 (w3.alloc (.cells #[.int .i64 9, .int .i64 10, .int .i64 200, .int .i64 201, .int .i64 (-9223372036854775808)] 2)) := by go_grown
    refine (amongS_any L B (N + 16) _ [9, 10, 200, 201, -9223372036854775808] _ (Src_below S3.out hbA) (by omega) hrA (by simp) (by simp) (fun A n c e b off e2 => by injection e with e; rw [e2] at e; injection e with e; injection e with e; omega)).mono ?_
    rintro e wA ⟨yA, hyA, rfl, hsA, hgA⟩
    have QA := Lib.hid (BaBox_grown (BaBox_kept Q3.out hbA) hgA (by omega))
    have PA := Lib.hid (BaBox_grown (BaBox_kept P3.out hbA) hgA (by omega))
    have GA := Lib.hid (grown_step (grown_step G3.out (below_grown hbA (some B))) hgA)
    have SA := Lib.hid hsA; clear hsA hgA hbA hrA
    obtain ⟨⟨a0, a1, a2, a3, a4, a5, a6⟩, f⟩ := BaBox_facts QA.out
    obtain ⟨⟨c0, c1, c2, c3, c4, c5, c6⟩, fz⟩ := BaBox_facts PA.out
    have hne : ¬ w.heap.size = p1 := by omega
    have hne' : ¬ p1 = w.heap.size := by omega
    go_wp2
    (try simp only [Exit.inBlock, Exit.then])
    refine bodyPost_ret (v := .agg #[.int .i64 yA, .int .i64 m, .int .i64 b, .int .i64 j, .int .i64 a, .int .i64 c, .int .i64 d]) ?_ rfl ⟨_, _, _, _, _, _, _, rfl, ?_, ?_⟩
    · rw [results_cell1 rfl]
      go_simp
    · exact src_end (Src_set (Src_more SA.out (by omega)) (by omega) (by omega)) (by omega) (by omega) _ _ _ _ _ _ _
    · exact grown_end (grown_new (GA.out) (by omega) _) (Nat.le_refl _) _ _ _ _ _ _ _
  by_cases h1 : x = 1
  · subst h1
    go_wp2_with fail
    have hrA : RdI (w3.alloc (.cells #[.int .i64 0, .int .i64 1, .int .i64 500000, .int .i64 500001] 2)) (.slice (some ⟨w3.heap.size, 0, none⟩) 4 4) [0, 1, 500000, 500001] := RdI_lit w3 2 [0, 1, 500000, 500001] (by simp)
    have hbA : Below w3.heap.size w3 (w3.alloc (.cells #[.int .i64 0, .int .i64 1, .int .i64 500000, .int .i64 500001] 2)) := by go_grown
    refine (amongS_any L B (N + 16) _ [0, 1, 500000, 500001] _ (Src_below S3.out hbA) (by omega) hrA (by simp) (by simp) (fun A n c e b off e2 => by injection e with e; rw [e2] at e; injection e with e; injection e with e; omega)).mono ?_
    rintro e wA ⟨yA, hyA, rfl, hsA, hgA⟩
    have QA := Lib.hid (BaBox_grown (BaBox_kept Q3.out hbA) hgA (by omega))
    have PA := Lib.hid (BaBox_grown (BaBox_kept P3.out hbA) hgA (by omega))
    have GA := Lib.hid (grown_step (grown_step G3.out (below_grown hbA (some B))) hgA)
    have SA := Lib.hid hsA; clear hsA hgA hbA hrA
    obtain ⟨⟨a0, a1, a2, a3, a4, a5, a6⟩, f⟩ := BaBox_facts QA.out
    obtain ⟨⟨c0, c1, c2, c3, c4, c5, c6⟩, fz⟩ := BaBox_facts PA.out
    have hne : ¬ w.heap.size = p1 := by omega
    have hne' : ¬ p1 = w.heap.size := by omega
    go_wp2
    (try simp only [Exit.inBlock, Exit.then])
    refine bodyPost_ret (v := .agg #[.int .i64 s, .int .i64 yA, .int .i64 b, .int .i64 j, .int .i64 a, .int .i64 c, .int .i64 d]) ?_ rfl ⟨_, _, _, _, _, _, _, rfl, ?_, ?_⟩
    · rw [results_cell1 rfl]
      go_simp
    · exact src_end (Src_set (Src_more SA.out (by omega)) (by omega) (by omega)) (by omega) (by omega) _ _ _ _ _ _ _
    · exact grown_end (grown_new (GA.out) (by omega) _) (Nat.le_refl _) _ _ _ _ _ _ _
  by_cases h2 : x = 2
  · subst h2
    go_wp2_with fail
    have hrA : RdI (w3.alloc (.cells #[.int .i64 (-1), .int .i64 0, .int .i64 500000, .int .i64 500001] 2)) (.slice (some ⟨w3.heap.size, 0, none⟩) 4 4) [-1, 0, 500000, 500001] := RdI_lit w3 2 [-1, 0, 500000, 500001] (by simp)
    have hbA : Below w3.heap.size w3 (w3.alloc (.cells #[.int .i64 (-1), .int .i64 0, .int .i64 500000, .int .i64 500001] 2)) := by go_grown
    refine (amongS_any L B (N + 16) _ [-1, 0, 500000, 500001] _ (Src_below S3.out hbA) (by omega) hrA (by simp) (by simp) (fun A n c e b off e2 => by injection e with e; rw [e2] at e; injection e with e; injection e with e; omega)).mono ?_
    rintro e wA ⟨yA, hyA, rfl, hsA, hgA⟩
    have QA := Lib.hid (BaBox_grown (BaBox_kept Q3.out hbA) hgA (by omega))
    have PA := Lib.hid (BaBox_grown (BaBox_kept P3.out hbA) hgA (by omega))
    have GA := Lib.hid (grown_step (grown_step G3.out (below_grown hbA (some B))) hgA)
    have SA := Lib.hid hsA; clear hsA hgA hbA hrA
    obtain ⟨⟨a0, a1, a2, a3, a4, a5, a6⟩, f⟩ := BaBox_facts QA.out
    obtain ⟨⟨c0, c1, c2, c3, c4, c5, c6⟩, fz⟩ := BaBox_facts PA.out
    have hne : ¬ w.heap.size = p1 := by omega
    have hne' : ¬ p1 = w.heap.size := by omega
    go_wp2
    (try simp only [Exit.inBlock, Exit.then])
    refine bodyPost_ret (v := .agg #[.int .i64 s, .int .i64 m, .int .i64 yA, .int .i64 j, .int .i64 a, .int .i64 c, .int .i64 d]) ?_ rfl ⟨_, _, _, _, _, _, _, rfl, ?_, ?_⟩
    · rw [results_cell1 rfl]
      go_simp
    · exact src_end (Src_set (Src_more SA.out (by omega)) (by omega) (by omega)) (by omega) (by omega) _ _ _ _ _ _ _
    · exact grown_end (grown_new (GA.out) (by omega) _) (Nat.le_refl _) _ _ _ _ _ _ _
  by_cases h3 : x = 3
  · subst h3
    go_wp2_with fail
    have hrA : RdI (w3.alloc (.cells #[.int .i64 (-1), .int .i64 0, .int .i64 500000, .int .i64 500001] 2)) (.slice (some ⟨w3.heap.size, 0, none⟩) 4 4) [-1, 0, 500000, 500001] := RdI_lit w3 2 [-1, 0, 500000, 500001] (by simp)
    have hbA : Below w3.heap.size w3 (w3.alloc (.cells #[.int .i64 (-1), .int .i64 0, .int .i64 500000, .int .i64 500001] 2)) := by go_grown
    refine (amongS_any L B (N + 16) _ [-1, 0, 500000, 500001] _ (Src_below S3.out hbA) (by omega) hrA (by simp) (by simp) (fun A n c e b off e2 => by injection e with e; rw [e2] at e; injection e with e; injection e with e; omega)).mono ?_
    rintro e wA ⟨yA, hyA, rfl, hsA, hgA⟩
    have QA := Lib.hid (BaBox_grown (BaBox_kept Q3.out hbA) hgA (by omega))
    have PA := Lib.hid (BaBox_grown (BaBox_kept P3.out hbA) hgA (by omega))
    have GA := Lib.hid (grown_step (grown_step G3.out (below_grown hbA (some B))) hgA)
    have SA := Lib.hid hsA; clear hsA hgA hbA hrA
    obtain ⟨⟨a0, a1, a2, a3, a4, a5, a6⟩, f⟩ := BaBox_facts QA.out
    obtain ⟨⟨c0, c1, c2, c3, c4, c5, c6⟩, fz⟩ := BaBox_facts PA.out
    have hne : ¬ w.heap.size = p1 := by omega
    have hne' : ¬ p1 = w.heap.size := by omega
    go_wp2
    (try simp only [Exit.inBlock, Exit.then])
    refine bodyPost_ret (v := .agg #[.int .i64 s, .int .i64 m, .int .i64 b, .int .i64 yA, .int .i64 a, .int .i64 c, .int .i64 d]) ?_ rfl ⟨_, _, _, _, _, _, _, rfl, ?_, ?_⟩
    · rw [results_cell1 rfl]
      go_simp
    · exact src_end (Src_set (Src_more SA.out (by omega)) (by omega) (by omega)) (by omega) (by omega) _ _ _ _ _ _ _
    · exact grown_end (grown_new (GA.out) (by omega) _) (Nat.le_refl _) _ _ _ _ _ _ _
  by_cases h4 : x = 4
  · subst h4
    go_wp2_with fail
    have hrA : RdI (w3.alloc (.cells #[.int .i64 (-1), .int .i64 0, .int .i64 1000, .int .i64 1001] 2)) (.slice (some ⟨w3.heap.size, 0, none⟩) 4 4) [-1, 0, 1000, 1001] := RdI_lit w3 2 [-1, 0, 1000, 1001] (by simp)
    have hbA : Below w3.heap.size w3 (w3.alloc (.cells #[.int .i64 (-1), .int .i64 0, .int .i64 1000, .int .i64 1001] 2)) := by go_grown
    refine (amongS_any L B (N + 16) _ [-1, 0, 1000, 1001] _ (Src_below S3.out hbA) (by omega) hrA (by simp) (by simp) (fun A n c e b off e2 => by injection e with e; rw [e2] at e; injection e with e; injection e with e; omega)).mono ?_
    rintro e wA ⟨yA, hyA, rfl, hsA, hgA⟩
    have QA := Lib.hid (BaBox_grown (BaBox_kept Q3.out hbA) hgA (by omega))
    have PA := Lib.hid (BaBox_grown (BaBox_kept P3.out hbA) hgA (by omega))
    have GA := Lib.hid (grown_step (grown_step G3.out (below_grown hbA (some B))) hgA)
    have SA := Lib.hid hsA; clear hsA hgA hbA hrA
    obtain ⟨⟨a0, a1, a2, a3, a4, a5, a6⟩, f⟩ := BaBox_facts QA.out
    obtain ⟨⟨c0, c1, c2, c3, c4, c5, c6⟩, fz⟩ := BaBox_facts PA.out
    have hne : ¬ w.heap.size = p1 := by omega
    have hne' : ¬ p1 = w.heap.size := by omega
    go_wp2
    (try simp only [Exit.inBlock, Exit.then])
    refine bodyPost_ret (v := .agg #[.int .i64 s, .int .i64 m, .int .i64 b, .int .i64 j, .int .i64 a, .int .i64 c, .int .i64 yA]) ?_ rfl ⟨_, _, _, _, _, _, _, rfl, ?_, ?_⟩
    · rw [results_cell1 rfl]
      go_simp
    · exact src_end (Src_set (Src_more SA.out (by omega)) (by omega) (by omega)) (by omega) (by omega) _ _ _ _ _ _ _
    · exact grown_end (grown_new (GA.out) (by omega) _) (Nat.le_refl _) _ _ _ _ _ _ _
  by_cases h5 : x = 5
  · subst h5
    go_wp2_with fail
    have hrA : RdI (w3.alloc (.cells #[.int .i64 0, .int .i64 500000, .int .i64 500001] 2)) (.slice (some ⟨w3.heap.size, 0, none⟩) 3 3) [0, 500000, 500001] := RdI_lit w3 2 [0, 500000, 500001] (by simp)
    have hbA : Below w3.heap.size w3 (w3.alloc (.cells #[.int .i64 0, .int .i64 500000, .int .i64 500001] 2)) := by go_grown
    refine (amongS_any L B (N + 16) _ [0, 500000, 500001] _ (Src_below S3.out hbA) (by omega) hrA (by simp) (by simp) (fun A n c e b off e2 => by injection e with e; rw [e2] at e; injection e with e; injection e with e; omega)).mono ?_
    rintro e wA ⟨yA, hyA, rfl, hsA, hgA⟩
    have QA := Lib.hid (BaBox_grown (BaBox_kept Q3.out hbA) hgA (by omega))
    have PA := Lib.hid (BaBox_grown (BaBox_kept P3.out hbA) hgA (by omega))
    have GA := Lib.hid (grown_step (grown_step G3.out (below_grown hbA (some B))) hgA)
    have SA := Lib.hid hsA; clear hsA hgA hbA hrA
    obtain ⟨⟨a0, a1, a2, a3, a4, a5, a6⟩, f⟩ := BaBox_facts QA.out
    have fz := f 5
    clear f
    go_wp2_with fail
    clear a0 a1 a2 a3 a4 a5 a6 fz
    have hzA : (wA.setCell ⟨p1, 5, none⟩ (.int .i64 yA)).heap.size = wA.heap.size := by simp [World.setCell]
    have qA := (BaBox_put QA.out yA).2.2.2.2.2.1
    have sA := Src_set (p := p1) (o := 5) (v := .int .i64 yA) SA.out (by omega) (by omega)
    have gA := grown_new (p := p1) (o := 5) GA.out (by omega) (.int .i64 yA)
    have pA := BaBox_far (q := p1) (o := 5) (v := .int .i64 yA) PA.out (by omega)
    generalize wA.setCell ⟨p1, 5, none⟩ (.int .i64 yA) = uA at *
    clear QA SA GA PA
    have QA := Lib.hid qA; clear qA
    have SA := Lib.hid sA; clear sA
    have GA := Lib.hid gA; clear gA
    have PA := Lib.hid pA; clear pA
    have hlA := BaBox_lt QA.out
    have hlA' := Src_lt SA.out
    skip
    have hrC : RdI (uA.alloc (.cells #[.int .i64 (-1), .int .i64 0, .int .i64 1000, .int .i64 1001] 2)) (.slice (some ⟨wA.heap.size, 0, none⟩) 4 4) [-1, 0, 1000, 1001] := by rw [← hzA]; exact RdI_lit uA 2 [-1, 0, 1000, 1001] (by simp)
    have hbC : Below uA.heap.size uA (uA.alloc (.cells #[.int .i64 (-1), .int .i64 0, .int .i64 1000, .int .i64 1001] 2)) := by go_grown
    refine (amongS_any L B (N + 18) _ [-1, 0, 1000, 1001] _ (Src_below SA.out hbC) (by omega) hrC (by simp) (by simp) (fun A n c e b off e2 => by injection e with e; rw [e2] at e; injection e with e; injection e with e; omega)).mono ?_
    rintro e wC ⟨yC, hyC, rfl, hsC, hgC⟩
    have QC := Lib.hid (BaBox_grown (BaBox_kept QA.out hbC) hgC (by omega))
    have PC := Lib.hid (BaBox_grown (BaBox_kept PA.out hbC) hgC (by omega))
    have GC := Lib.hid (grown_step (grown_step GA.out (below_grown hbC (some B))) hgC)
    have SC := Lib.hid hsC; clear hsC hgC hbC hrC
    obtain ⟨⟨a0, a1, a2, a3, a4, a5, a6⟩, f⟩ := BaBox_facts QC.out
    obtain ⟨⟨c0, c1, c2, c3, c4, c5, c6⟩, fz⟩ := BaBox_facts PC.out
    have hne : ¬ w.heap.size = p1 := by omega
    have hne' : ¬ p1 = w.heap.size := by omega
    go_wp2
    (try simp only [Exit.inBlock, Exit.then])
    refine bodyPost_ret (v := .agg #[.int .i64 s, .int .i64 m, .int .i64 b, .int .i64 j, .int .i64 yC, .int .i64 yA, .int .i64 d]) ?_ rfl ⟨_, _, _, _, _, _, _, rfl, ?_, ?_⟩
    · rw [results_cell1 rfl]
      go_simp
    · exact src_end (Src_set (Src_more SC.out (by omega)) (by omega) (by omega)) (by omega) (by omega) _ _ _ _ _ _ _
    · exact grown_end (grown_new (GC.out) (by omega) _) (Nat.le_refl _) _ _ _ _ _ _ _
  have e0 : (x == 0) = false := by simpa using h0
  have e1 : (x == 1) = false := by simpa using h1
  have e2 : (x == 2) = false := by simpa using h2
  have e3 : (x == 3) = false := by simpa using h3
  have e4 : (x == 4) = false := by simpa using h4
  have e5 : (x == 5) = false := by simpa using h5
  obtain ⟨⟨a0, a1, a2, a3, a4, a5, a6⟩, f⟩ := BaBox_facts Q3.out
  obtain ⟨⟨c0, c1, c2, c3, c4, c5, c6⟩, fz⟩ := BaBox_facts P3.out
  have hne : ¬ w.heap.size = p1 := by omega
  have hne' : ¬ p1 = w.heap.size := by omega
  go_wp2
  (try simp only [Exit.inBlock, Exit.then])
  refine bodyPost_ret (v := .agg #[.int .i64 s, .int .i64 m, .int .i64 b, .int .i64 j, .int .i64 a, .int .i64 c, .int .i64 d]) ?_ rfl ⟨_, _, _, _, _, _, _, rfl, ?_, ?_⟩
  · rw [results_cell1 rfl]
    go_simp
  · exact src_end (Src_more S3.out (by omega)) (by omega) (by omega) _ _ _ _ _ _ _
  · exact grown_end (G3.out) (Nat.le_refl _) _ _ _ _ _ _ _

set_option maxHeartbeats 1000000 in
theorem drawLoad_any (L B N : Nat) (w : World) (h : Src w L B N) (hN : N < 700000000) :
    Calls Try.prog 101 #[.pointer (some ⟨B, 0, none⟩)] w fun e w' => ∃ x : Int, e = .returned (.int .i64 x) ∧ Src w' L B (N + 4) ∧ w.grownBy w' (some B) := by
  have H := Lib.hid h; clear h
  go_enter Try.func101, Try.ntmps101
  go_wp2_with fail
  refine (oneS_any L B N _ _ H.out (by omega) (by omega)).mono ?_
  rintro e w1 ⟨x, rfl, hs1, hg1⟩
  have S1 := Lib.hid hs1; clear hs1
  have hB := Src_lt S1.out
  cases x
  · go_wp2_with fail
    refine (pickS_any L B (N + 2) _ _ S1.out (by omega) (by omega)).mono ?_
    rintro e w2 ⟨y, hy, rfl, hs2, hg2⟩
    have S2 := Lib.hid hs2; clear hs2
    go_wp2
    go_ret
    exact ⟨_, rfl, S2.out, grown_step hg1 hg2⟩
  · have hr : RdI (w1.alloc (.cells #[.int .i64 (-1), .int .i64 0, .int .i64 50000, .int .i64 50001, .int .i64 9223372036854775807] 2)) (.slice (some ⟨w1.heap.size, 0, none⟩) 5 5) [-1, 0, 50000, 50001, 9223372036854775807] := RdI_lit w1 2 [-1, 0, 50000, 50001, 9223372036854775807] (by simp)
    have hb : Below w1.heap.size w1 (w1.alloc (.cells #[.int .i64 (-1), .int .i64 0, .int .i64 50000, .int .i64 50001, .int .i64 9223372036854775807] 2)) := by go_grown
    go_wp2_with fail
    refine (amongS_any L B (N + 2) _ [-1, 0, 50000, 50001, 9223372036854775807] _ (Src_below S1.out hb) (by omega) hr (by simp) (by simp) (fun A n c e b off e2 => by injection e with e; rw [e2] at e; injection e with e; injection e with e; omega)).mono ?_
    rintro e w2 ⟨y, hy, rfl, hs2, hg2⟩
    have S2 := Lib.hid hs2; clear hs2
    go_wp2
    go_ret
    exact ⟨_, rfl, S2.out, grown_step hg1 (grown_step (below_grown hb _) hg2)⟩

set_option maxHeartbeats 1000000 in
theorem drawRadius_any (L B N : Nat) (w : World) (h : Src w L B N) (hN : N < 700000000) :
    Calls Try.prog 102 #[.pointer (some ⟨B, 0, none⟩)] w fun e w' => ∃ x : Int, e = .returned (.int .i64 x) ∧ Src w' L B (N + 4) ∧ w.grownBy w' (some B) := by
  have H := Lib.hid h; clear h
  go_enter Try.func102, Try.ntmps102
  go_wp2_with fail
  refine (oneS_any L B N _ _ H.out (by omega) (by omega)).mono ?_
  rintro e w1 ⟨x, rfl, hs1, hg1⟩
  have S1 := Lib.hid hs1; clear hs1
  have hB := Src_lt S1.out
  cases x
  · go_wp2_with fail
    refine (pickS_any L B (N + 2) _ _ S1.out (by omega) (by omega)).mono ?_
    rintro e w2 ⟨y, hy, rfl, hs2, hg2⟩
    have S2 := Lib.hid hs2; clear hs2
    go_wp2
    go_ret
    exact ⟨_, rfl, S2.out, grown_step hg1 hg2⟩
  · have hr : RdI (w1.alloc (.cells #[.int .i64 (-1), .int .i64 0, .int .i64 1000, .int .i64 1001] 2)) (.slice (some ⟨w1.heap.size, 0, none⟩) 4 4) [-1, 0, 1000, 1001] := RdI_lit w1 2 [-1, 0, 1000, 1001] (by simp)
    have hb : Below w1.heap.size w1 (w1.alloc (.cells #[.int .i64 (-1), .int .i64 0, .int .i64 1000, .int .i64 1001] 2)) := by go_grown
    go_wp2_with fail
    refine (amongS_any L B (N + 2) _ [-1, 0, 1000, 1001] _ (Src_below S1.out hb) (by omega) hr (by simp) (by simp) (fun A n c e b off e2 => by injection e with e; rw [e2] at e; injection e with e; injection e with e; omega)).mono ?_
    rintro e w2 ⟨y, hy, rfl, hs2, hg2⟩
    have S2 := Lib.hid hs2; clear hs2
    go_wp2
    go_ret
    exact ⟨_, rfl, S2.out, grown_step hg1 (grown_step (below_grown hb _) hg2)⟩

set_option maxHeartbeats 1000000 in
theorem drawPercent_any (L B N : Nat) (w : World) (h : Src w L B N) (hN : N < 700000000) :
    Calls Try.prog 51 #[.pointer (some ⟨B, 0, none⟩)] w fun e w' => ∃ x : Int, e = .returned (.int .i64 x) ∧ Src w' L B (N + 4) ∧ w.grownBy w' (some B) := by
  have H := Lib.hid h; clear h
  go_enter Try.func51, Try.ntmps51
  go_wp2_with fail
  refine (oneS_any L B N _ _ H.out (by omega) (by omega)).mono ?_
  rintro e w1 ⟨x, rfl, hs1, hg1⟩
  have S1 := Lib.hid hs1; clear hs1
  have hB := Src_lt S1.out
  cases x
  · go_wp2_with fail
    refine (pickS_any L B (N + 2) _ _ S1.out (by omega) (by omega)).mono ?_
    rintro e w2 ⟨y, hy, rfl, hs2, hg2⟩
    have S2 := Lib.hid hs2; clear hs2
    go_wp2
    go_ret
    exact ⟨_, rfl, S2.out, grown_step hg1 hg2⟩
  · have hr : RdI (w1.alloc (.cells #[.int .i64 99, .int .i64 100, .int .i64 1000, .int .i64 1001] 2)) (.slice (some ⟨w1.heap.size, 0, none⟩) 4 4) [99, 100, 1000, 1001] := RdI_lit w1 2 [99, 100, 1000, 1001] (by simp)
    have hb : Below w1.heap.size w1 (w1.alloc (.cells #[.int .i64 99, .int .i64 100, .int .i64 1000, .int .i64 1001] 2)) := by go_grown
    go_wp2_with fail
    refine (amongS_any L B (N + 2) _ [99, 100, 1000, 1001] _ (Src_below S1.out hb) (by omega) hr (by simp) (by simp) (fun A n c e b off e2 => by injection e with e; rw [e2] at e; injection e with e; injection e with e; omega)).mono ?_
    rintro e w2 ⟨y, hy, rfl, hs2, hg2⟩
    have S2 := Lib.hid hs2; clear hs2
    go_wp2
    go_ret
    exact ⟨_, rfl, S2.out, grown_step hg1 (grown_step (below_grown hb _) hg2)⟩

set_option maxHeartbeats 4000000 in
theorem askB_any (L B N : Nat) (w : World) (h : Src w L B N) (hN : N < 500000000) :
    Calls Try.prog 61 #[.pointer (some ⟨B, 0, none⟩)] w fun e w' => ∃ s m b j a c d l r : Int, e = .returned (.tuple #[.agg #[.int .i64 s, .int .i64 m, .int .i64 b, .int .i64 j, .int .i64 a, .int .i64 c, .int .i64 d], .int .i64 l, .int .i64 r]) ∧ Src w' L B (N + 28) ∧ w.grownBy w' (some B) := by
  have hB := Src_lt h
  have hL := h.1
  have hp0 : BaBox (w.alloc (.cells #[.int .i64 0, .int .i64 0, .int .i64 0, .int .i64 0, .int .i64 0, .int .i64 0, .int .i64 0] 39)) w.heap.size 0 0 0 0 0 0 0 := heap_alloc_new w _
  have hs0 := Src_below h (show Below w.heap.size w (w.alloc (.cells #[.int .i64 0, .int .i64 0, .int .i64 0, .int .i64 0, .int .i64 0, .int .i64 0, .int .i64 0] 39)) by go_grown)
  have hg0 : w.grownBy (w.alloc (.cells #[.int .i64 0, .int .i64 0, .int .i64 0, .int .i64 0, .int .i64 0, .int .i64 0, .int .i64 0] 39)) (some B) := World.grownBy_alloc _ _ _
  have hz0 : (w.alloc (.cells #[.int .i64 0, .int .i64 0, .int .i64 0, .int .i64 0, .int .i64 0, .int .i64 0, .int .i64 0] 39)).heap.size = w.heap.size + 1 := by simp
  go_enter Try.func61, Try.ntmps61
  go_wp2_with fail
  generalize w.alloc (.cells #[.int .i64 0, .int .i64 0, .int .i64 0, .int .i64 0, .int .i64 0, .int .i64 0, .int .i64 0] 39) = u0 at *
  have P0 := Lib.hid hp0; clear hp0
  have S0 := Lib.hid hs0; clear hs0 h
  refine (bentB_any L B N _ S0.out (by omega)).mono ?_
  rintro e w1 ⟨s, m, b, j, a, c, d, rfl, hs1, hg1⟩
  have g1 := grown_step hg0 hg1
  have hz1 := hg1.size
  have P1 := Lib.hid (BaBox_grown P0.out hg1 (by omega))
  clear hg0 hg1
  go_wp2_with fail
  have hq2 : BaBox (w1.alloc (.cells #[.int .i64 s, .int .i64 m, .int .i64 b, .int .i64 j, .int .i64 a, .int .i64 c, .int .i64 d] 39)) w1.heap.size s m b j a c d := heap_alloc_new w1 _
  have hb2 : Below w1.heap.size w1 (w1.alloc (.cells #[.int .i64 s, .int .i64 m, .int .i64 b, .int .i64 j, .int .i64 a, .int .i64 c, .int .i64 d] 39)) := by go_grown
  generalize hp1 : w1.heap.size = p1 at *
  have S2 := Lib.hid (Src_below hs1 (by rw [hp1]; exact hb2))
  have P2 := Lib.hid (BaBox_kept P1.out (by rw [hp1]; exact hb2))
  have g2 := grown_step g1 (below_grown (by rw [hp1]; exact hb2) (some B))
  clear hb2 hs1 P1 hp1
  generalize w1.alloc (.cells #[.int .i64 s, .int .i64 m, .int .i64 b, .int .i64 j, .int .i64 a, .int .i64 c, .int .i64 d] 39) = u2 at *
  have Q2 := Lib.hid hq2; clear hq2
  refine (drawLoad_any L B (N + 20) _ S2.out (by omega)).mono ?_
  rintro e w3 ⟨l, rfl, hs3, hg3⟩
  have Q3 := Lib.hid (BaBox_grown Q2.out hg3 (by omega))
  have P3 := Lib.hid (BaBox_grown P2.out hg3 (by omega))
  have G3 := Lib.hid (grown_step g2 hg3)
  have S3 := Lib.hid hs3; clear hs3 Q2 P2 S2 g1 g2 hg3 S0 P0
  obtain ⟨⟨a0, a1, a2, a3, a4, a5, a6⟩, f⟩ := BaBox_facts Q3.out
  clear f
  have hne : ¬ w.heap.size = p1 := by omega
  have hne' : ¬ p1 = w.heap.size := by omega
  go_wp2_with fail
  first
    | go_region_held3 (fun w' => w'.cell? ⟨p1, 0, none⟩ = some (.int .i64 s) ∧ w'.cell? ⟨p1, 1, none⟩ = some (.int .i64 m) ∧ w'.cell? ⟨p1, 2, none⟩ = some (.int .i64 b) ∧ w'.cell? ⟨p1, 3, none⟩ = some (.int .i64 j) ∧ w'.cell? ⟨p1, 4, none⟩ = some (.int .i64 a) ∧ w'.cell? ⟨p1, 5, none⟩ = some (.int .i64 c) ∧ w'.cell? ⟨p1, 6, none⟩ = some (.int .i64 d)) (first | go_keep | (exact ⟨b0, b1, b2, b3, b4, b5, b6⟩))
        ((go_at_call 102; refine (drawRadius_any L B (N + 24) _ (by exact S3.out) (by omega)).mono ?_; rintro e w4 ⟨r, rfl, hs4, hg4⟩; (first | (replace hg4 := undrew hg4) | skip); obtain ⟨⟨b0, b1, b2, b3, b4, b5, b6⟩, f⟩ := BaBox_facts (BaBox_grown Q3.out (by exact hg4) (by omega)); obtain ⟨⟨c0, c1, c2, c3, c4, c5, c6⟩, fz⟩ := BaBox_facts (BaBox_grown P3.out (by exact hg4) (by omega)); clear f; have S4 := Lib.hid hs4; clear hs4; have G4 := Lib.hid (grown_step G3.out (by exact hg4)); clear hg4))
    | fail
  all_goals
    go_wp2
    (try simp only [Exit.inBlock, Exit.then])
    refine bodyPost_ret (v := .tuple #[.agg #[.int .i64 s, .int .i64 m, .int .i64 b, .int .i64 j, .int .i64 a, .int .i64 c, .int .i64 d], .int .i64 l, .int .i64 r]) ?_ rfl ⟨_, _, _, _, _, _, _, _, _, rfl, ?_, ?_⟩
    · simp [results, Try.results61, go_sem, c0, c1, c2, c3, c4, c5, c6, fz]
    · exact src_end S4.out (by omega) (by omega) _ _ _ _ _ _ _
    · exact grown_end G4.out (Nat.le_refl _) _ _ _ _ _ _ _

theorem Src_from {w : World} {A : Option Addr} {n c : Nat} (h : RdC w A n) (hn : n ≤ 1000000) : Src (w.alloc (.cells #[.slice A n c, .int .i64 0, .int .u64 0] 114)) w.heap.size w.heap.size 0 :=
  ⟨Nat.le_refl _, A, n, c, fun k hk => by
    obtain ⟨b, off, z, e, hlt, hc, z0, z1⟩ := h k hk
    exact ⟨b, off, z, e, hlt, by simp; omega, by rw [World.cell?_alloc_past _ _ _ hlt]; exact hc, z0, z1⟩, hn, 0, Nat.le_refl _, 0, by omega, by omega, heap_alloc_new w _⟩

set_option maxHeartbeats 4000000 in
theorem drawGL_any (A : Option Addr) (n cp : Nat) (w : World) (h : RdC w A n) (hn : n ≤ 1000000) :
    Calls Try.prog 20 #[.slice A n cp] w fun e w' => ∃ s m b j a c d r q : Int, e = .returned (.tuple #[.agg #[.int .i64 s, .int .i64 m, .int .i64 b, .int .i64 j, .int .i64 a, .int .i64 c, .int .i64 d], .int .i64 r, .int .i64 q]) ∧ Below w.heap.size w w' := by
  have hp0 : BaBox (w.alloc (.cells #[.int .i64 0, .int .i64 0, .int .i64 0, .int .i64 0, .int .i64 0, .int .i64 0, .int .i64 0] 39)) w.heap.size 0 0 0 0 0 0 0 := heap_alloc_new w _
  have hb0 : Below w.heap.size w (w.alloc (.cells #[.int .i64 0, .int .i64 0, .int .i64 0, .int .i64 0, .int .i64 0, .int .i64 0, .int .i64 0] 39)) := by go_grown
  have hc0 := RdC_kept h hb0
  have hz0 : w.heap.size < (w.alloc (.cells #[.int .i64 0, .int .i64 0, .int .i64 0, .int .i64 0, .int .i64 0, .int .i64 0, .int .i64 0] 39)).heap.size := by simp
  go_enter Try.func20, Try.ntmps20
  go_wp2_with fail
  generalize w.alloc (.cells #[.int .i64 0, .int .i64 0, .int .i64 0, .int .i64 0, .int .i64 0, .int .i64 0, .int .i64 0] 39) = u0 at *
  refine (from_any _ _ A n cp rfl).mono ?_
  rintro e w1 ⟨rfl, h1⟩
  have hs1 := Src_from (c := cp) hc0 hn
  have hb1 : Below u0.heap.size u0 w1 := by rw [← h1]; go_grown
  rw [h1] at hs1
  have P1 := Lib.hid (BaBox_kept hp0 hb1)
  have B1 := kept_trans hb0 hb1
  have S1 := Lib.hid hs1; clear hs1 hc0 hp0 h1 h
  generalize hB : u0.heap.size = B at *
  have hB1 := Src_lt S1.out
  go_wp2_with fail
  refine (askB_any B B 0 _ S1.out (by omega)).mono ?_
  rintro e w2 ⟨s, m, b, j, a, c, d, l, r, rfl, hs2, hg2⟩
  have P2 := Lib.hid (BaBox_grown P1.out hg2 (by omega))
  have B2 := grown_below B1 hg2 (fun g hg => by injection hg with hg; omega)
  have hz2 := hg2.size
  clear hg2
  go_wp2_with fail
  have hq3 : BaBox (w2.alloc (.cells #[.int .i64 s, .int .i64 m, .int .i64 b, .int .i64 j, .int .i64 a, .int .i64 c, .int .i64 d] 39)) w2.heap.size s m b j a c d := heap_alloc_new w2 _
  have hb3 : Below w2.heap.size w2 (w2.alloc (.cells #[.int .i64 s, .int .i64 m, .int .i64 b, .int .i64 j, .int .i64 a, .int .i64 c, .int .i64 d] 39)) := by go_grown
  generalize hp1 : w2.heap.size = p1 at *
  have S3 := Lib.hid (Src_below hs2 (by rw [hp1]; exact hb3))
  have P3 := Lib.hid (BaBox_kept P2.out (by rw [hp1]; exact hb3))
  have B3 := kept_trans B2 (by rw [hp1]; exact hb3)
  clear hb3 hs2 P2 hp1
  generalize w2.alloc (.cells #[.int .i64 s, .int .i64 m, .int .i64 b, .int .i64 j, .int .i64 a, .int .i64 c, .int .i64 d] 39) = u3 at *
  have Q3 := Lib.hid hq3; clear hq3
  obtain ⟨⟨a0, a1, a2, a3, a4, a5, a6⟩, f⟩ := BaBox_facts Q3.out
  clear f
  have hne : ¬ w.heap.size = p1 := by omega
  have hne' : ¬ p1 = w.heap.size := by omega
  first
    | go_region_held3 (fun w' => w'.cell? ⟨p1, 0, none⟩ = some (.int .i64 s) ∧ w'.cell? ⟨p1, 1, none⟩ = some (.int .i64 m) ∧ w'.cell? ⟨p1, 2, none⟩ = some (.int .i64 b) ∧ w'.cell? ⟨p1, 3, none⟩ = some (.int .i64 j) ∧ w'.cell? ⟨p1, 4, none⟩ = some (.int .i64 a) ∧ w'.cell? ⟨p1, 5, none⟩ = some (.int .i64 c) ∧ w'.cell? ⟨p1, 6, none⟩ = some (.int .i64 d)) (first | go_keep | (exact ⟨b0, b1, b2, b3, b4, b5, b6⟩))
        ((go_at_call 51; refine (drawPercent_any B B 28 _ (by exact S3.out) (by omega)).mono ?_; rintro e w4 ⟨q, rfl, hs4, hg4⟩; (first | (replace hg4 := undrew hg4) | skip); obtain ⟨⟨b0, b1, b2, b3, b4, b5, b6⟩, f⟩ := BaBox_facts (BaBox_grown Q3.out (by exact hg4) (by omega)); obtain ⟨⟨c0, c1, c2, c3, c4, c5, c6⟩, fz⟩ := BaBox_facts (BaBox_grown P3.out (by exact hg4) (by omega)); clear f; clear hs4; have B4 := Lib.hid (grown_below B3 (by exact hg4) (fun g hg => by injection hg with hg; omega)); clear hg4))
    | fail
  all_goals
    go_wp2
    (try simp only [Exit.inBlock, Exit.then])
    refine bodyPost_ret (v := .tuple #[.agg #[.int .i64 s, .int .i64 m, .int .i64 b, .int .i64 j, .int .i64 a, .int .i64 c, .int .i64 d], .int .i64 r, .int .i64 q]) ?_ rfl ⟨_, _, _, _, _, _, _, _, _,  rfl, ?_⟩
    · simp [results, Try.results20, go_sem, c0, c1, c2, c3, c4, c5, c6, fz]
    · exact ((((((B4.out.setCell (Nat.le_refl _) _).setCell (Nat.le_refl _) _).setCell (Nat.le_refl _) _).setCell (Nat.le_refl _) _).setCell (Nat.le_refl _) _).setCell (Nat.le_refl _) _).setCell (Nat.le_refl _) _

/-- append of one pair to a row of the call's own: nothing but that row has changed. -/
theorem wp_appendH {ops : Array Oper} {rest : List Oper} {o : Oper} {a : Act} {Q : Exit → Act → World → Prop} {wr : World} (hgd : o.guard = none) (s x : Operand)
    (ho : o.op = .call { callee := .builtin .append, args := #[s, x], argTypes := #[24, 24] })
    (lo : Nat) (v : Value) (zs : List (Int × Int)) (p q : Int) (hs : a.eval s = v) (hrow : RowF 35 2 wr lo wr.heap.size v zs.length (flatP zs)) (hx : a.eval x = .slice (some ⟨wr.heap.size, 0, none⟩) 1 1)
    (hlo2 : lo ≤ wr.heap.size) (hn : zs.length < 1000000000)
    (h : ∀ v' w', RowF 35 2 w' lo w'.heap.size v' (zs ++ [(p, q)]).length (flatP (zs ++ [(p, q)])) → wr.grownBy w' v.ownBlock → wpList Try.prog ops Q rest (a.put o.dst v') w') :
    wpList Try.prog ops Q (o :: rest) a (wr.alloc (.cells #[.int .i64 p, .int .i64 q] 35)) := by
  obtain ⟨i0, hi, hz0, hz1, hz2⟩ := info_parts info_step
  refine wpList_append_own_at _ hgd s x _ ho lo 35 i0 (.agg #[.int .i64 0, .int .i64 0]) 2 16 Try.underlying24 hi hz0 hz1 hz2 rfl (by decide) v zs.length _ hs (hrow.1.alloc _) ⟨wr.heap.size, 0, none⟩ 1 1 [.int .i64 p, .int .i64 q] hx rfl ?_ ?_ ?_ ?_ ?_ ?_
  · intro j u hj
    match j with
    | 0 => simp at hj; subst hj; simp [Addr.add]
    | 1 => simp at hj; subst hj; simp [Addr.add]
    | j + 2 => simp at hj
  · intro u hu; simp at hu; rcases hu with rfl | rfl <;> rfl
  · unfold maxLen; omega
  · omega
  · simp; omega
  · intro v' w' hown hg _ hat
    rw [flatP_snoc] at hown
    have hrow' : RowF 35 2 w' lo w'.heap.size v' (zs ++ [(p, q)]).length (flatP (zs ++ [(p, q)])) := ⟨by simpa using hown, hown.lt⟩
    have hal : Below wr.heap.size wr (wr.alloc (.cells #[.int .i64 p, .int .i64 q] 35)) := by go_grown
    exact h v' w' hrow' (grown_step (below_grown hal _) hg)

theorem grown_own {w u u' : World} {row row2 : Option Nat} (h : w.grownBy u row) (k : u.grownBy u' row2) (hr : ∀ g, row2 = some g → w.heap.size ≤ g) : w.grownBy u' row :=
  ⟨k.os.trans h.os, k.tape.trans h.tape, k.output.trans h.output, Nat.le_trans h.size k.size, fun i hi hne => (k.block i (Nat.lt_of_lt_of_le hi h.size) (fun e => by have := hr i e.symm; omega)).trans (h.block i hi hne)⟩

/-- A chart as far as it is drawn: the radius and the load that come next, and how many steps at most. -/
def DcR (zs : List (Int × Int)) (r load : Int) (k : Nat) : Prop :=
  OkAll zs zs.length ∧ zs.length + k ≤ 5 ∧ (20 ≤ r ∧ r ≤ 1000) ∧ (0 ≤ load ∧ load ≤ 50000) ∧ (∀ i, (h : i < zs.length) → i + 1 = zs.length → zs[i].1 = r ∧ load ≤ zs[i].2) ∧ (zs = [] → r = 20 ∧ 1 ≤ k)

theorem DcR_go {zs : List (Int × Int)} {r load r' load' : Int} {k : Nat} (h : DcR zs r load (k + 1)) (hr : r < r' ∧ r' ≤ 1000) (hl : 0 ≤ load' ∧ load' ≤ load) : DcR (zs ++ [(r', load)]) r' load' k := by
  obtain ⟨h1, h2, h3, h4, h5, h6⟩ := h
  refine ⟨?_, by simp; omega, by omega, by omega, ?_, fun h => by simp at h⟩
  · intro i hi _
    have hi' : i < zs.length + 1 := by simpa using hi
    unfold OkAt
    rcases Nat.lt_or_ge i zs.length with hlt | hge
    · have := h1 i hlt hlt
      unfold OkAt at this
      rw [List.getElem_append_left hlt]
      refine ⟨this.1, fun h0 => ?_⟩
      rw [List.getElem_append_left (by omega)]
      exact this.2 h0
    · obtain rfl : i = zs.length := by omega
      rw [List.getElem_append_right (by omega)]
      simp only [Nat.sub_self, List.getElem_cons_zero]
      refine ⟨by omega, fun h0 => ?_⟩
      rw [List.getElem_append_left (by omega)]
      have := h5 (zs.length - 1) (by omega) (by omega)
      omega
  · intro i hi he
    have : i = zs.length := by simp at he; omega
    subst this
    rw [List.getElem_append_right (by omega)]
    simp
    omega

theorem DcR_end {zs : List (Int × Int)} {r load most : Int} {k : Nat} (h : DcR zs r load k) (hm : 20 < most) (he : k = 0 ∨ most ≤ r) : ChartP zs := by
  obtain ⟨h1, h2, h3, h4, h5, h6⟩ := h
  refine ⟨h1, ?_, by omega⟩
  rcases Nat.lt_or_ge 0 zs.length with h | h
  · exact h
  · have h0 : zs = [] := List.eq_nil_of_length_eq_zero (by omega)
    have := h6 h0
    omega

set_option maxHeartbeats 4000000 in
theorem drawC_any (L B N : Nat) (most : Int) (w : World) (h : Src w L B N) (hN : N < 500000000) (hm : 20 < most ∧ most ≤ 1000) :
    Calls Try.prog 33 #[.pointer (some ⟨B, 0, none⟩), .int .i64 most] w fun e w' => ∃ v zs, e = .returned v ∧ ChartP zs ∧ RowF 35 2 w' w.heap.size w'.heap.size v zs.length (flatP zs) ∧ Src w' L B (N + 24) ∧ w.grownBy w' (some B) := by
  have hB := Src_lt h
  have hL := h.1
  have hb0 : Below w.heap.size w (w.alloc (.cells #[] 35)) := by go_grown
  have hs0 := Src_below h hb0
  have hg0 := below_grown hb0 (some B)
  have hr0 : RowF 35 2 (w.alloc (.cells #[] 35)) w.heap.size (w.alloc (.cells #[] 35)).heap.size (.slice (some ⟨w.heap.size, 0, none⟩) 0 0) ([] : List (Int × Int)).length (flatP []) := ⟨World.ownsRow_lit w #[] 0 (Nat.le_refl _) (by decide) (by rfl), fun g hg => by simp [Value.ownBlock] at hg; subst hg; simp⟩
  go_enter Try.func33, Try.ntmps33
  go_wp2_with fail
  generalize w.alloc (.cells #[] 35) = u0 at *
  have S0 := Lib.hid hs0; clear hs0 h
  refine (pickS_any L B N _ _ S0.out (by omega) (by omega)).mono ?_
  rintro e w1 ⟨x1, hx1, rfl, hs1, hg1⟩
  have S1 := Lib.hid hs1; clear hs1
  go_wp2_with fail
  refine (pickS_any L B (N + 2) _ _ S1.out (by omega) (by omega)).mono ?_
  rintro e w2 ⟨x2, hx2, rfl, hs2, hg2⟩
  have hg3 := grown_step hg1 hg2
  have hr2 := RowF_far hr0 hg3 (fun g hg => by injection hg with hg; omega)
  have S2 := Lib.hid hs2; clear hs2 hg1 hg2
  obtain ⟨k2, hk2, rfl⟩ : ∃ k2 : Nat, k2 < 5 ∧ x2 = (k2 : Int) := ⟨x2.toNat, by omega, by omega⟩
  have G2 := Lib.hid (grown_step hg0 hg3)
  have R2 := Lib.hid (RowF_lo hr2 (Nat.le_refl _) hg3.size)
  clear hr2 hg3 hr0 hg0 hb0
  go_wp2_with fail
  go_loopw [5, 6, 7, 8] (fun o r l k wr => ∃ (zs : List (Int × Int)) (ri li : Int) (kk : Nat) (ov : Value), ov = o ∧ r = .int .i64 ri ∧ l = .int .i64 li ∧ k = .int .i64 (kk : Int) ∧ DcR zs ri li kk ∧ RowF 35 2 wr w.heap.size wr.heap.size ov zs.length (flatP zs) ∧ Src wr L B (N + 4 + 4 * zs.length) ∧ w.grownBy wr (some B)) (fun _ _ _ k _ => (intOf k).toNat)
  case atStart => exact ⟨[], 20, 2000 + x1, k2 + 1, _, rfl, rfl, by go_num, by go_num, ⟨fun i h => by simp at h, by simp; omega, by omega, by omega, fun i h => by simp at h, fun _ => ⟨rfl, by omega⟩⟩, R2.out, S2.out, G2.out⟩
  case round =>
    obtain ⟨zs, ri, li, kk, ov, ho, rfl, rfl, rfl, hd, hrow, hs, hg⟩ := hrel
    subst ho
    have HD := Lib.hid hd
    obtain ⟨_, d2, d3, d4, _, _⟩ := hd
    by_cases hk : kk = 0
    · subst hk
      have hch := DcR_end HD.out hm.1 (Or.inl rfl)
      have HRow := Lib.hid hrow; clear hrow
      have HS := Lib.hid hs; clear hs
      go_wp2
      go_ret
      exact ⟨_, zs, rfl, hch, HRow.out, Src_more HS.out (by omega), hg⟩
    by_cases hge : most ≤ ri
    · have hch := DcR_end HD.out hm.1 (Or.inr hge)
      have hk1 : decide (0 < kk) = true := by simp; omega
      have HRow := Lib.hid hrow; clear hrow
      have HS := Lib.hid hs; clear hs
      go_wp2
      go_ret
      exact ⟨_, zs, rfl, hch, HRow.out, Src_more HS.out (by omega), hg⟩
    · obtain ⟨k1, rfl⟩ : ∃ k1, kk = k1 + 1 := ⟨kk - 1, by omega⟩
      have hk1 : decide (0 < k1 + 1) = true := by simp
      have HRow := Lib.hid hrow; clear hrow
      have HS := Lib.hid hs; clear hs
      have HG := Lib.hid hg; clear hg
      have hws := HG.out.size
      go_wp2_with fail
      refine (pickS_any L B (N + 4 + 4 * zs.length) _ _ HS.out (by omega) (by omega)).mono ?_
      rintro e w3 ⟨y1, hy1, rfl, hs3, hg3⟩
      have HS3 := Lib.hid hs3; clear hs3
      have hz3 := hg3.size
      go_wp2_with fail
      refine (min_any _ _ _).mono ?_
      rintro e w4 ⟨rfl, rfl⟩
      have hrow3 := RowF_lo (RowF_far (RowF_lo HRow.out (Nat.le_refl _) (Nat.le_refl _)) hg3 (fun g hg => by injection hg with hg; omega)) (Nat.le_refl _) hz3
      have HRow3 := Lib.hid hrow3; clear hrow3
      generalize hR : min most (ri + 20 + y1) = R' at *
      have hRb : ri < R' ∧ R' ≤ 1000 := by omega
      go_wp2_with (first | (at_builtin; refine wp_appendH rfl (.tmp 32) (.tmp 36) rfl w.heap.size ov zs R' li rfl (by exact HRow3.out) rfl (by omega) (by omega) ?_; intro v' w' hrow' hgr))
      have hs4 := Src_grown HS3.out hgr (fun g hg => by have := HRow3.out.2 g hg; omega)
      have HS4 := Lib.hid hs4; clear hs4
      have HG4 := Lib.hid (grown_own (grown_step HG.out hg3) hgr (fun g hg => (HRow3.out.2 g hg).1))
      have HR4 := Lib.hid hrow'; clear hrow' hgr hg3
      refine (pickS_any L B (N + 4 + 4 * zs.length + 2) _ _ HS4.out (by omega) (by omega)).mono ?_
      rintro e w5 ⟨y2, hy2, rfl, hs5, hg5⟩
      have HS5 := Lib.hid hs5; clear hs5
      go_wp2_with fail
      refine (max_any _ _ _).mono ?_
      rintro e w6 ⟨rfl, rfl⟩
      generalize hM : max 0 (li - y2) = M at *
      have hMb : 0 ≤ M ∧ M ≤ li := by omega
      have hrow5 := RowF_lo (RowF_far HR4.out hg5 (fun g hg => by injection hg with hg; omega)) (Nat.le_refl _) hg5.size
      have hg6 := grown_step HG4.out hg5
      clear hg5 hM hR
      go_wp2
      go_roundw
      case rel => exact ⟨_, R', M, k1, _, rfl, rfl, rfl, by go_num, DcR_go HD.out hRb hMb, hrow5, Src_more HS5.out (by simp; omega), hg6⟩
      case measure => simp [intOf]

theorem flatP_set0 (l : List (Int × Int)) (j : Nat) (hj : j < l.length) (x : Int) : (flatP l).set (j * 2) (.int .i64 x) = flatP (l.set j (x, l[j].2)) := by
  rw [← flatP_set l j x l[j].2]
  have h1 : ((flatP l).set (j * 2) (.int .i64 x))[j * 2 + 1]? = some (.int .i64 l[j].2) := by
    rw [List.getElem?_set_ne (by omega)]
    exact (flatP_at l j hj).2
  obtain ⟨h2, h3⟩ := List.getElem?_eq_some_iff.1 h1
  rw [← h3, List.set_getElem_self]

theorem flatP_set1 (l : List (Int × Int)) (j : Nat) (hj : j < l.length) (y : Int) : (flatP l).set (j * 2 + 1) (.int .i64 y) = flatP (l.set j (l[j].1, y)) := by
  rw [← flatP_set l j l[j].1 y]
  obtain ⟨h2, h3⟩ := List.getElem?_eq_some_iff.1 (flatP_at l j hj).1
  have h4 : (flatP l).set (j * 2) (.int .i64 l[j].1) = flatP l := by rw [← h3, List.set_getElem_self]
  rw [h4]

set_option maxHeartbeats 4000000 in
theorem bentC_any (L B N : Nat) (w : World) (h : Src w L B N) (hN : N < 400000000) :
    Calls Try.prog 50 #[.pointer (some ⟨B, 0, none⟩)] w fun e w' => ∃ v zs, e = .returned v ∧ zs.length ≤ 100 ∧ RowF 35 2 w' w.heap.size w'.heap.size v zs.length (flatP zs) ∧ Src w' L B (N + 40) ∧ w.grownBy w' (some B) := by
  have hB := Src_lt h
  have hL := h.1
  have S0 := Lib.hid h; clear h
  go_enter Try.func50, Try.ntmps50
  go_wp2_with fail
  refine (drawC_any L B N 700 _ S0.out (by omega) (by omega)).mono ?_
  rintro e w1 ⟨v, zs, rfl, hch, hr1, hs1, hg1⟩
  have hn := hch.2
  clear hch
  have hws := hg1.size
  obtain ⟨g, cp, rfl, hgl, hgw⟩ : ∃ g cp, v = .slice (some ⟨g, 0, none⟩) zs.length cp ∧ w.heap.size ≤ g ∧ g < w1.heap.size := by
    rcases RowF_form hr1 with ⟨e1, _, _⟩ | ⟨g, cap, e, h1, h2, h3, _⟩
    · omega
    · exact ⟨g, cap, e, h1, h3⟩
  have S1 := Lib.hid hs1; clear hs1
  have R1 := Lib.hid hr1; clear hr1
  go_wp2_with fail
  refine (pickS_any L B (N + 24) _ _ S1.out (by omega) (by omega)).mono ?_
  rintro e w2 ⟨x, hx, rfl, hs2, hg2⟩
  obtain ⟨k, rfl⟩ : ∃ k : Nat, x = (k : Int) := ⟨x.toNat, by omega⟩
  have hk : k < zs.length := by have := hx.2.2 (by omega); omega
  have S2 := Lib.hid hs2; clear hs2
  have R2 := Lib.hid (RowF_lo (RowF_far R1.out hg2 (fun g hg => by injection hg with hg; omega)) (Nat.le_refl _) hg2.size)
  have g2 := grown_step hg1 hg2
  clear hg1 hg2 hx
  go_wp2_with fail
  refine (pickS_any L B (N + 26) _ _ S2.out (by omega) (by omega)).mono ?_
  rintro e w3 ⟨x, hx, rfl, hs3, hg3⟩
  have S3 := Lib.hid hs3; clear hs3
  have hz3 := (grown_step g2 hg3).size
  have R3 := Lib.hid (RowF_lo (RowF_far R2.out hg3 (fun g hg => by injection hg with hg; omega)) (Nat.le_refl _) hg3.size)
  have G3 := Lib.hid (grown_step g2 hg3)
  clear g2 hg3
  have hB3 := Src_lt S3.out
  have hg3w : g < w3.heap.size := (R3.out.2 g rfl).2
  by_cases h0 : x = 0
  · subst h0
    have hb : Below w3.heap.size w3 (w3.alloc (.cells #[.int .i64 0, .int .i64 1, .int .i64 1000, .int .i64 1001, .int .i64 (-9223372036854775808)] 2)) := by go_grown
    have hrr : RdI (w3.alloc (.cells #[.int .i64 0, .int .i64 1, .int .i64 1000, .int .i64 1001, .int .i64 (-9223372036854775808)] 2)) (.slice (some ⟨w3.heap.size, 0, none⟩) 5 5) [0, 1, 1000, 1001, -9223372036854775808] := RdI_lit w3 2 [0, 1, 1000, 1001, -9223372036854775808] (by simp)
    go_wp2_with fail
    refine (amongS_any L B (N + 28) _ [0, 1, 1000, 1001, -9223372036854775808] _ (Src_below S3.out hb) (by omega) hrr (by simp) (by simp) (fun A n c e b off e2 => by injection e with e; rw [e2] at e; injection e with e; injection e with e; omega)).mono ?_
    rintro e w4 ⟨y, hy, rfl, hs4, hg4⟩
    have hrow := RowF_far (RowF_kept R3.out hb) hg4 (fun g hg => by injection hg with hg; omega)
    have hw4 := grown_step (below_grown hb (some B)) hg4
    have hz4 := hw4.size
    have G4 := Lib.hid (grown_step G3.out hw4)
    have S4 := Lib.hid hs4; clear hs4 hg4 hw4 hb hrr
    have hst := hrow.1.stored (k * 2) (.int .i64 y)
    rw [flatP_set0 zs k hk] at hst
    obtain ⟨u0, hu0⟩ : ∃ u, w4.cell? ⟨g, k * 2, none⟩ = some u := by
      rw [hrow.1.cellAt _ (by omega)]
      exact ⟨_, (flatP_at zs k hk).1⟩
    have hfz := hrow.1.frozenAt (k * 2)
    have HST := Lib.hid hst; clear hst
    have HROW := Lib.hid hrow; clear hrow
    go_wp2
    go_ret
    refine ⟨_, zs.set k (y, zs[k].2), rfl, by simp; omega, ?_, Src_set (Src_more S4.out (by omega)) (by omega) (by omega), grown_new G4.out hgl _⟩
    rw [List.length_set]
    exact ⟨HST.out.1, fun g' hg' => by simp [Value.ownBlock] at hg'; subst hg'; exact ⟨hgl, by simp [World.setCell]; omega⟩⟩
  by_cases h1 : x = 1
  · subst h1
    have hb : Below w3.heap.size w3 (w3.alloc (.cells #[.int .i64 (-1), .int .i64 0, .int .i64 50000, .int .i64 50001] 2)) := by go_grown
    have hrr : RdI (w3.alloc (.cells #[.int .i64 (-1), .int .i64 0, .int .i64 50000, .int .i64 50001] 2)) (.slice (some ⟨w3.heap.size, 0, none⟩) 4 4) [-1, 0, 50000, 50001] := RdI_lit w3 2 [-1, 0, 50000, 50001] (by simp)
    go_wp2_with fail
    refine (amongS_any L B (N + 28) _ [-1, 0, 50000, 50001] _ (Src_below S3.out hb) (by omega) hrr (by simp) (by simp) (fun A n c e b off e2 => by injection e with e; rw [e2] at e; injection e with e; injection e with e; omega)).mono ?_
    rintro e w4 ⟨y, hy, rfl, hs4, hg4⟩
    have hrow := RowF_far (RowF_kept R3.out hb) hg4 (fun g hg => by injection hg with hg; omega)
    have hw4 := grown_step (below_grown hb (some B)) hg4
    have hz4 := hw4.size
    have G4 := Lib.hid (grown_step G3.out hw4)
    have S4 := Lib.hid hs4; clear hs4 hg4 hw4 hb hrr
    have hst := hrow.1.stored (k * 2 + 1) (.int .i64 y)
    rw [flatP_set1 zs k hk] at hst
    obtain ⟨u0, hu0⟩ : ∃ u, w4.cell? ⟨g, k * 2 + 1, none⟩ = some u := by
      rw [hrow.1.cellAt _ (by omega)]
      exact ⟨_, (flatP_at zs k hk).2⟩
    have hfz := hrow.1.frozenAt (k * 2 + 1)
    have HST := Lib.hid hst; clear hst
    have HROW := Lib.hid hrow; clear hrow
    go_wp2
    go_ret
    refine ⟨_, zs.set k (zs[k].1, y), rfl, by simp; omega, ?_, Src_set (Src_more S4.out (by omega)) (by omega) (by omega), grown_new G4.out hgl _⟩
    rw [List.length_set]
    exact ⟨HST.out.1, fun g' hg' => by simp [Value.ownBlock] at hg'; subst hg'; exact ⟨hgl, by simp [World.setCell]; omega⟩⟩
  have e0 : (x == 0) = false := by simpa using h0
  have e1 : (x == 1) = false := by simpa using h1
  by_cases h2 : x = 2
  · subst h2
    go_wp2
    go_ret
    exact ⟨_, [], rfl, by simp, (by first | exact RowF_nil _ _ _ _ _ | exact ⟨World.ownsRow_lit w3 #[] 0 hz3 (by decide) (by rfl), fun g hg => by simp [Value.ownBlock] at hg; subst hg; simp; omega⟩), Src_more (Src_below S3.out (by go_grown)) (by omega), grown_step G3.out (below_grown (by go_grown) _)⟩
  have e2 : (x == 2) = false := by simpa using h2
  by_cases h3 : x = 3
  · subst h3
    have hb : Below w3.heap.size w3 (w3.alloc (.cells #[] 35)) := by go_grown
    have hs4 := Src_below S3.out hb
    have hg4 := grown_step G3.out (below_grown hb (some B))
    have hr4 : RowF 35 2 (w3.alloc (.cells #[] 35)) w.heap.size (w3.alloc (.cells #[] 35)).heap.size (.slice (some ⟨w3.heap.size, 0, none⟩) 0 0) ([] : List (Int × Int)).length (flatP []) := ⟨World.ownsRow_lit w3 #[] 0 hz3 (by decide) (by rfl), fun g hg => by simp [Value.ownBlock] at hg; subst hg; simp; omega⟩
    go_wp2_with fail
    generalize w3.alloc (.cells #[] 35) = u3 at *
    refine (pickS_any L B (N + 28) _ _ hs4 (by omega) (by omega)).mono ?_
    rintro e w5 ⟨x5, hx5, rfl, hs5, hg5⟩
    obtain ⟨k5, hk5, rfl⟩ : ∃ k5 : Nat, k5 < 2 ∧ x5 = (k5 : Int) := ⟨x5.toNat, by omega, by omega⟩
    have S5 := Lib.hid hs5; clear hs5 hs4
    have R5 := Lib.hid (RowF_lo (RowF_far hr4 hg5 (fun g hg => by injection hg with hg; omega)) (Nat.le_refl _) hg5.size)
    have G5 := Lib.hid (grown_step hg4 hg5)
    clear hr4 hg4 hg5 hb
    go_wp2_with fail
    go_loopw [5, 6] (fun o k wr => ∃ (us : List (Int × Int)) (kk : Nat) (ov : Value), ov = o ∧ k = .int .i64 (kk : Int) ∧ us.length + kk ≤ 30 ∧ RowF 35 2 wr w.heap.size wr.heap.size ov us.length (flatP us) ∧ Src wr L B (N + 30) ∧ w.grownBy wr (some B)) (fun _ k _ => (intOf k).toNat)
    case atStart => exact ⟨[], 20 + k5, _, rfl, by go_num, by simp; omega, R5.out, S5.out, G5.out⟩
    case round =>
      obtain ⟨us, kk, ov, ho, rfl, hlen, hrow, hs, hg⟩ := hrel
      subst ho
      have hzr := hg.size
      by_cases hk0 : kk = 0
      · subst hk0
        have HRow := Lib.hid hrow; clear hrow
        have HS := Lib.hid hs; clear hs
        go_wp2
        go_ret
        exact ⟨_, us, rfl, by omega, HRow.out, Src_more HS.out (by omega), hg⟩
      · obtain ⟨k1, rfl⟩ : ∃ k1, kk = k1 + 1 := ⟨kk - 1, by omega⟩
        have hk1 : decide (0 < k1 + 1) = true := by simp
        have HRow := Lib.hid hrow; clear hrow
        have HS := Lib.hid hs; clear hs
        have HG := Lib.hid hg; clear hg
        go_wp2_with (first | (at_builtin; refine wp_appendH rfl (.tmp 46) (.tmp 53) rfl w.heap.size ov us _ _ rfl (by exact HRow.out) rfl (by omega) (by omega) ?_; intro v' w' hrow' hgr))
        go_roundw
        case rel => exact ⟨_, k1, _, rfl, by go_num, by simp; omega, hrow', Src_grown HS.out hgr (fun g hg => by have := HRow.out.2 g hg; omega), grown_own HG.out hgr (fun g hg => (HRow.out.2 g hg).1)⟩
        case measure => simp [intOf]
  have e3 : (x == 3) = false := by simpa using h3
  go_wp2
  go_ret
  exact ⟨_, zs, rfl, by omega, R3.out, Src_more S3.out (by omega), G3.out⟩

theorem isL_is {s m b j a c d l r q : Int} (h1 : baseB s m b j a c d = true) (h2 : inB l 0 50000 = true) (h3 : inB r 0 1000 = true) (h4 : inB q 100 1000 = true) : isL s m b j a c d l r q = (stabB s m b j a c d l r q, 0) := by
  unfold isL
  rw [if_pos (by rw [h1, h2, h3, h4]; rfl)]

theorem safeL_at (g : Int → Int) (p : Int → Int → Bool) (zs : List (Int × Int)) (l : Int) (i : Nat) (h : i < (safeL g p l zs).length) :
    ∃ h2 : i < zs.length, (safeL g p l zs)[i].1 = zs[i].1 ∧ (safeL g p l zs)[i].2 ≤ zs[i].2 ∧ p (safeL g p l zs)[i].2 (safeL g p l zs)[i].1 = true ∧ (safeL g p l zs)[i].2 ≤ l ∧ (0 ≤ l → (∀ z ∈ zs, 0 ≤ z.2) → 0 ≤ (safeL g p l zs)[i].2) ∧ (0 < i → (safeL g p l zs)[i].2 ≤ (safeL g p l zs)[i - 1].2) := by
  induction zs generalizing l i with
  | nil => simp [safeL] at h
  | cons z zs ih =>
    by_cases hc : g z.1 < 0 ∨ p (min (min z.2 (g z.1)) l) z.1 = false
    · rw [safeL, if_pos hc] at h
      simp at h
    · have hE : safeL g p l (z :: zs) = (z.1, min (min z.2 (g z.1)) l) :: safeL g p (min (min z.2 (g z.1)) l) zs := by rw [safeL, if_neg hc]
      have hg : 0 ≤ g z.1 := by
        rcases Int.lt_or_le (g z.1) 0 with h1 | h1
        · exact absurd (Or.inl h1) hc
        · exact h1
      have hp : p (min (min z.2 (g z.1)) l) z.1 = true := by
        cases h1 : p (min (min z.2 (g z.1)) l) z.1
        · exact absurd (Or.inr h1) hc
        · rfl
      simp only [hE] at h ⊢
      cases i with
      | zero =>
        refine ⟨by simp, rfl, ?_, hp, ?_, fun h0 hz => ?_, fun h0 => by omega⟩
        · simp only [List.getElem_cons_zero]; omega
        · simp only [List.getElem_cons_zero]; omega
        · have := hz z (by simp)
          simp only [List.getElem_cons_zero]; omega
      | succ i =>
        obtain ⟨h2, a1, a2, a3, a4, a5, a6⟩ := ih (min (min z.2 (g z.1)) l) i (by simpa using h)
        simp only [List.getElem_cons_succ]
        refine ⟨by simpa using h2, a1, a2, a3, by omega, fun h0 hz => a5 (by have := hz z (by simp); omega) (fun y hy => hz y (by simp [hy])), fun h0 => ?_⟩
        cases i with
        | zero => simp only [Nat.add_sub_cancel, List.getElem_cons_zero]; omega
        | succ i => simpa using a6 (by omega)

theorem safeL_chart {g : Int → Int} {p : Int → Int → Bool} {zs : List (Int × Int)} (hch : ChartP zs) (hne : safeL g p 50000 zs ≠ []) : ChartP (safeL g p 50000 zs) := by
  have hl := safeL_len g p 50000 zs
  have hz0 : ∀ z ∈ zs, 0 ≤ z.2 := fun z hz => by
    obtain ⟨i, hi, rfl⟩ := List.mem_iff_getElem.1 hz
    have := (hch.1 i hi hi).1
    omega
  refine ⟨fun i hi _ => ?_, ?_, by have := hch.2; omega⟩
  · obtain ⟨h2, a1, a2, a3, a4, a5, a6⟩ := safeL_at g p zs 50000 i hi
    have hat := hch.1 i h2 h2
    refine ⟨?_, fun h0 => ⟨?_, a6 h0⟩⟩
    · have := hat.1
      have := a5 (by omega) hz0
      rw [a1]
      omega
    · obtain ⟨h3, b1, _⟩ := safeL_at g p zs 50000 (i - 1) (by omega)
      rw [a1, b1]
      exact (hat.2 h0).1
  · rcases Nat.lt_or_ge 0 (safeL g p 50000 zs).length with h | h
    · exact h
    · exact absurd (List.eq_nil_of_length_eq_zero (by omega)) hne

/-- With the loads of a safe chart a crane is stable, and they are not greater than those of the chart. -/
theorem sc_ok {s m b j a c d q : Int} {zs : List (Int × Int)} (h : (scAll s m b j a c d zs q).2 = 0) : (scAll s m b j a c d zs q).1.length ≤ zs.length ∧ ChartP (scAll s m b j a c d zs q).1 ∧
    ∀ i, (hi : i < (scAll s m b j a c d zs q).1.length) → ∃ h2 : i < zs.length, isL s m b j a c d (scAll s m b j a c d zs q).1[i].2 (scAll s m b j a c d zs q).1[i].1 q = (true, 0) ∧ (scAll s m b j a c d zs q).1[i].1 = zs[i].1 ∧ (scAll s m b j a c d zs q).1[i].2 ≤ zs[i].2 := by
  by_cases hc : (baseB s m b j a c d && chartB zs) = true
  case neg => unfold scAll at h; rw [if_neg hc] at h; simp at h
  by_cases hq : inB q 100 1000 = true
  case neg => unfold scAll at h; rw [if_pos hc, if_neg hq] at h; simp at h
  have hv := (Bool.and_eq_true_iff.mp hc).1
  have hch := chartB_iff.1 (Bool.and_eq_true_iff.mp hc).2
  by_cases hne : safeL (fun r => glL s m b j a c d r q) (fun l r => stabB s m b j a c d l r q) 50000 zs = []
  · unfold scAll at h; rw [if_pos hc, if_pos hq, if_pos hne] at h; simp at h
  have hE : scAll s m b j a c d zs q = (safeL (fun r => glL s m b j a c d r q) (fun l r => stabB s m b j a c d l r q) 50000 zs, 0) := by unfold scAll; rw [if_pos hc, if_pos hq, if_neg hne]
  simp only [hE]
  have hcp := safeL_chart hch hne
  refine ⟨safeL_len _ _ _ _, hcp, fun i hi => ?_⟩
  obtain ⟨h2, a1, a2, a3, _⟩ := safeL_at _ _ zs 50000 i hi
  have hat := (hcp.1 i hi hi).1
  exact ⟨h2, by rw [isL_is hv (by simp [inB]; omega) (by simp [inB]; omega) hq]; simpa using a3, a1, a2⟩

theorem gl_ok {s m b j a c d r q : Int} (h : (glAll s m b j a c d r q).2 = 0) : isL s m b j a c d (glAll s m b j a c d r q).1 r q = (true, 0) := by
  by_cases hK : codeL3 (baseB s m b j a c d) [inB r 0 1000, inB q 100 1000] = 0
  · obtain ⟨hv, hbs⟩ := codeL3_ok hK
    have hr : inB r 0 1000 = true := hbs _ (by simp)
    have hq : inB q 100 1000 = true := hbs _ (by simp)
    have hb := glL_bd s m b j a c d r q
    by_cases hG : glL s m b j a c d r q = -1
    · unfold glAll at h; rw [if_pos hK, if_pos hG] at h; simp at h
    · have hE : glAll s m b j a c d r q = (glL s m b j a c d r q, 0) := by unfold glAll; rw [if_pos hK, if_neg hG]
      rw [hE]
      rcases hb with h1 | ⟨h1, h2, h3⟩
      · exact absurd h1 hG
      · rw [isL_is hv (by simp [inB]; omega) hr hq, h3]
  · unfold glAll at h
    rw [if_neg hK] at h
    exact absurd h hK

theorem f6big_any (A : Option Addr) (n c : Nat) (w : World) : Calls Try.prog 16 #[.slice A n c] w fun e w' => e = .returned (.bool (decide (4096 < n))) ∧ w = w' := by
  by_cases h : 4096 < n
  all_goals
    go_enter Try.func16, Try.ntmps16
    go_wp2
    go_ret
    exact ⟨by simp; omega, rfl⟩

set_option maxHeartbeats 4000000 in
theorem drawSC_any (A : Option Addr) (n cp : Nat) (w : World) (h : RdC w A n) (hn : n ≤ 1000000) :
    Calls Try.prog 17 #[.slice A n cp] w fun e w' => ∃ (s m b j a c d : Int) (v : Value) (zs : List (Int × Int)) (q : Int), e = .returned (.tuple #[.agg #[.int .i64 s, .int .i64 m, .int .i64 b, .int .i64 j, .int .i64 a, .int .i64 c, .int .i64 d], v, .int .i64 q]) ∧ zs.length ≤ 100 ∧ RdP w' v zs ∧ Below w.heap.size w w' := by
  have hp0 : BaBox (w.alloc (.cells #[.int .i64 0, .int .i64 0, .int .i64 0, .int .i64 0, .int .i64 0, .int .i64 0, .int .i64 0] 39)) w.heap.size 0 0 0 0 0 0 0 := heap_alloc_new w _
  have hb0 : Below w.heap.size w (w.alloc (.cells #[.int .i64 0, .int .i64 0, .int .i64 0, .int .i64 0, .int .i64 0, .int .i64 0, .int .i64 0] 39)) := by go_grown
  have hc0 := RdC_kept h hb0
  have hz0 : w.heap.size < (w.alloc (.cells #[.int .i64 0, .int .i64 0, .int .i64 0, .int .i64 0, .int .i64 0, .int .i64 0, .int .i64 0] 39)).heap.size := by simp
  go_enter Try.func17, Try.ntmps17
  go_wp2_with fail
  generalize w.alloc (.cells #[.int .i64 0, .int .i64 0, .int .i64 0, .int .i64 0, .int .i64 0, .int .i64 0, .int .i64 0] 39) = u0 at *
  refine (from_any _ _ A n cp rfl).mono ?_
  rintro e w1 ⟨rfl, h1⟩
  have hs1 := Src_from (c := cp) hc0 hn
  have hb1 : Below u0.heap.size u0 w1 := by rw [← h1]; go_grown
  rw [h1] at hs1
  have P1 := Lib.hid (BaBox_kept hp0 hb1)
  have B1 := kept_trans hb0 hb1
  have S1 := Lib.hid hs1; clear hs1 hc0 hp0 h1 h
  generalize hB : u0.heap.size = B at *
  have hB1 := Src_lt S1.out
  go_wp2_with fail
  refine (bentB_any B B 0 _ S1.out (by omega)).mono ?_
  rintro e w2 ⟨s, m, b, j, a, c, d, rfl, hs2, hg2⟩
  have P2 := Lib.hid (BaBox_grown P1.out hg2 (by omega))
  have B2 := grown_below B1 hg2 (fun g hg => by injection hg with hg; omega)
  have hz2 := hg2.size
  clear hg2
  go_wp2_with fail
  have hq3 : BaBox (w2.alloc (.cells #[.int .i64 s, .int .i64 m, .int .i64 b, .int .i64 j, .int .i64 a, .int .i64 c, .int .i64 d] 39)) w2.heap.size s m b j a c d := heap_alloc_new w2 _
  have hb3 : Below w2.heap.size w2 (w2.alloc (.cells #[.int .i64 s, .int .i64 m, .int .i64 b, .int .i64 j, .int .i64 a, .int .i64 c, .int .i64 d] 39)) := by go_grown
  generalize hp1 : w2.heap.size = p1 at *
  have S3 := Lib.hid (Src_below hs2 (by rw [hp1]; exact hb3))
  have P3 := Lib.hid (BaBox_kept P2.out (by rw [hp1]; exact hb3))
  have B3 := kept_trans B2 (by rw [hp1]; exact hb3)
  clear hb3 hs2 P2 hp1
  generalize w2.alloc (.cells #[.int .i64 s, .int .i64 m, .int .i64 b, .int .i64 j, .int .i64 a, .int .i64 c, .int .i64 d] 39) = u3 at *
  have Q3 := Lib.hid hq3; clear hq3
  have hlo : w.heap.size < u3.heap.size := (Array.getElem?_eq_some_iff.1 P3.out).1
  have hB3 := Src_lt S3.out
  refine (bentC_any B B 20 _ S3.out (by omega)).mono ?_
  rintro e w5 ⟨v, zs, rfl, hzl, hrow, hs5, hg5⟩
  have Q5 := Lib.hid (BaBox_grown Q3.out hg5 (by omega))
  have P5 := Lib.hid (BaBox_grown P3.out hg5 (by omega))
  have B5 := Lib.hid (grown_below B3 hg5 (fun g hg => by injection hg with hg; omega))
  have S5 := Lib.hid hs5; clear hs5 hg5 S3 P3 B3 Q3
  obtain ⟨A5, cp5, rfl, hln, hrr⟩ := RdP_slice (RowF_rd hrow)
  have RR := Lib.hid hrow; clear hrow hrr
  obtain ⟨⟨a0, a1, a2, a3, a4, a5, a6⟩, f⟩ := BaBox_facts Q5.out
  clear f
  have hne : ¬ w.heap.size = p1 := by omega
  have hne' : ¬ p1 = w.heap.size := by omega
  go_wp2_with fail
  first
    | go_region_held3 (fun w' => w'.cell? ⟨p1, 0, none⟩ = some (.int .i64 s) ∧ w'.cell? ⟨p1, 1, none⟩ = some (.int .i64 m) ∧ w'.cell? ⟨p1, 2, none⟩ = some (.int .i64 b) ∧ w'.cell? ⟨p1, 3, none⟩ = some (.int .i64 j) ∧ w'.cell? ⟨p1, 4, none⟩ = some (.int .i64 a) ∧ w'.cell? ⟨p1, 5, none⟩ = some (.int .i64 c) ∧ w'.cell? ⟨p1, 6, none⟩ = some (.int .i64 d)) (first | go_keep | (exact ⟨b0, b1, b2, b3, b4, b5, b6⟩))
        ((go_at_call 51; refine (drawPercent_any B B 60 _ (by exact S5.out) (by omega)).mono ?_; rintro e w6 ⟨q, rfl, hs6, hg6⟩; (first | (replace hg6 := undrew hg6) | skip); obtain ⟨⟨b0, b1, b2, b3, b4, b5, b6⟩, f⟩ := BaBox_facts (BaBox_grown Q5.out (by exact hg6) (by omega)); obtain ⟨⟨c0, c1, c2, c3, c4, c5, c6⟩, fz⟩ := BaBox_facts (BaBox_grown P5.out (by exact hg6) (by omega)); clear f; clear hs6; have G6 := Lib.hid (show w5.grownBy w6 (some B) from by exact hg6); clear hg6))
    | fail
  all_goals
    have B6 := grown_below B5.out G6.out (fun g hg => by injection hg with hg; omega)
    go_wp2
    (try simp only [Exit.inBlock, Exit.then])
    refine bodyPost_ret (v := .tuple #[.agg #[.int .i64 s, .int .i64 m, .int .i64 b, .int .i64 j, .int .i64 a, .int .i64 c, .int .i64 d], .slice A5 zs.length cp5, .int .i64 q]) ?_ rfl ⟨_, _, _, _, _, _, _, _, zs, _, rfl, hzl, ?_, ?_⟩
    · simp [results, Try.results17, go_sem, c0, c1, c2, c3, c4, c5, c6, fz]
    · exact RowF_rd (RowF_set (RowF_set (RowF_set (RowF_set (RowF_set (RowF_set (RowF_set (RowF_far RR.out G6.out (fun g hg => by injection hg with hg; omega)) hlo) hlo) hlo) hlo) hlo) hlo) hlo)
    · exact ((((((B6.setCell (Nat.le_refl _) _).setCell (Nat.le_refl _) _).setCell (Nat.le_refl _) _).setCell (Nat.le_refl _) _).setCell (Nat.le_refl _) _).setCell (Nat.le_refl _) _).setCell (Nat.le_refl _) _

theorem RdP_cells {w : World} {A : Option Addr} {c : Nat} {zs : List (Int × Int)} (h : RdP w (.slice A zs.length c) zs) (k : Nat) (hk : k < zs.length) :
    ∃ b off, A = some ⟨b, off, none⟩ ∧ b < w.heap.size ∧ w.cell? ⟨b, off + k * 2, none⟩ = some (.int .i64 zs[k].1) ∧ w.cell? ⟨b, off + k * 2 + 1, none⟩ = some (.int .i64 zs[k].2) := by
  obtain ⟨A', c', e, _, r⟩ := RdP_slice h
  injection e with e1 e2 e3
  subst e1
  exact r k hk

theorem sameB_self (zs : List (Int × Int)) : sameB zs zs = true := by simp [sameB]

-- needs open_bytes
set_option maxRecDepth 1000000 in
set_option maxHeartbeats 20000000 in
theorem walk_FnSafeCharts (w : World) (A : Option Addr) (n cp : Nat) (hr : RdC w A n) (hn : n ≤ maxLen) :
    Calls Try.prog 4 #[.slice A n cp] w fun e w' => e = .returned (.bool true) ∧ Below w.heap.size w w' := by
  have HR := Lib.hid hr; clear hr hn
  by_cases hbig : 4096 < n
  · go_enter Try.func4, Try.ntmps4
    go_wp2_with fail
    refine (f6big_any _ _ _ _).mono ?_
    rintro e w1 ⟨rfl, rfl⟩
    go_wp2
    go_ret
    exact ⟨rfl, Below.refl _ _⟩
  go_enter Try.func4, Try.ntmps4
  go_wp2_with fail
  refine (f6big_any _ _ _ _).mono ?_
  rintro e w1 ⟨rfl, rfl⟩
  go_wp2_with fail
  refine (drawSC_any A n cp _ HR.out (by omega)).mono ?_
  rintro e w1 ⟨s, m, b, j, a, c, d, v, zs, q, rfl, hzl, hrd, hb1⟩
  obtain ⟨A5, cp5, rfl, hln, hrr⟩ := RdP_slice hrd
  clear hrr
  have hSI := fun u x => implSC_any s m b j a c d (.slice A5 zs.length cp5) zs q u x
  have hSS := fun u x => specSC_any s m b j a c d (.slice A5 zs.length cp5) zs q u x
  have hok := @sc_ok s m b j a c d q zs
  generalize scAll s m b j a c d zs q = SC at *
  obtain ⟨us, sc⟩ := SC
  dsimp only at hSI hSS hok
  have HSI := Lib.hid hSI; clear hSI
  have HSS := Lib.hid hSS; clear hSS
  have HOK := Lib.hid hok; clear hok
  go_wp2_with fail
  have hx1 : Below w1.heap.size w1 (w1.alloc (.cells #[.int .i64 s, .int .i64 m, .int .i64 b, .int .i64 j, .int .i64 a, .int .i64 c, .int .i64 d] 39)) := by go_grown
  have hq1 : BaBox (w1.alloc (.cells #[.int .i64 s, .int .i64 m, .int .i64 b, .int .i64 j, .int .i64 a, .int .i64 c, .int .i64 d] 39)) w1.heap.size s m b j a c d := heap_alloc_new w1 _
  have B1 := kept_trans hb1 hx1
  have L1 := Lib.hid (RdP_kept hrd hx1)
  clear hx1 hrd
  have hpb := hb1.size
  clear hb1
  generalize hp1 : w1.heap.size = pb at *
  generalize w1.alloc (.cells #[.int .i64 s, .int .i64 m, .int .i64 b, .int .i64 j, .int .i64 a, .int .i64 c, .int .i64 d] 39) = u1 at *
  have Kb := Lib.hid hq1; clear hq1 hp1
  obtain ⟨⟨a0, a1, a2', a3, a4, a5, a6⟩, f⟩ := BaBox_facts Kb.out
  clear f
  go_wp2_with fail
  clear a0 a1 a2' a3 a4 a5 a6
  refine (HSS.out _ (by exact L1.out)).mono ?_
  rintro e w2 ⟨v1, rfl, hw1, hb2⟩
  replace Kb := Lib.hid (BaBox_kept Kb.out hb2)
  replace L1 := Lib.hid (RdP_kept L1.out hb2)
  have B2 := kept_trans B1 hb2
  have X1 := Lib.hid (show RdP w2 v1 us from RowF_rd hw1)
  clear hb2 hw1
  obtain ⟨⟨a0, a1, a2', a3, a4, a5, a6⟩, f⟩ := BaBox_facts Kb.out
  clear f
  go_wp2_with fail
  clear a0 a1 a2' a3 a4 a5 a6
  refine (HSI.out _ (by exact L1.out)).mono ?_
  rintro e w3 ⟨v2, rfl, hw2, hb3⟩
  replace Kb := Lib.hid (BaBox_kept Kb.out hb3)
  replace L1 := Lib.hid (RdP_kept L1.out hb3)
  replace X1 := Lib.hid (RdP_kept X1.out hb3)
  have B3 := kept_trans B2 hb3
  have X2' := (show RdP w3 v2 us from RowF_rd hw2)
  clear hb3 hw2
  obtain ⟨A2, cp2, rfl, hl2, hrr⟩ := RdP_slice X2'
  clear hrr
  have X2 := Lib.hid X2'; clear X2'
  go_wp2_with fail
  refine (drawGL_any A n cp _ (RdC_kept HR.out B3) (by omega)).mono ?_
  rintro e w4 ⟨s2, m2, b2, j2, a2, c2, d2, r2, q2, rfl, hb4⟩
  replace Kb := Lib.hid (BaBox_kept Kb.out hb4)
  replace L1 := Lib.hid (RdP_kept L1.out hb4)
  replace X1 := Lib.hid (RdP_kept X1.out hb4)
  replace X2 := Lib.hid (RdP_kept X2.out hb4)
  have B4 := kept_trans B3 hb4
  clear hb4
  have hGS := fun u => specGL_any s2 m2 b2 j2 a2 c2 d2 r2 q2 u
  have hGI := fun u => implGL_any s2 m2 b2 j2 a2 c2 d2 r2 q2 u
  have hgk := @gl_ok s2 m2 b2 j2 a2 c2 d2 r2 q2
  have hIC := fun l u => implIS_any s2 m2 b2 j2 a2 c2 d2 l r2 q2 u
  generalize glAll s2 m2 b2 j2 a2 c2 d2 r2 q2 = GL at *
  obtain ⟨gn, gc⟩ := GL
  dsimp only at hGS hGI hgk
  have HGS := Lib.hid hGS; clear hGS
  have HGI := Lib.hid hGI; clear hGI
  have HGK := Lib.hid hgk; clear hgk
  have HIC := Lib.hid hIC; clear hIC
  go_wp2_with fail
  have hb5 : Below w4.heap.size w4 (w4.alloc (.cells #[.int .i64 s2, .int .i64 m2, .int .i64 b2, .int .i64 j2, .int .i64 a2, .int .i64 c2, .int .i64 d2] 39)) := by go_grown
  have hq4 : BaBox (w4.alloc (.cells #[.int .i64 s2, .int .i64 m2, .int .i64 b2, .int .i64 j2, .int .i64 a2, .int .i64 c2, .int .i64 d2] 39)) w4.heap.size s2 m2 b2 j2 a2 c2 d2 := heap_alloc_new w4 _
  replace Kb := Lib.hid (BaBox_kept Kb.out hb5)
  replace L1 := Lib.hid (RdP_kept L1.out hb5)
  replace X1 := Lib.hid (RdP_kept X1.out hb5)
  replace X2 := Lib.hid (RdP_kept X2.out hb5)
  have B5 := kept_trans B4 hb5
  clear hb5
  have hpc := B4.size
  generalize hp4 : w4.heap.size = pc at *
  generalize w4.alloc (.cells #[.int .i64 s2, .int .i64 m2, .int .i64 b2, .int .i64 j2, .int .i64 a2, .int .i64 c2, .int .i64 d2] 39) = u4 at *
  have Kc := Lib.hid hq4; clear hq4 hp4
  obtain ⟨⟨a0, a1, a2', a3, a4, a5, a6⟩, f⟩ := BaBox_facts Kc.out
  clear f
  go_wp2_with fail
  clear a0 a1 a2' a3 a4 a5 a6
  refine (HGS.out _).mono ?_
  rintro e w6 ⟨rfl, hb6⟩
  replace Kb := Lib.hid (BaBox_kept Kb.out hb6)
  replace L1 := Lib.hid (RdP_kept L1.out hb6)
  replace X1 := Lib.hid (RdP_kept X1.out hb6)
  replace X2 := Lib.hid (RdP_kept X2.out hb6)
  replace Kc := Lib.hid (BaBox_kept Kc.out hb6)
  have B6 := kept_trans B5 hb6
  clear hb6
  obtain ⟨⟨a0, a1, a2', a3, a4, a5, a6⟩, f⟩ := BaBox_facts Kc.out
  clear f
  go_wp2_with fail
  clear a0 a1 a2' a3 a4 a5 a6
  refine (HGI.out _).mono ?_
  rintro e w7 ⟨rfl, hb7⟩
  replace Kb := Lib.hid (BaBox_kept Kb.out hb7)
  replace L1 := Lib.hid (RdP_kept L1.out hb7)
  replace X1 := Lib.hid (RdP_kept X1.out hb7)
  replace X2 := Lib.hid (RdP_kept X2.out hb7)
  replace Kc := Lib.hid (BaBox_kept Kc.out hb7)
  have B7 := kept_trans B6 hb7
  clear hb7
  obtain ⟨⟨a0, a1, a2', a3, a4, a5, a6⟩, f⟩ := BaBox_facts Kc.out
  clear f
  go_wp2_with fail
  clear a0 a1 a2' a3 a4 a5 a6
  refine (specSameC_any _ us _ us _ (by exact X2.out) (by exact X1.out)).mono ?_
  rintro e w8 ⟨rfl, hb8⟩
  replace Kb := Lib.hid (BaBox_kept Kb.out hb8)
  replace L1 := Lib.hid (RdP_kept L1.out hb8)
  replace X1 := Lib.hid (RdP_kept X1.out hb8)
  replace X2 := Lib.hid (RdP_kept X2.out hb8)
  replace Kc := Lib.hid (BaBox_kept Kc.out hb8)
  have B8 := kept_trans B7 hb8
  clear hb8 X1
  rw [sameB_self us]
  skip
  by_cases h1 : gc = 0
  · subst h1
    have hI1 := fun u => HIC.out gn u
    rw [HGK.out rfl] at hI1
    have HI1 := Lib.hid hI1; clear hI1
    obtain ⟨⟨a0, a1, a2', a3, a4, a5, a6⟩, f⟩ := BaBox_facts Kc.out
    clear f
    go_wp2_with fail
    clear a0 a1 a2' a3 a4 a5 a6
    refine (HI1.out _).mono ?_
    rintro e w9 ⟨rfl, hb9⟩
    replace Kb := Lib.hid (BaBox_kept Kb.out hb9)
    replace L1 := Lib.hid (RdP_kept L1.out hb9)
    replace X2 := Lib.hid (RdP_kept X2.out hb9)
    have B9 := kept_trans B8 hb9
    clear hb9
    by_cases h2 : sc = 0
    · subst h2
      obtain ⟨ok1, ok2, ok3⟩ := HOK.out rfl
      have hnl : decide (zs.length < us.length) = false := by simp; omega
      have hnl2 : ¬ zs.length < us.length := by omega
      have OK3 := Lib.hid ok3; clear ok3
      have hch := chartB_true ok2
      clear ok2 HOK
      go_wp2_with fail
      refine (implChart_any _ us _ (by exact X2.out)).mono ?_
      rintro e w10 ⟨rfl, hb10⟩
      rw [hch]
      replace Kb := Lib.hid (BaBox_kept Kb.out hb10)
      replace L1 := Lib.hid (RdP_kept L1.out hb10)
      replace X2 := Lib.hid (RdP_kept X2.out hb10)
      have B10 := kept_trans B9 hb10
      clear hb10
      have HB := Lib.hid B10
      go_wp2_with fail
      go_loopw [19] (fun i wr => ∃ k : Nat, k ≤ us.length ∧ i = .int .i64 k ∧ BaBox wr pb s m b j a c d ∧ RdP wr (.slice A5 zs.length cp5) zs ∧ RdP wr (.slice A2 us.length cp2) us ∧ Below w.heap.size w wr) (fun i _ => us.length - (intOf i).toNat)
      case atStart => exact ⟨0, by omega, rfl, Kb.out, L1.out, X2.out, HB.out⟩
      case round =>
        obtain ⟨k, hk, rfl, hkb, hkl, hkx, hbb⟩ := hrel
        by_cases hlt : k < us.length
        · obtain ⟨hz, i1, i2, i3⟩ := OK3.out k hlt
          obtain ⟨bx, ox, rfl, hbx, c0, c1⟩ := RdP_cells hkx k hlt
          obtain ⟨bz, oz, rfl, hbz, d0, d1⟩ := RdP_cells hkl k hz
          have hI := fun u => implIS_any s m b j a c d us[k].2 us[k].1 q u
          rw [i1] at hI
          have HI := Lib.hid hI; clear hI
          have HK := Lib.hid hkb; clear hkb
          have HL := Lib.hid hkl; clear hkl
          have HX := Lib.hid hkx; clear hkx
          have HBB := Lib.hid hbb; clear hbb
          clear i1 B10
          generalize us[k].1 = x at *
          generalize us[k].2 = y at *
          generalize zs[k].1 = x' at *
          generalize zs[k].2 = y' at *
          obtain ⟨⟨a0, a1, a2', a3, a4, a5, a6⟩, f⟩ := BaBox_facts HK.out
          clear f
          subst i2
          have i4 : decide (y' < y) = false := by simp; omega
          go_wp2_with fail
          go_region_held3 (fun w' => w'.cell? ⟨pb, 0, none⟩ = some (.int .i64 s) ∧ w'.cell? ⟨pb, 1, none⟩ = some (.int .i64 m) ∧ w'.cell? ⟨pb, 2, none⟩ = some (.int .i64 b) ∧ w'.cell? ⟨pb, 3, none⟩ = some (.int .i64 j) ∧ w'.cell? ⟨pb, 4, none⟩ = some (.int .i64 a) ∧ w'.cell? ⟨pb, 5, none⟩ = some (.int .i64 c) ∧ w'.cell? ⟨pb, 6, none⟩ = some (.int .i64 d) ∧ w'.cell? ⟨bx, ox + k * 2, none⟩ = some (.int .i64 x) ∧ w'.cell? ⟨bx, ox + k * 2 + 1, none⟩ = some (.int .i64 y)) (go_keep)
            ((go_at_call 24; refine (HI.out _).mono ?_; rintro e w12 ⟨rfl, hb12⟩; have hb13 : Below wr.heap.size wr w12 := (by first | exact hb12 | exact kept_trans (kept_drewN (Below.refl _ _) _) hb12 | exact kept_trans (below_drew (Below.refl _ _)) hb12); clear hb12; have HK2 := Lib.hid (BaBox_kept HK.out hb13); have HL2 := Lib.hid (RdP_kept HL.out hb13); have HX2 := Lib.hid (RdP_kept HX.out hb13); have HB2 := Lib.hid (kept_trans HBB.out hb13); rw [← kept_cell hb13 bx _ hbx] at c0 c1; rw [← kept_cell hb13 bz _ hbz] at d0 d1; obtain ⟨⟨e0, e1, e2, e3, e4, e5, e6⟩, f⟩ := BaBox_facts HK2.out; clear f))
          all_goals
            go_wp2_with fail
            go_quiet (fail)
            go_wp2
            go_roundw
            case rel => exact ⟨k + 1, by omega, by go_num, BaBox_kept HK2.out (kept_drewN (Below.refl _ _) _), RdP_kept HL2.out (kept_drewN (Below.refl _ _) _), RdP_kept HX2.out (kept_drewN (Below.refl _ _) _), kept_drewN HB2.out _⟩
            case measure => simp [intOf]; omega
        · have : k = us.length := by omega
          subst this
          go_wp2
          go_ret
          exact ⟨rfl, hbb⟩
    · have h3 : (sc == 0) = false := by simpa using h2
      have h4 : ¬ sc = 0 := h2
      go_wp2
      go_ret
      exact ⟨rfl, B9⟩
  · have h11 : (gc == 0) = false := by simpa using h1
    by_cases h2 : sc = 0
    · subst h2
      obtain ⟨ok1, ok2, ok3⟩ := HOK.out rfl
      have hnl : decide (zs.length < us.length) = false := by simp; omega
      have hnl2 : ¬ zs.length < us.length := by omega
      have OK3 := Lib.hid ok3; clear ok3
      have hch := chartB_true ok2
      clear ok2 HOK
      go_wp2_with fail
      refine (implChart_any _ us _ (by exact X2.out)).mono ?_
      rintro e w10 ⟨rfl, hb10⟩
      rw [hch]
      replace Kb := Lib.hid (BaBox_kept Kb.out hb10)
      replace L1 := Lib.hid (RdP_kept L1.out hb10)
      replace X2 := Lib.hid (RdP_kept X2.out hb10)
      have B10 := kept_trans B8 hb10
      clear hb10
      have HB := Lib.hid B10
      go_wp2_with fail
      go_loopw [19] (fun i wr => ∃ k : Nat, k ≤ us.length ∧ i = .int .i64 k ∧ BaBox wr pb s m b j a c d ∧ RdP wr (.slice A5 zs.length cp5) zs ∧ RdP wr (.slice A2 us.length cp2) us ∧ Below w.heap.size w wr) (fun i _ => us.length - (intOf i).toNat)
      case atStart => exact ⟨0, by omega, rfl, Kb.out, L1.out, X2.out, HB.out⟩
      case round =>
        obtain ⟨k, hk, rfl, hkb, hkl, hkx, hbb⟩ := hrel
        by_cases hlt : k < us.length
        · obtain ⟨hz, i1, i2, i3⟩ := OK3.out k hlt
          obtain ⟨bx, ox, rfl, hbx, c0, c1⟩ := RdP_cells hkx k hlt
          obtain ⟨bz, oz, rfl, hbz, d0, d1⟩ := RdP_cells hkl k hz
          have hI := fun u => implIS_any s m b j a c d us[k].2 us[k].1 q u
          rw [i1] at hI
          have HI := Lib.hid hI; clear hI
          have HK := Lib.hid hkb; clear hkb
          have HL := Lib.hid hkl; clear hkl
          have HX := Lib.hid hkx; clear hkx
          have HBB := Lib.hid hbb; clear hbb
          clear i1 B10
          generalize us[k].1 = x at *
          generalize us[k].2 = y at *
          generalize zs[k].1 = x' at *
          generalize zs[k].2 = y' at *
          obtain ⟨⟨a0, a1, a2', a3, a4, a5, a6⟩, f⟩ := BaBox_facts HK.out
          clear f
          subst i2
          have i4 : decide (y' < y) = false := by simp; omega
          go_wp2_with fail
          go_region_held3 (fun w' => w'.cell? ⟨pb, 0, none⟩ = some (.int .i64 s) ∧ w'.cell? ⟨pb, 1, none⟩ = some (.int .i64 m) ∧ w'.cell? ⟨pb, 2, none⟩ = some (.int .i64 b) ∧ w'.cell? ⟨pb, 3, none⟩ = some (.int .i64 j) ∧ w'.cell? ⟨pb, 4, none⟩ = some (.int .i64 a) ∧ w'.cell? ⟨pb, 5, none⟩ = some (.int .i64 c) ∧ w'.cell? ⟨pb, 6, none⟩ = some (.int .i64 d) ∧ w'.cell? ⟨bx, ox + k * 2, none⟩ = some (.int .i64 x) ∧ w'.cell? ⟨bx, ox + k * 2 + 1, none⟩ = some (.int .i64 y)) (go_keep)
            ((go_at_call 24; refine (HI.out _).mono ?_; rintro e w12 ⟨rfl, hb12⟩; have hb13 : Below wr.heap.size wr w12 := (by first | exact hb12 | exact kept_trans (kept_drewN (Below.refl _ _) _) hb12 | exact kept_trans (below_drew (Below.refl _ _)) hb12); clear hb12; have HK2 := Lib.hid (BaBox_kept HK.out hb13); have HL2 := Lib.hid (RdP_kept HL.out hb13); have HX2 := Lib.hid (RdP_kept HX.out hb13); have HB2 := Lib.hid (kept_trans HBB.out hb13); rw [← kept_cell hb13 bx _ hbx] at c0 c1; rw [← kept_cell hb13 bz _ hbz] at d0 d1; obtain ⟨⟨e0, e1, e2, e3, e4, e5, e6⟩, f⟩ := BaBox_facts HK2.out; clear f))
          all_goals
            go_wp2_with fail
            go_quiet (fail)
            go_wp2
            go_roundw
            case rel => exact ⟨k + 1, by omega, by go_num, BaBox_kept HK2.out (kept_drewN (Below.refl _ _) _), RdP_kept HL2.out (kept_drewN (Below.refl _ _) _), RdP_kept HX2.out (kept_drewN (Below.refl _ _) _), kept_drewN HB2.out _⟩
            case measure => simp [intOf]; omega
        · have : k = us.length := by omega
          subst this
          go_wp2
          go_ret
          exact ⟨rfl, hbb⟩
    · have h3 : (sc == 0) = false := by simpa using h2
      have h4 : ¬ sc = 0 := h2
      go_wp2
      go_ret
      exact ⟨rfl, B8⟩

end Go.Proofs.Ytjdppjcmelflbaa
namespace Go.Proofs.Ytjdppjcmelflbaa.fnSafeCharts
open Go.ChangeShapes Go.WideShapes Go.ChangeAt Go.RowKit
set_option linter.unusedVariables false
set_option linter.unusedSimpArgs false
open Go.Joins Go.ChangeMaps
set_option maxRecDepth 100000 in
theorem lifted (os : Os) (started : os.Started) (H : Type) (enc : TypeId × Value → H) :
    ReturnsInHanded {} Try.checked os 4 .any (Rows.fnSafeChartsSpec.pre6 enc Try.prog Try.f4 Rows.fnSafeChartsRow.domain false) (Rows.fnSafeChartsSpec.post enc Try.prog Try.f4 false true false false) := by
  refine returnsInHanded_of_change (C := Try.checked) (show ownKnob Try.prog.godebug = none by kernel_rfl) started (by kernel_rfl) Try.func4
    (ChangeSpec.witness6 (enc := enc) (C := Try.checked) false ⟨#[], #[.slice none 0 0], []⟩ 8 (by kernel_rfl) (by kernel_rfl) (by kernel_rfl) (by kernel_rfl)) ?_
  intro W base args ds gs before hval0 hW hcnd _
  have hval : ∀ (j : Nat) t v, Try.f4.params[j]? = some t → args[j]? = some v → Value.okWide Try.prog W .any base t v := hval0
  have hW' := hW
  obtain ⟨p, q, hA0, hV, rfl, hfz, hnd⟩ := hW
  have hA : DataW.TrodAll enc Try.prog W 0 (fun _ => true) true Try.f4.params.toList args.toList ds p := hA0
  rw [Try.params4] at hA hval
  obtain ⟨v0, vs0, d0, ds0, p0, q0, hargs, rfl, rfl, h0, r0⟩ := trodAll_cons hA
  obtain ⟨rfl, rfl, rfl⟩ := trodAll_nil r0
  obtain rfl : args = #[v0] := by cases args; simp_all
  obtain ⟨rfl, rfl⟩ := trodVars_none hV
  obtain ⟨A0, n0, c0, rfl, hr0, hn0⟩ := open_bytes Try.underlying22 Try.underlying5 (show Try.prog.cellsOf 5 = 1 by kernel_rfl) (hval 0 22 v0 rfl rfl) h0
  clear hA0 hval0
  refine (walk_FnSafeCharts (w := W) A0 n0 c0 hr0 hn0).mono fun e W' ⟨he, hb⟩ => ?_
  subst he
  exact ⟨_, rfl, law_post (B := 4) (by kernel_rfl) (by kernel_rfl) rfl Try.underlying4 rfl hW' rfl hb⟩

/-- The statement: for every input the law returns true, and the arguments read afterwards as before. -/
theorem proved : Rows.FnSafeChartsSaid :=
  OpenClaim.holds_of_wide 4 Try.f4 rfl rfl rfl rfl rfl rfl rfl ⟨rfl, rfl, rfl, rfl, rfl⟩ rfl rfl rfl rfl rfl (by kernel_rfl) Try.func4 (by kernel_rfl)
    (of_decide_eq_true (by kernel_rfl)) (by unfold Func.isWrapper; first | (rw [if_pos (by decide +kernel)]; kernel_rfl) | (rw [if_neg (by decide +kernel)]; exact ⟨rfl, rfl⟩))
    (fun os started H enc _ => lifted os started H enc)
end Go.Proofs.Ytjdppjcmelflbaa.fnSafeCharts
