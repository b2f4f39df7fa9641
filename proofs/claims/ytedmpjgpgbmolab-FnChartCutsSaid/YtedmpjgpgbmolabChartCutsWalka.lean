/- Proved: for every input the law FnChartCuts returns true, and each argument reads afterwards as it read before; no condition beside those of the given row. -/
import Derived.Test.YtedmpjgpgbmolabRows
import Derived.WalkKit
import Derived.ProofKit
import Derived.OpenShut
import Derived.Lib.Hide
import Derived.Handy
import Derived.BigQuiet
import Derived.Carry
import Derived.ChangeSlices
import Derived.Deep.AppendLies
import Derived.Deep.Draws
import Derived.Deep.OwnRows
import Derived.Deep.QuietTactic
import Derived.Deep.RegionHeld3
import Derived.Laws.MakeOwn
import Derived.Lib.SmallJoins
import Derived.Maps.AppendAt
import Derived.OwnWalk
import Derived.Shelf.Abstract
import Derived.Lib.SmallJoins
import Derived.ChangeMaps5
namespace Go.Proofs.Ytedmpjgpgbmolab
open Go.ChangeShapes Go.WideShapes Go.ChangeAt Go.RowKit
set_option linter.unusedVariables false
set_option linter.unusedSimpArgs false

theorem tmod_pos (n k : Int) (h : 0 ≤ n) : n.tmod k = n % k := Int.tmod_eq_emod_of_nonneg h

theorem trodAll_stay {H : Type} {enc : TypeId × Value → H} {P : Program} (hl : laidOutB P = true) {W W' : World} (hb : Below W.heap.size W W') :
    ∀ (ts : List TypeId) (vs : List Value) (ds : List (DataW H)) (ps : List MemPlace), ts.all (fun t => P.readableRec t && decide (t < P.types.size)) = true →
      DataW.TrodAll enc P W 0 (fun _ => true) true ts vs ds ps → (∀ x ∈ ps, x.block < W.heap.size) →
      DataW.TrodAll enc P W' 0 (fun b => decide (b < W.heap.size)) true ts vs ds ps := by
  intro ts
  induction ts with
  | nil => intro vs ds ps _ h _; obtain ⟨rfl, rfl, rfl⟩ := trodAll_nil h; exact rfl
  | cons t ts ih =>
    intro vs ds ps hr h hlt
    simp only [List.all_cons, Bool.and_eq_true, decide_eq_true_eq] at hr
    obtain ⟨v, vs', d, ds', p, q, rfl, rfl, rfl, h0, h1⟩ := trodAll_cons h
    exact ⟨p, q, Below.trod hl hr.1.1 hr.1.2 h0 hb (fun x hx => hlt x (by simp [hx])), ih _ _ _ hr.2 h1 (fun x hx => hlt x (by simp [hx])), rfl⟩

/-- A law's row at its end: it returned true, and of what was there nothing has turned. -/
theorem law_post {H : Type} {enc : TypeId × Value → H} {P : Program} {f : Func} {s : ChangeSpec} {W W' : World} {args : Array Value} {ds gs : List (DataW H)} {before : List MemPlace} {B : TypeId}
    (hl : laidOutB P = true) (hr : f.params.toList.all (fun t => P.readableRec t && decide (t < P.types.size)) = true)
    (hres : f.resultTypes = #[B]) (hB : P.underlying B = some .bool) (hv : s.vars = [])
    (hW : DataW.Whole enc P f.params.toList s.vars false W args.toList ds gs before)
    (hfn : s.fn H (ds ++ gs) = { results := [.lit (.bool true)], args := ds }) (hb : Below W.heap.size W W') :
    s.post enc P f false true false false W args (.bool true) W' := by
  have hlt : ∀ p ∈ before, p.block < W.heap.size := fun p hp => hW.lt p hp
  have hW' := hW
  obtain ⟨p, q, hA, hV, rfl, _, _⟩ := hW'
  rw [hv] at hV
  obtain ⟨rfl, rfl⟩ := trodVars_none hV
  refine ⟨ds, [], p ++ [], [], p, [], hW, ?_, ?_, ?_, hb.frame _, fun h => by cases h⟩
  · rw [hfn, hres]
    exact trodAll_cons_mk (shut_bool hB _) trodAll_mk0
  · rw [hfn]
    exact trodAll_stay hl hb _ _ _ _ hr hA (fun x hx => hlt x (by simp [hx]))
  · rw [hfn, hv]
    exact rfl

theorem kept_cell {W w1 : World} (hb : Below W.heap.size W w1) (b o : Nat) (h : b < W.heap.size) : w1.cell? ⟨b, o, none⟩ = W.cell? ⟨b, o, none⟩ := hb.cell (p := ⟨b, o, none⟩) h

theorem kept_frozen {W w1 : World} (hb : Below W.heap.size W w1) (b o : Nat) (h : b < W.heap.size) : w1.frozen? ⟨b, o, none⟩ = W.frozen? ⟨b, o, none⟩ := hb.frozen (p := ⟨b, o, none⟩) h

theorem kept {W w1 : World} (hb : Below W.heap.size W w1) :
    (∀ b o, b < W.heap.size → w1.cell? ⟨b, o, none⟩ = W.cell? ⟨b, o, none⟩) ∧ (∀ b o, b < W.heap.size → w1.frozen? ⟨b, o, none⟩ = W.frozen? ⟨b, o, none⟩) ∧ W.heap.size ≤ w1.heap.size :=
  ⟨kept_cell hb, kept_frozen hb, hb.size⟩

theorem kept_trans {a b c : World} (h : Below a.heap.size a b) (k : Below b.heap.size b c) : Below a.heap.size a c := h.trans (k.mono h.size)

theorem kept_at {W w1 : World} (hb : Below W.heap.size W w1) (b : Nat) {G : Prop} (h : b < W.heap.size)
    (k : (∀ o, w1.cell? ⟨b, o, none⟩ = W.cell? ⟨b, o, none⟩) → (∀ o, w1.frozen? ⟨b, o, none⟩ = W.frozen? ⟨b, o, none⟩) → b < w1.heap.size → G) : G :=
  k (fun o => kept_cell hb b o h) (fun o => kept_frozen hb b o h) (Nat.lt_of_lt_of_le h hb.size)

theorem kept_drewN {B : Nat} {a w : World} (h : Below B a w) (n : Nat) : Below B a (w.drewN n) := { os := h.os, tape := h.tape, output := h.output, size := h.size, block := h.block }

theorem grown_step {a b c : World} {row : Option Nat} (h : a.grownBy b row) (k : b.grownBy c row) : a.grownBy c row :=
  ⟨k.os.trans h.os, k.tape.trans h.tape, k.output.trans h.output, Nat.le_trans h.size k.size, fun i hi hne => (k.block i (Nat.lt_of_lt_of_le hi h.size) hne).trans (h.block i hi hne)⟩

theorem grown_below {a b c : World} {row : Option Nat} (h : Below a.heap.size a b) (k : b.grownBy c row) (hr : ∀ g, row = some g → a.heap.size ≤ g) : Below a.heap.size a c := h.grown k h.size hr

def inB (n low high : Int) : Bool := decide (low ≤ n) && decide (n ≤ high)

theorem in_any (n low high : Int) (w : World) :
    Calls Try.prog 34 #[.int .i64 n, .int .i64 low, .int .i64 high] w fun e w' => e = .returned (.bool (inB n low high)) ∧ w = w' := by
  unfold inB
  by_cases h1 : low ≤ n <;> by_cases h2 : n ≤ high <;>
  · go_enter Try.func34, Try.ntmps34
    go_wp2
    go_ret
    exact ⟨by simp [*], rfl⟩

theorem inB_true {n a b : Int} (h : inB n a b = true) : a ≤ n ∧ n ≤ b := by simpa [inB] using h

theorem inB_false {n a b : Int} (h : inB n a b = false) : ¬ (a ≤ n ∧ n ≤ b) := by simpa [inB] using h

theorem info_int64 : (Try.prog.info? 2).map (fun i => (i.zero, i.size, i.bytes)) = some (some (.int .i64 0), 1, 8) := by kernel_rfl

theorem own_kept {W w1 : World} {base : Nat} {e : TypeId} {size : Nat} {v : Value} {n : Nat} {xs : List Value} (h : W.ownsRow base e size v n xs) (hb : Below W.heap.size W w1) : w1.ownsRow base e size v n xs := by
  refine ⟨h.1, ?_⟩
  rcases h.2 with h2 | ⟨g, cap, cur, hv, hg, hh, r⟩
  · exact Or.inl h2
  · refine Or.inr ⟨g, cap, cur, hv, hg, ?_, r⟩
    rw [hb.block g (h.lt g (by rw [hv]; rfl)).2]
    exact hh

/-- The slice value reads as a list of numbers. -/
def RdI (w : World) (v : Value) (zs : List Int) : Prop :=
  zs.length ≤ 9223372036854775807 ∧ ∃ A c, v = .slice A zs.length c ∧ ∀ k, (hk : k < zs.length) → ∃ b off, A = some ⟨b, off, none⟩ ∧ b < w.heap.size ∧ w.cell? ⟨b, off + k, none⟩ = some (.int .i64 zs[k])

/-- A row of numbers of the call's own, in a block from lo on and below hi. -/
def RowI (w : World) (lo hi : Nat) (v : Value) (zs : List Int) : Prop :=
  w.ownsRow lo 2 1 v zs.length (zs.map (Value.int .i64)) ∧ ∀ g, v.ownBlock = some g → lo ≤ g ∧ g < hi

theorem RowI_form {w : World} {lo hi : Nat} {v : Value} {zs : List Int} (h : RowI w lo hi v zs) :
    (zs = [] ∧ v = .slice none 0 0) ∨ ∃ g cap, v = .slice (some ⟨g, 0, none⟩) zs.length cap ∧ lo ≤ g ∧ g < hi ∧ g < w.heap.size ∧ zs.length ≤ cap ∧ cap ≤ maxLen := by
  rcases h.1.2 with ⟨h1, h2⟩ | ⟨g, cap, cur, rfl, hg, hh, h3, h4, _⟩
  · exact Or.inl ⟨List.eq_nil_of_length_eq_zero h2, h1⟩
  · exact Or.inr ⟨g, cap, rfl, hg, (h.2 g rfl).2, (h.1.lt g rfl).2, h3, h4⟩

theorem RowI_rd {w : World} {lo hi : Nat} {v : Value} {zs : List Int} (h : RowI w lo hi v zs) : RdI w v zs := by
  rcases RowI_form h with ⟨rfl, rfl⟩ | ⟨g, cap, rfl, _, _, hlt, h3, h4⟩
  · exact ⟨by simp, none, 0, rfl, fun k hk => by simp at hk⟩
  · unfold maxLen at h4
    refine ⟨by omega, some ⟨g, 0, none⟩, cap, rfl, fun k hk => ⟨g, 0, rfl, hlt, ?_⟩⟩
    rw [Nat.zero_add, h.1.cellAt k (by simpa using hk)]
    simp [hk]

theorem RowI_kept {W w1 : World} {lo hi : Nat} {v : Value} {zs : List Int} (h : RowI W lo hi v zs) (hb : Below W.heap.size W w1) : RowI w1 lo hi v zs := ⟨own_kept h.1 hb, h.2⟩

theorem RowI_far {W w1 : World} {lo hi : Nat} {v : Value} {zs : List Int} {row : Option Nat} (h : RowI W lo hi v zs) (hg : W.grownBy w1 row) (hr : ∀ g, row = some g → g < lo ∨ hi ≤ g) : RowI w1 lo hi v zs := by
  refine ⟨h.1.kept hg ?_, h.2⟩
  rcases hv : v.ownBlock with _ | g
  · exact Or.inl rfl
  · refine Or.inr (fun e => ?_)
    have h1 := h.2 g hv
    have h2 := hr g e.symm
    omega

/-- The slice reads as bytes, none of them in block x. -/
def RdB (w : World) (A : Option Addr) (n x : Nat) : Prop := ∀ k, k < n → ∃ b off z, A = some ⟨b, off, none⟩ ∧ b < w.heap.size ∧ b ≠ x ∧ w.cell? ⟨b, off + k, none⟩ = some (.int .u8 z) ∧ 0 ≤ z ∧ z ≤ 255

/-- A source of choices in block b: its bytes, how far it has come, its seed. -/
def SrcAt (w : World) (b : Nat) (v : Value) (N : Nat) : Prop := ∃ seed : Int, 0 ≤ seed ∧ seed ≤ 18446744073709551615 ∧ w.heap[b]? = some (.cells #[v, .int .i64 N, .int .u64 seed] 53 (0, 0))

/-- What a step of the source comes to. -/
def NextR (b : Nat) (v : Value) (N : Nat) (lo hi : Int) (w : World) (e : Ending) (w' : World) : Prop := ∃ x : Int, lo ≤ x ∧ x ≤ hi ∧ e = .returned (.int .i64 x) ∧ SrcAt w' b v N ∧ w.grownBy w' (some b)

theorem wrap_u64_bd (x : Int) : 0 ≤ IntKind.u64.wrap x ∧ IntKind.u64.wrap x ≤ 18446744073709551615 := by
  rw [IntKind.wrap_u64]
  omega

theorem and255_bd (a : Int) (h0 : 0 ≤ a) (h1 : a ≤ 18446744073709551615) : 0 ≤ bits .and .u64 a 255 ∧ bits .and .u64 a 255 ≤ 255 := by
  rw [u64_and a 255 h0 (by omega) (by omega) (by omega)]
  have : a.toNat &&& (255 : Int).toNat ≤ (255 : Int).toNat := Nat.and_le_right
  have e : (255 : Int).toNat = 255 := rfl
  omega

theorem src_after {w : World} {b : Nat} {v i s : Value} (hb : w.heap[b]? = some (.cells #[v, i, s] 53 (0, 0))) (k1 k2 : Nat) (i' s' : Value) :
    ((((w.drewN k1).setCell ⟨b, 1, none⟩ i').setCell ⟨b, 2, none⟩ s').drewN k2).heap[b]? = some (.cells #[v, i', s'] 53 (0, 0)) ∧
    w.grownBy ((((w.drewN k1).setCell ⟨b, 1, none⟩ i').setCell ⟨b, 2, none⟩ s').drewN k2) (some b) := by
  have h0 : (w.drewN k1).heap[b]? = some (.cells #[v, i, s] 53 (0, 0)) := hb
  have h1 := heap_setCell_same (w.drewN k1) b 1 _ _ i' h0
  have h2 := heap_setCell_same _ b 2 _ _ s' h1
  refine ⟨h2, ⟨rfl, rfl, rfl, ?_, fun k hk hne => ?_⟩⟩
  · show w.heap.size ≤ ((((w.drewN k1).setCell ⟨b, 1, none⟩ i').setCell ⟨b, 2, none⟩ s')).heap.size
    simp [World.setCell]
  · have hne' : k ≠ b := fun e => hne (by rw [e])
    show ((((w.drewN k1).setCell ⟨b, 1, none⟩ i').setCell ⟨b, 2, none⟩ s')).heap[k]? = _
    rw [heap_setCell_other _ _ _ _ hne', heap_setCell_other _ _ _ _ hne']
    rfl

theorem next_any (b : Nat) (A : Option Addr) (n c N : Nat) (w : World) (hs : SrcAt w b (.slice A n c) N) (hr : RdB w A n b) (hN : N < 1000000000) (hn : n ≤ 1000000) :
    Calls Try.prog 40 #[.pointer (some ⟨b, 0, none⟩)] w (NextR b (.slice A n c) (N + 1) 0 255 w) := by
  obtain ⟨seed, s0, s1, hb⟩ := hs
  have c0 : w.cell? ⟨b, 0, none⟩ = some (.slice A n c) := by rw [cell_of_row w b 0 _ _ _ hb]; rfl
  have c1 : w.cell? ⟨b, 1, none⟩ = some (.int .i64 N) := by rw [cell_of_row w b 1 _ _ _ hb]; rfl
  have c2 : w.cell? ⟨b, 2, none⟩ = some (.int .u64 seed) := by rw [cell_of_row w b 2 _ _ _ hb]; rfl
  have f1 := frozen_of_row w b 1 _ _ hb
  have f2 := frozen_of_row w b 2 _ _ hb
  have HB := Lib.hid hb; clear hb
  by_cases hlt : N < n
  · obtain ⟨g, off, z, rfl, hg, hgb, hz, z0, z1⟩ := hr N hlt
    clear hr
    go_enter Try.func40, Try.ntmps40
    go_wp2_with fail
    go_quiet (fail)
    go_wp2_with fail
    go_quiet (fail)
    go_wp2_with fail
    go_quiet (fail)
    go_wp2
    go_ret
    have h := src_after HB.out
    exact ⟨z, z0, z1, rfl, ⟨_, (wrap_u64_bd _).1, (wrap_u64_bd _).2, (h _ _ _ _).1⟩, (h _ _ _ _).2⟩
  · clear hr
    go_enter Try.func40, Try.ntmps40
    go_wp2_with fail
    go_quiet (fail)
    go_wp2_with fail
    go_quiet (fail)
    have hw := wrap_u64_bd (IntKind.u64.wrap (IntKind.u64.wrap (seed * 6364136223846793005)) + 1442695040888963407)
    go_wp2
    go_ret
    have h := src_after HB.out
    generalize hS : IntKind.u64.wrap (IntKind.u64.wrap (IntKind.u64.wrap (seed * 6364136223846793005)) + 1442695040888963407) = S at *
    have ha := and255_bd (S / 1099511627776) (by omega) (by omega)
    refine ⟨bits .and .u64 (S / 1099511627776) 255, ha.1, ha.2, ?_, ⟨S, hw.1, hw.2, (h _ _ _ _).1⟩, (h _ _ _ _).2⟩
    show Ending.returned (Value.int IntKind.i64 (wrap64 _)) = _
    rw [IntWalk.wrap64_in _ (by omega)]

/-- The slice reads as bytes. -/
def RdC (w : World) (A : Option Addr) (n : Nat) : Prop := ∀ k, k < n → ∃ b off z, A = some ⟨b, off, none⟩ ∧ b < w.heap.size ∧ w.cell? ⟨b, off + k, none⟩ = some (.int .u8 z) ∧ 0 ≤ z ∧ z ≤ 255

theorem from_any (v : Value) (w : World) (A : Option Addr) (n c : Nat) (hv : v = .slice A n c) :
    Calls Try.prog 14 #[v] w fun e w' => e = .returned (.pointer (some ⟨w.heap.size, 0, none⟩)) ∧ w.alloc (.cells #[v, .int .i64 0, .int .u64 0] 53) = w' := by
  subst hv
  go_enter Try.func14, Try.ntmps14
  go_wp2
  go_ret
  exact ⟨rfl, rfl⟩

/-- A slice of bytes that came in, opened. -/
theorem open_bytes {H : Type} {enc : TypeId × Value → H} {P : Program} {W : World} {r : Reach} {b0 base : Nat} {sp : Nat → Bool} {held : Bool} {t e : TypeId} {v : Value} {d : DataW H} {p : List MemPlace}
    (ht : P.underlying t = some (.slice e)) (he : P.underlying e = some (.int .u8)) (hc : P.cellsOf e = 1) (hv : Value.okWide P W r b0 t v) (hd : DataW.Trod enc P W base sp held t v d p) :
    ∃ A n c, v = .slice A n c ∧ RdC W A n ∧ n ≤ maxLen := by
  obtain ⟨A, n, c, rfl⟩ := okWide_slice ht hv
  obtain ⟨fuel, hf⟩ := hd
  rcases open_ints ht he hc hf with ⟨hcs, _⟩ | ⟨a, l, cap, zs, hcs, _, hl, hm, hz, _, hcell, hwf⟩
  · simp [Value.cells] at hcs
    obtain ⟨rfl, rfl, rfl⟩ := hcs
    exact ⟨_, _, _, rfl, fun k hk => by omega, by omega⟩
  · simp [Value.cells] at hcs
    obtain ⟨rfl, rfl, rfl⟩ := hcs
    refine ⟨_, _, _, rfl, fun k hk => ?_, by omega⟩
    have hlen : n ≤ zs.length := by rw [hz]; split <;> omega
    obtain ⟨b, off, rfl, hc2⟩ := ints_at hcell (by omega)
    have hk2 := hc2 k (by omega)
    have hz2 := bounds_u8 (hwf (zs.getD k 0) (by simp [List.getD, show k < zs.length by omega]))
    exact ⟨b, off, zs.getD k 0, rfl, block_lt_of_cell hk2, hk2, hz2.1, hz2.2⟩

theorem RdC_kept {w w1 : World} {A : Option Addr} {n : Nat} (h : RdC w A n) (hb : Below w.heap.size w w1) : RdC w1 A n := by
  intro k hk
  obtain ⟨b, off, z, e, hlt, hc, z0, z1⟩ := h k hk
  exact ⟨b, off, z, e, Nat.lt_of_lt_of_le hlt hb.size, by rw [kept_cell hb b _ hlt]; exact hc, z0, z1⟩

theorem flat_len {α : Type} {enc : α → List Value} {sz : Nat} (h : ∀ z, (enc z).length = sz) (zs : List α) : (zs.flatMap enc).length = zs.length * sz := by
  induction zs with
  | nil => simp
  | cons z zs ih => rw [List.flatMap_cons, List.length_append, ih, h, List.length_cons, Nat.add_mul]; omega

theorem flat_at {α : Type} {enc : α → List Value} {sz : Nat} (h : ∀ z, (enc z).length = sz) (zs : List α) (k j : Nat) (hk : k < zs.length) (hj : j < sz) : (zs.flatMap enc)[k * sz + j]? = (enc zs[k])[j]? := by
  induction zs generalizing k with
  | nil => simp at hk
  | cons z zs ih =>
    cases k with
    | zero => rw [List.flatMap_cons, List.getElem?_append_left (by rw [h]; omega)]; simp
    | succ k =>
      have e : (k + 1) * sz + j - (enc z).length = k * sz + j := by rw [h, Nat.add_mul]; omega
      rw [List.flatMap_cons, List.getElem?_append_right (by rw [h, Nat.add_mul]; omega), e, ih k (by simpa using hk)]
      simp

/-- The slice value reads as n elements of sz cells each, cell for cell. -/
def RdF (w : World) (v : Value) (n sz : Nat) (xs : List Value) : Prop :=
  n ≤ 9223372036854775807 ∧ xs.length = n * sz ∧ ∃ A c, v = .slice A n c ∧ ∀ i, i < n * sz → ∃ b off, A = some ⟨b, off, none⟩ ∧ b < w.heap.size ∧ w.cell? ⟨b, off + i, none⟩ = xs[i]?

theorem RdF_kept {W w1 : World} {v : Value} {n sz : Nat} {xs : List Value} (h : RdF W v n sz xs) (hb : Below W.heap.size W w1) : RdF w1 v n sz xs := by
  obtain ⟨hl, hx, A, c, rfl, hr⟩ := h
  refine ⟨hl, hx, A, c, rfl, fun k hk => ?_⟩
  obtain ⟨b, off, e, hlt, hc⟩ := hr k hk
  exact ⟨b, off, e, Nat.lt_of_lt_of_le hlt hb.size, by rw [kept_cell hb b _ hlt]; exact hc⟩

/-- A row of elements of the call's own (type e, sz cells each), in a block from lo on and below hi. -/
def RowF (e sz : Nat) (w : World) (lo hi : Nat) (v : Value) (n : Nat) (xs : List Value) : Prop :=
  w.ownsRow lo e sz v n xs ∧ ∀ g, v.ownBlock = some g → lo ≤ g ∧ g < hi

theorem RowF_nil (e sz : Nat) (w : World) (lo hi : Nat) : RowF e sz w lo hi (.slice none 0 0) 0 [] := ⟨World.ownsRow_nil _ _ _ _, fun g h => by simp [Value.ownBlock] at h⟩

theorem RowF_form {e sz : Nat} {w : World} {lo hi : Nat} {v : Value} {n : Nat} {xs : List Value} (h : RowF e sz w lo hi v n xs) :
    (n = 0 ∧ xs = [] ∧ v = .slice none 0 0) ∨ ∃ g cap, v = .slice (some ⟨g, 0, none⟩) n cap ∧ lo ≤ g ∧ g < hi ∧ g < w.heap.size ∧ n ≤ cap ∧ cap ≤ maxLen := by
  rcases h.1.2 with ⟨h1, h2⟩ | ⟨g, cap, cur, rfl, hg, hh, h3, h4, _⟩
  · exact Or.inl ⟨h2, List.eq_nil_of_length_eq_zero (by rw [h.1.1, h2, Nat.zero_mul]), h1⟩
  · exact Or.inr ⟨g, cap, rfl, hg, (h.2 g rfl).2, (h.1.lt g rfl).2, h3, h4⟩

theorem RowF_rd {e sz : Nat} {w : World} {lo hi : Nat} {v : Value} {n : Nat} {xs : List Value} (h : RowF e sz w lo hi v n xs) : RdF w v n sz xs := by
  rcases RowF_form h with ⟨rfl, rfl, rfl⟩ | ⟨g, cap, rfl, _, _, hlt, h3, h4⟩
  · exact ⟨by simp, by simp, none, 0, rfl, fun k hk => by simp at hk⟩
  · unfold maxLen at h4
    refine ⟨by omega, h.1.1, some ⟨g, 0, none⟩, cap, rfl, fun k hk => ⟨g, 0, rfl, hlt, ?_⟩⟩
    rw [Nat.zero_add, h.1.cellAt k hk]

theorem RowF_kept {e sz : Nat} {W w1 : World} {lo hi : Nat} {v : Value} {n : Nat} {xs : List Value} (h : RowF e sz W lo hi v n xs) (hb : Below W.heap.size W w1) : RowF e sz w1 lo hi v n xs := ⟨own_kept h.1 hb, h.2⟩

theorem RowF_far {e sz : Nat} {W w1 : World} {lo hi : Nat} {v : Value} {n : Nat} {xs : List Value} {row : Option Nat} (h : RowF e sz W lo hi v n xs) (hg : W.grownBy w1 row) (hr : ∀ g, row = some g → g < lo ∨ hi ≤ g) : RowF e sz w1 lo hi v n xs := by
  refine ⟨h.1.kept hg ?_, h.2⟩
  rcases hv : v.ownBlock with _ | g
  · exact Or.inl rfl
  · refine Or.inr (fun e => ?_)
    have h1 := h.2 g hv
    have h2 := hr g e.symm
    omega

theorem RowF_lo {e sz : Nat} {w : World} {lo lo' hi hi' : Nat} {v : Value} {n : Nat} {xs : List Value} (h : RowF e sz w lo hi v n xs) (hl : lo' ≤ lo) (hh : hi ≤ hi') : RowF e sz w lo' hi' v n xs :=
  ⟨Joins.ownsRow_le h.1 hl, fun g hg => ⟨by have := (h.2 g hg).1; omega, by have := (h.2 g hg).2; omega⟩⟩

/-- A pair of numbers, cell by cell. -/
def encP (z : Int × Int) : List Value := [.int .i64 z.1, .int .i64 z.2]

def flatP (zs : List (Int × Int)) : List Value := zs.flatMap encP

theorem flatP_len (zs : List (Int × Int)) : (flatP zs).length = zs.length * 2 := flat_len (enc := encP) (fun _ => rfl) zs

theorem flatP_at (zs : List (Int × Int)) (k : Nat) (h : k < zs.length) : (flatP zs)[k * 2]? = some (.int .i64 zs[k].1) ∧ (flatP zs)[k * 2 + 1]? = some (.int .i64 zs[k].2) :=
  ⟨flat_at (enc := encP) (sz := 2) (fun _ => rfl) zs k 0 h (by omega), flat_at (enc := encP) (sz := 2) (fun _ => rfl) zs k 1 h (by omega)⟩

/-- The slice value reads as a list of pairs of numbers. -/
def RdP (w : World) (v : Value) (zs : List (Int × Int)) : Prop := RdF w v zs.length 2 (flatP zs)

theorem RdP_kept {W w1 : World} {v : Value} {zs : List (Int × Int)} (h : RdP W v zs) (hb : Below W.heap.size W w1) : RdP w1 v zs := RdF_kept h hb

theorem RdP_slice {w : World} {v : Value} {zs : List (Int × Int)} (h : RdP w v zs) : ∃ A c, v = .slice A zs.length c ∧ zs.length ≤ 9223372036854775807 ∧
    ∀ k, (hk : k < zs.length) → ∃ b off, A = some ⟨b, off, none⟩ ∧ b < w.heap.size ∧ w.cell? ⟨b, off + k * 2, none⟩ = some (.int .i64 zs[k].1) ∧ w.cell? ⟨b, off + k * 2 + 1, none⟩ = some (.int .i64 zs[k].2) := by
  obtain ⟨hl, hx, A, c, rfl, hr⟩ := h
  refine ⟨A, c, rfl, hl, fun k hk => ?_⟩
  obtain ⟨b, off, rfl, hlt, h0⟩ := hr (k * 2) (by omega)
  obtain ⟨b', off', e, _, h1⟩ := hr (k * 2 + 1) (by omega)
  simp only [Option.some.injEq, Addr.mk.injEq, and_true] at e
  obtain ⟨rfl, rfl⟩ := e
  rw [(flatP_at zs k hk).1] at h0
  rw [(flatP_at zs k hk).2, ← Nat.add_assoc] at h1
  exact ⟨b, off, rfl, hlt, h0, h1⟩

theorem info_step : (Try.prog.info? 35).map (fun i => (i.zero, i.size, i.bytes)) = some (some (.agg #[.int .i64 0, .int .i64 0]), 2, 16) := by kernel_rfl

theorem flatP_set (l : List (Int × Int)) (j : Nat) (x y : Int) : ((flatP l).set (j * 2) (.int .i64 x)).set (j * 2 + 1) (.int .i64 y) = flatP (l.set j (x, y)) := by
  induction l generalizing j with
  | nil => simp [flatP]
  | cons z l ih =>
    cases j with
    | zero => simp [flatP, encP]
    | succ j =>
      have := ih j
      simp only [flatP, encP, List.flatMap_cons, List.cons_append, List.nil_append, Nat.succ_mul, List.set_cons_succ] at this ⊢
      rw [this]

theorem fill_step {α : Type} (T : List α) (z : α) (j : Nat) (h : j < T.length) : (T.take j ++ List.replicate (T.length - j) z).set j T[j] = T.take (j + 1) ++ List.replicate (T.length - (j + 1)) z := by
  obtain ⟨m, hm⟩ : ∃ m, T.length - j = m + 1 := ⟨T.length - j - 1, by omega⟩
  rw [hm, show T.length - (j + 1) = m by omega, List.replicate_succ, List.set_append, if_neg (by simp; omega), List.length_take, Nat.min_eq_left (by omega), Nat.sub_self, List.set_cons_zero, ← List.take_append_getElem h, List.append_assoc]
  rfl

theorem make_steps (n : Nat) (h : n ≤ 4000000) (w : World) :
    (Instr.makeSlice 24 (.int .i64 (n : Int)) (.int .i64 (n : Int))).run Try.prog w = .ok (.slice (some ⟨w.heap.size, 0, none⟩) n n) (w.alloc (.cells (madeCells #[.int .i64 0, .int .i64 0] (n * 2)) 35)) := by
  obtain ⟨i, hi, hz, hs, hb⟩ := info_parts info_step
  have hb' : (i.bytes : Int) * (n : Int) ≤ 281474976710656 := by rw [hb]; omega
  have hr := run_make (P := Try.prog) w 24 35 i (.agg #[.int .i64 0, .int .i64 0]) Try.underlying24 hi hz .i64 .i64 n n (by omega) (Int.le_refl _) hb' (by omega)
  simp only [Int.toNat_natCast, hs] at hr
  exact hr

theorem made_flat (n : Nat) : (madeCells #[.int .i64 0, .int .i64 0] (n * 2)).toList = flatP (List.replicate n (0, 0)) := by
  apply List.ext_getElem?
  intro j
  by_cases hj : j < n * 2
  · have h := flatP_at (List.replicate n ((0 : Int), (0 : Int))) (j / 2) (by simp; omega)
    simp only [List.getElem_replicate] at h
    rcases Nat.mod_two_eq_zero_or_one j with hp | hp
    · rw [show j / 2 * 2 = j by omega] at h
      rw [h.1]
      simp [madeCells, hj, hp]
    · rw [show j / 2 * 2 + 1 = j by omega] at h
      rw [h.2]
      simp [madeCells, hj, hp]
  · rw [List.getElem?_eq_none (by rw [Array.length_toList, size_madeCells]; omega), List.getElem?_eq_none (by rw [flatP_len]; simp; omega)]

/-- The step i of a list is in order. -/
def OkAt (zs : List (Int × Int)) (i : Nat) (h : i < zs.length) : Prop :=
  (1 ≤ zs[i].1 ∧ zs[i].1 ≤ 1000 ∧ 0 ≤ zs[i].2 ∧ zs[i].2 ≤ 50000) ∧ (0 < i → zs[i - 1].1 < zs[i].1 ∧ zs[i].2 ≤ zs[i - 1].2)

def OkAll (zs : List (Int × Int)) (n : Nat) : Prop := ∀ i, (h : i < zs.length) → i < n → OkAt zs i h

theorem OkAll_step {zs : List (Int × Int)} {n : Nat} (h : OkAll zs n) (hn : n < zs.length) (h1 : OkAt zs n hn) : OkAll zs (n + 1) := by
  intro i hi hlt
  rcases Nat.lt_or_ge i n with h2 | h2
  · exact h i hi h2
  · obtain rfl : i = n := by omega
    exact h1

/-- The list is a load chart. -/
def ChartP (zs : List (Int × Int)) : Prop := OkAll zs zs.length ∧ 1 ≤ zs.length ∧ zs.length ≤ 20

open Classical in
/-- .. as a bool. -/
noncomputable def chartB (zs : List (Int × Int)) : Bool := decide (ChartP zs)

theorem chartB_true {zs : List (Int × Int)} (h : ChartP zs) : chartB zs = true := by simp [chartB, h]

theorem chartB_false {zs : List (Int × Int)} (h : ¬ ChartP zs) : chartB zs = false := by simp [chartB, h]

theorem chartB_iff {zs : List (Int × Int)} : chartB zs = true ↔ ChartP zs := by simp [chartB]

theorem drew_more {w a : World} (h : ∃ q, a = w.drewN q) (n : Nat) : ∃ q, a.drewN n = w.drewN q := by
  obtain ⟨q, rfl⟩ := h
  exact ⟨q + n, World.drewN_drewN _ _ _⟩

theorem specChart_quiet (v : Value) (zs : List (Int × Int)) (w : World) (h : RdP w v zs) :
    Calls Try.prog 16 #[v] w fun e w' => e = .returned (.bool (chartB zs)) ∧ ∃ q, w' = w.drewN q := by
  obtain ⟨A, c, rfl, hl, r1⟩ := RdP_slice h
  clear h
  have R := Lib.hid r1; clear r1
  go_enter Try.func16, Try.ntmps16
  go_wp2_with fail
  go_loopw [3] (fun i wr => ∃ k : Nat, k ≤ zs.length ∧ i = .int .i64 k ∧ OkAll zs k ∧ ∃ q, wr = w.drewN q) (fun i _ => zs.length - (intOf i).toNat)
  case atStart => exact ⟨0, by omega, rfl, fun i _ h => by omega, 0, World.drewN_zero w⟩
  case round =>
    obtain ⟨k, hk, rfl, hall, hq⟩ := hrel
    have hb : Below w.heap.size w wr := by obtain ⟨q, rfl⟩ := hq; exact kept_drewN (Below.refl _ _) _
    have HQ := Lib.hid hq; clear hq
    by_cases hlt : k < zs.length
    · obtain ⟨b, off, rfl, hbl, hc0, hc1⟩ := R.out k hlt
      rw [← kept_cell hb b _ hbl] at hc0 hc1
      have hbad : ¬ OkAt zs k hlt → chartB zs = false := fun hn => chartB_false fun hc => hn (hc.1 k hlt hlt)
      have hgood : OkAt zs k hlt → OkAll zs (k + 1) := OkAll_step hall hlt
      unfold OkAt at hbad hgood
      generalize hx : zs[k].1 = x at *
      generalize hy : zs[k].2 = y at *
      have Hall := Lib.hid hall; clear hall
      have Hbad := Lib.hid hbad; clear hbad
      have Hgood := Lib.hid hgood; clear hgood
      cases i1 : inB x 1 1000
      · go_wp2_with (go_at_call 34; refine (in_any _ _ _ _).mono ?_; rintro e w1 ⟨rfl, rfl⟩)
        go_ret
        exact ⟨by rw [Hbad.out (fun h => inB_false i1 ⟨h.1.1, h.1.2.1⟩)]; rfl, HQ.out⟩
      · have j1 := inB_true i1
        cases i2 : inB y 0 50000
        · go_wp2_with (go_at_call 34; refine (in_any _ _ _ _).mono ?_; rintro e w1 ⟨rfl, rfl⟩)
          go_ret
          exact ⟨by rw [Hbad.out (fun h => inB_false i2 ⟨h.1.2.2.1, h.1.2.2.2⟩)]; rfl, HQ.out⟩
        · have j2 := inB_true i2
          by_cases h0 : k = 0
          · subst h0
            simp only [Nat.zero_mul, Nat.add_zero] at hc0 hc1
            go_wp2_with (go_at_call 34; refine (in_any _ _ _ _).mono ?_; rintro e w1 ⟨rfl, rfl⟩)
            go_quiet (fail)
            go_wp2
            go_roundw
            case rel => exact ⟨1, by omega, by go_num, Hgood.out ⟨by omega, fun h => by omega⟩, drew_more HQ.out _⟩
            case measure => simp [intOf]; omega
          · obtain ⟨m, hm⟩ : ∃ m, k - 1 = m := ⟨k - 1, rfl⟩
            have hkm : (k : Int) - 1 = (m : Int) := by omega
            have hkd : decide (0 < k) = true := by simp; omega
            obtain ⟨b', off', e', _, hd0, hd1⟩ := R.out m (by omega)
            simp only [Option.some.injEq, Addr.mk.injEq, and_true] at e'
            obtain ⟨rfl, rfl⟩ := e'
            rw [← kept_cell hb b _ hbl] at hd0 hd1
            simp only [hm] at Hbad Hgood
            generalize zs[m].1 = x' at *
            generalize zs[m].2 = y' at *
            by_cases h1 : x ≤ x'
            · go_wp2_with (go_at_call 34; refine (in_any _ _ _ _).mono ?_; rintro e w1 ⟨rfl, rfl⟩)
              go_quiet (fail)
              go_wp2
              go_ret
              exact ⟨by rw [Hbad.out (fun h => by omega)]; rfl, drew_more HQ.out _⟩
            · have hd1 : decide (x ≤ x') = false := by simp; omega
              by_cases h2 : y' < y
              · go_wp2_with (go_at_call 34; refine (in_any _ _ _ _).mono ?_; rintro e w1 ⟨rfl, rfl⟩)
                go_quiet (fail)
                go_wp2
                go_ret
                exact ⟨by rw [Hbad.out (fun h => by omega)]; rfl, drew_more HQ.out _⟩
              · go_wp2_with (go_at_call 34; refine (in_any _ _ _ _).mono ?_; rintro e w1 ⟨rfl, rfl⟩)
                go_quiet (fail)
                go_wp2
                go_roundw
                case rel => exact ⟨k + 1, by omega, by go_num, Hgood.out ⟨by omega, fun h => by omega⟩, drew_more HQ.out _⟩
                case measure => simp [intOf]; omega
    · have : k = zs.length := by omega
      subst this
      have E : inB (zs.length : Int) 1 20 = chartB zs := by
        by_cases hc : 1 ≤ zs.length ∧ zs.length ≤ 20
        · rw [chartB_true ⟨hall, hc⟩]
          simp [inB]
          omega
        · rw [chartB_false fun h => hc h.2]
          simp only [inB]
          simp
          omega
      go_wp2_with (go_at_call 34; refine (in_any _ _ _ _).mono ?_; rintro e w1 ⟨rfl, rfl⟩)
      go_ret
      exact ⟨rfl, HQ.out⟩

theorem specChart_any (v : Value) (zs : List (Int × Int)) (w : World) (h : RdP w v zs) :
    Calls Try.prog 16 #[v] w fun e w' => e = .returned (.bool (chartB zs)) ∧ Below w.heap.size w w' :=
  (specChart_quiet v zs w h).mono fun e w' ⟨he, q, hq⟩ => ⟨he, hq ▸ kept_drewN (Below.refl _ _) _⟩

/-- The step before the step k; ahead of the first one, what no step can fail. -/
def prevP (zs : List (Int × Int)) : Nat → Int × Int
  | 0 => (0, 50000)
  | m + 1 => zs.getD m (0, 50000)

theorem prevP_succ (zs : List (Int × Int)) (k : Nat) (h : k < zs.length) : prevP zs (k + 1) = zs[k] := by simp [prevP, h]

theorem OkAt_prev {zs : List (Int × Int)} {k : Nat} (hall : OkAll zs k) (h : k < zs.length) :
    OkAt zs k h ↔ (prevP zs k).1 < zs[k].1 ∧ zs[k].1 ≤ 1000 ∧ 0 ≤ zs[k].2 ∧ zs[k].2 ≤ (prevP zs k).2 := by
  cases k with
  | zero => simp only [OkAt, prevP]; omega
  | succ m =>
    have h1 := hall m (by omega) (by omega)
    rw [prevP_succ zs m (by omega)]
    simp only [OkAt, Nat.add_sub_cancel] at h1 ⊢
    omega

theorem implChart_any (v : Value) (zs : List (Int × Int)) (w : World) (h : RdP w v zs) :
    Calls Try.prog 30 #[v] w fun e w' => e = .returned (.bool (chartB zs)) ∧ Below w.heap.size w w' := by
  obtain ⟨A, c, rfl, hl, r1⟩ := RdP_slice h
  clear h
  have R := Lib.hid r1; clear r1
  by_cases g1 : zs.length < 1
  · have hc : chartB zs = false := chartB_false fun h => by have := h.2; omega
    rw [hc]
    go_enter Try.func30, Try.ntmps30
    go_wp2
    go_ret
    exact ⟨rfl, Below.refl _ _⟩
  by_cases g2 : 20 < zs.length
  · have hc : chartB zs = false := chartB_false fun h => by have := h.2; omega
    rw [hc]
    go_enter Try.func30, Try.ntmps30
    go_wp2
    go_ret
    exact ⟨rfl, Below.refl _ _⟩
  go_enter Try.func30, Try.ntmps30
  go_wp2_with fail
  go_loopw [17] (fun i wr => ∃ k : Nat, k ≤ zs.length ∧ i = .int .i64 k ∧ OkAll zs k ∧ Below w.heap.size w wr ∧ w.heap.size < wr.heap.size ∧ wr.cell? ⟨w.heap.size, 0, none⟩ = some (.int .i64 (prevP zs k).1) ∧ wr.cell? ⟨w.heap.size, 1, none⟩ = some (.int .i64 (prevP zs k).2) ∧ wr.frozen? ⟨w.heap.size, 0, none⟩ = false ∧ wr.frozen? ⟨w.heap.size, 1, none⟩ = false) (fun i _ => zs.length - (intOf i).toNat)
  case atStart => exact ⟨0, by omega, rfl, fun i _ h => by omega, by go_grown, by simp, by simp [prevP], by simp [prevP], by simp, by simp⟩
  case round =>
    obtain ⟨k, hk, rfl, hall, hb, hlw, hp0, hp1, hz0, hz1⟩ := hrel
    by_cases hlt : k < zs.length
    · obtain ⟨b, off, rfl, hbl, hc0, hc1⟩ := R.out k hlt
      rw [← kept_cell hb b _ hbl] at hc0 hc1
      have hiff := OkAt_prev hall hlt
      have hbad : ¬ OkAt zs k hlt → chartB zs = false := fun hn => chartB_false fun hc => hn (hc.1 k hlt hlt)
      have hgood : OkAt zs k hlt → OkAll zs (k + 1) := OkAll_step hall hlt
      have hnext := prevP_succ zs k hlt
      rw [hiff] at hbad hgood
      clear hiff
      rw [show zs[k] = (zs[k].1, zs[k].2) from rfl] at hnext
      generalize zs[k].1 = x at *
      generalize zs[k].2 = y at *
      generalize (prevP zs k).1 = x' at *
      generalize (prevP zs k).2 = y' at *
      have Hall := Lib.hid hall; clear hall
      have Hbad := Lib.hid hbad; clear hbad
      have Hgood := Lib.hid hgood; clear hgood
      have Hnext := Lib.hid hnext; clear hnext
      by_cases h1 : x ≤ x'
      · go_wp2
        go_ret
        exact ⟨by rw [Hbad.out (fun h => by omega)]; rfl, by go_grown⟩
      · have hd1 : decide (x ≤ x') = false := by simp; omega
        by_cases h2 : 1000 < x
        · go_wp2
          go_ret
          exact ⟨by rw [Hbad.out (fun h => by omega)]; rfl, by go_grown⟩
        · by_cases h3 : y < 0
          · go_wp2
            go_ret
            exact ⟨by rw [Hbad.out (fun h => by omega)]; rfl, by go_grown⟩
          · by_cases h4 : y' < y
            · go_wp2
              go_ret
              exact ⟨by rw [Hbad.out (fun h => by omega)]; rfl, by go_grown⟩
            · go_wp2
              go_roundw
              case rel => exact ⟨k + 1, by omega, by go_num, Hgood.out (by omega), by go_grown, by simp; omega, by rw [Hnext.out]; simp [World.cell?_alloc_past, World.cell?_setCell_same', World.cell?_setCell_other, hlw, hp0, hp1], by rw [Hnext.out]; simp [World.cell?_alloc_past, World.cell?_setCell_same', World.cell?_setCell_other, hlw, hp0, hp1], by simp [World.frozen?_alloc_past, hlw, hz0], by simp [World.frozen?_alloc_past, hlw, hz1]⟩
              case measure => simp [intOf]; omega
    · have : k = zs.length := by omega
      subst this
      go_wp2
      go_ret
      exact ⟨by rw [chartB_true ⟨hall, by omega, by omega⟩]; rfl, hb⟩

theorem specValid_any (v : Value) (zs : List (Int × Int)) (w : World) (h : RdP w v zs) :
    Calls Try.prog 12 #[v] w fun e w' => e = .returned (.bool (chartB zs)) ∧ Below w.heap.size w w' := by
  go_enter Try.func12, Try.ntmps12
  go_wp2_with fail
  refine (specChart_any v zs _ h).mono ?_
  rintro e w1 ⟨rfl, hb⟩
  go_wp2
  go_ret
  exact ⟨rfl, hb⟩

/-- The code of a chart and a number. -/
noncomputable def codeL (zs : List (Int × Int)) (n lo hi : Int) : Int := if chartB zs then (if inB n lo hi then 0 else 2) else 1

theorem codeL_cases (zs : List (Int × Int)) (n lo hi : Int) : (codeL zs n lo hi = 0 ∧ ChartP zs ∧ lo ≤ n ∧ n ≤ hi) ∨ codeL zs n lo hi = 1 ∨ codeL zs n lo hi = 2 := by
  unfold codeL
  cases h1 : chartB zs
  · simp
  · cases h2 : inB n lo hi
    · simp
    · exact Or.inl ⟨by simp, chartB_iff.1 h1, inB_true h2⟩

theorem specCode_any (v : Value) (zs : List (Int × Int)) (r : Int) (w : World) (h : RdP w v zs) :
    Calls Try.prog 31 #[v, .int .i64 r] w fun e w' => e = .returned (.int .i64 (codeL zs r 0 1000)) ∧ Below w.heap.size w w' := by
  unfold codeL
  cases h1 : chartB zs
  · go_enter Try.func31, Try.ntmps31
    go_wp2_with fail
    refine (specChart_any v zs _ h).mono ?_
    rw [h1]
    rintro e w1 ⟨rfl, hb⟩
    go_wp2
    go_ret
    exact ⟨rfl, hb⟩
  · cases h2 : inB r 0 1000
    all_goals
      go_enter Try.func31, Try.ntmps31
      go_wp2_with fail
      refine (specChart_any v zs _ h).mono ?_
      rw [h1]
      rintro e w1 ⟨rfl, hb⟩
      go_wp2_with (go_at_call 34; refine (in_any _ _ _ _).mono ?_; rintro e w1 ⟨rfl, rfl⟩)
      go_ret
      exact ⟨rfl, hb⟩

theorem implCode_any (v : Value) (zs : List (Int × Int)) (r lo hi : Int) (w : World) (h : RdP w v zs) :
    Calls Try.prog 21 #[v, .int .i64 r, .int .i64 lo, .int .i64 hi] w fun e w' => e = .returned (.int .i64 (codeL zs r lo hi)) ∧ Below w.heap.size w w' := by
  unfold codeL inB
  cases h1 : chartB zs
  · go_enter Try.func21, Try.ntmps21
    go_wp2_with fail
    refine (implChart_any v zs _ h).mono ?_
    rw [h1]
    rintro e w1 ⟨rfl, hb⟩
    go_wp2
    go_ret
    exact ⟨rfl, hb⟩
  · by_cases h2 : r < lo
    · have e : (decide (lo ≤ r) && decide (r ≤ hi)) = false := by simp; omega
      rw [e]
      go_enter Try.func21, Try.ntmps21
      go_wp2_with fail
      refine (implChart_any v zs _ h).mono ?_
      rw [h1]
      rintro e w1 ⟨rfl, hb⟩
      go_wp2
      go_ret
      exact ⟨rfl, hb⟩
    · by_cases h3 : hi < r
      · have e : (decide (lo ≤ r) && decide (r ≤ hi)) = false := by simp; omega
        rw [e]
        go_enter Try.func21, Try.ntmps21
        go_wp2_with fail
        refine (implChart_any v zs _ h).mono ?_
        rw [h1]
        rintro e w1 ⟨rfl, hb⟩
        go_wp2
        go_ret
        exact ⟨rfl, hb⟩
      · have e : (decide (lo ≤ r) && decide (r ≤ hi)) = true := by simp; omega
        rw [e]
        go_enter Try.func21, Try.ntmps21
        go_wp2_with fail
        refine (implChart_any v zs _ h).mono ?_
        rw [h1]
        rintro e w1 ⟨rfl, hb⟩
        go_wp2
        go_ret
        exact ⟨rfl, hb⟩

/-- The index of the first step whose radius is not less; the length if there is none. -/
def findL (zs : List (Int × Int)) (r : Int) : Nat := zs.findIdx fun z => decide (r ≤ z.1)

theorem findL_le (zs : List (Int × Int)) (r : Int) : findL zs r ≤ zs.length := List.findIdx_le_length

theorem findL_before (zs : List (Int × Int)) (r : Int) (k : Nat) (h : k < findL zs r) (h1 : k < zs.length) : zs[k].1 < r := by
  have := List.not_of_lt_findIdx h
  simpa using this

theorem findL_at (zs : List (Int × Int)) (r : Int) (h : findL zs r < zs.length) : r ≤ (zs[findL zs r]).1 := by
  have := List.findIdx_getElem (w := h)
  exact of_decide_eq_true this

theorem findL_is (zs : List (Int × Int)) (r : Int) (k : Nat) (hk : k ≤ zs.length) (hb : ∀ i, (h : i < zs.length) → i < k → zs[i].1 < r) (ha : (h : k < zs.length) → r ≤ zs[k].1) : findL zs r = k := by
  rcases Nat.lt_trichotomy (findL zs r) k with h | h | h
  · have h1 := findL_at zs r (by omega)
    have h2 := hb (findL zs r) (by omega) h
    omega
  · exact h
  · have hl := findL_le zs r
    have h1 := findL_before zs r k h (by omega)
    have h2 := ha (by omega)
    omega

theorem specFind_any (v : Value) (zs : List (Int × Int)) (r : Int) (w : World) (h : RdP w v zs) :
    Calls Try.prog 35 #[v, .int .i64 r] w fun e w' => e = .returned (.int .i64 (if findL zs r < zs.length then (findL zs r : Int) else -1)) ∧ w = w' := by
  obtain ⟨A, c, rfl, hl, r1⟩ := RdP_slice h
  clear h
  have R := Lib.hid r1; clear r1
  generalize hF : (if findL zs r < zs.length then (findL zs r : Int) else -1) = F
  have HF := Lib.hid hF; clear hF
  go_enter Try.func35, Try.ntmps35
  go_wp2_with fail
  go_loop [5] (fun i => ∃ k : Nat, k ≤ zs.length ∧ i = .int .i64 k ∧ ∀ i, (h : i < zs.length) → i < k → zs[i].1 < r) (fun i => zs.length - (intOf i).toNat)
  case atStart => exact ⟨0, by omega, rfl, fun i _ h => by omega⟩
  case round =>
    obtain ⟨k, hk, rfl, hall⟩ := hrel
    by_cases hlt : k < zs.length
    · obtain ⟨b, off, rfl, hbl, hc0, hc1⟩ := R.out k hlt
      have his := findL_is zs r k hk hall
      have Hall := Lib.hid hall; clear hall
      have hgood : zs[k].1 < r → ∀ i, (h : i < zs.length) → i < k + 1 → zs[i].1 < r := by
        intro hg i h hi
        rcases Nat.lt_or_ge i k with h2 | h2
        · exact Hall.out i h h2
        · obtain rfl : i = k := by omega
          exact hg
      have hnot : r ≤ zs[k].1 → findL zs r = k := fun h => his fun _ => h
      clear his
      have Hgood := Lib.hid hgood; clear hgood
      have Hnot := Lib.hid hnot; clear hnot
      generalize zs[k].1 = x at *
      by_cases hx : r ≤ x
      · go_wp2
        go_ret
        exact ⟨by rw [← HF.out, Hnot.out hx, if_pos hlt]; rfl, rfl⟩
      · go_wp2
        go_round
        case rel => exact ⟨k + 1, by omega, by go_num, Hgood.out (by omega)⟩
        case measure => simp [intOf]; omega
    · have : k = zs.length := by omega
      subst this
      have his := findL_is zs r zs.length (Nat.le_refl _) hall (fun h => by omega)
      have Hall := Lib.hid hall; clear hall
      have His := Lib.hid his; clear his
      go_wp2
      go_ret
      exact ⟨by rw [← HF.out, His.out, if_neg (by omega)]; rfl, rfl⟩

/-- A search in a list of answers that are first false and then true, the answers by a function that makes memory alone. -/
theorem sortSearch_any (n : Nat) (hn : n ≤ 1000000000) (g : FuncId) (he : Enters Try.prog g) (cap : Array Value) (p : Nat → Bool) (hmono : ∀ i j, i ≤ j → j < n → p i = true → p j = true) (w : World)
    (hf : ∀ i, i < n → ∀ w1, Below w.heap.size w w1 → Calls Try.prog g (#[.int .i64 (i : Nat)] ++ cap) w1 fun e w2 => e = .returned (.bool (p i)) ∧ Below w1.heap.size w1 w2) :
    Calls Try.prog 42 #[.int .i64 n, .func (.func g) #[] cap] w fun e w' => ∃ k : Nat, k ≤ n ∧ (∀ i, i < k → p i = false) ∧ (∀ i, k ≤ i → i < n → p i = true) ∧ e = .returned (.int .i64 k) ∧ Below w.heap.size w w' := by
  have Hf := Lib.hid hf; clear hf
  have Hm := Lib.hid hmono; clear hmono
  go_enter Try.func42, Try.ntmps42
  go_wp2_with fail
  go_loopw [5, 6] (fun i j wr => ∃ a b : Nat, a ≤ b ∧ b ≤ n ∧ i = .int .i64 a ∧ j = .int .i64 b ∧ (∀ i, i < a → p i = false) ∧ (∀ i, b ≤ i → i < n → p i = true) ∧ Below w.heap.size w wr) (fun i j _ => (intOf j).toNat - (intOf i).toNat)
  case atStart => exact ⟨0, n, by omega, Nat.le_refl _, rfl, rfl, fun i h => by omega, fun i h h2 => by omega, Below.refl _ _⟩
  case round =>
    obtain ⟨a, b, hab, hbn, rfl, rfl, hlo, hhi, hb⟩ := hrel
    have Hlo := Lib.hid hlo; clear hlo
    have Hhi := Lib.hid hhi; clear hhi
    by_cases hlt : a < b
    · have hm : ((a : Int) + (b : Int)) / 2 = (((a + b) / 2 : Nat) : Int) := by omega
      have hm1 : (a + b) / 2 < b ∧ a ≤ (a + b) / 2 := by omega
      generalize (a + b) / 2 = m at *
      have hc := Hf.out m (by omega) wr hb
      cases hp : p m
      all_goals
        rw [hp] at hc
        have Hp := Lib.hid hp; clear hp
        have Hc := Lib.hid hc; clear hc
        go_wp2_with fail
        rw [he, Oper.upon_enter]
        refine Hc.out.mono ?_
        rintro e w1 ⟨rfl, hb1⟩
        go_wp2
        go_roundw
        case rel => first
          | exact ⟨m + 1, b, by omega, hbn, by go_num, rfl, fun i hi => (by
              cases hq : p i
              · rfl
              · have := Hm.out i m (by omega) (by omega) hq
                rw [Hp.out] at this
                cases this), Hhi.out, kept_trans hb hb1⟩
          | exact ⟨a, m, by omega, by omega, rfl, rfl, Hlo.out, fun i h1 h2 => Hm.out m i h1 h2 Hp.out, kept_trans hb hb1⟩
        case measure => simp [intOf]; omega
    · have : a = b := by omega
      subst this
      go_wp2
      go_ret
      exact ⟨a, by omega, Hlo.out, Hhi.out, rfl, hb⟩

/-- The radii increase. -/
def Incr (zs : List (Int × Int)) : Prop := ∀ i j, (hi : i < zs.length) → (hj : j < zs.length) → i ≤ j → zs[i].1 ≤ zs[j].1

theorem ChartP_incr {zs : List (Int × Int)} (h : ChartP zs) : Incr zs := by
  intro i j hi hj hij
  induction j with
  | zero =>
    obtain rfl : i = 0 := by omega
    exact Int.le_refl _
  | succ j ih =>
    rcases Nat.lt_or_ge i (j + 1) with h1 | h1
    · have h2 := ih (by omega) (by omega)
      have h3 := (h.1 (j + 1) hj hj).2 (by omega)
      simp only [Nat.add_sub_cancel] at h3
      omega
    · obtain rfl : i = j + 1 := by omega
      exact Int.le_refl _

theorem stepClosure_any (v : Value) (zs : List (Int × Int)) (r : Int) (i : Nat) (hi : i < zs.length) (b1 b2 : Nat) (w : World) (h : RdP w v zs) (h1 : w.cell? ⟨b1, 0, none⟩ = some v) (h2 : w.cell? ⟨b2, 0, none⟩ = some (.int .i64 r)) :
    Calls Try.prog 43 #[.int .i64 (i : Nat), .pointer (some ⟨b1, 0, none⟩), .pointer (some ⟨b2, 0, none⟩)] w fun e w' => e = .returned (.bool (decide (r ≤ zs[i].1))) ∧ Below w.heap.size w w' := by
  obtain ⟨A, c, rfl, hl, r1⟩ := RdP_slice h
  clear h
  obtain ⟨b, off, rfl, hbl, hc0, hc1⟩ := r1 i hi
  clear r1
  generalize zs[i].1 = x at *
  cases hx : decide (r ≤ x)
  all_goals
    go_enter Try.func43, Try.ntmps43
    go_wp2_with fail
    go_quiet (fail)
    go_wp2
    go_ret
    exact ⟨rfl, kept_drewN (Below.refl _ _) _⟩

theorem stepFor_any (v : Value) (zs : List (Int × Int)) (r : Int) (w : World) (h : RdP w v zs) (hs : Incr zs) (hn : zs.length ≤ 1000000) :
    Calls Try.prog 38 #[v, .int .i64 r] w fun e w' => e = .returned (.int .i64 (findL zs r)) ∧ Below w.heap.size w w' := by
  obtain ⟨A, c, rfl, hl, _⟩ := RdP_slice h
  have H := Lib.hid h; clear h
  have hmf : ∀ (fn : Fn) (first cap : Array Value) (w : World), (Instr.makeFunc fn first cap).run Try.prog w = .ok (.func fn first cap) w := fun _ _ _ _ => rfl
  go_enter Try.func38, Try.ntmps38
  go_wp2_with fail
  refine (sortSearch_any zs.length (by omega) 43 (enters_of Try.func43 (by kernel_rfl) rfl) _ (fun i => decide (r ≤ (zs.getD i (0, 0)).1)) ?_ _ ?_).mono ?_
  · intro i j hij hj hp
    have := hs i j (by omega) hj hij
    simp only [List.getD_eq_getElem?_getD, List.getElem?_eq_getElem hj, List.getElem?_eq_getElem (show i < zs.length by omega), Option.getD_some, decide_eq_true_eq] at hp ⊢
    omega
  · intro i hi w1 hb1
    have hb2 : Below w.heap.size w w1 := kept_trans (a := w) (by go_grown) hb1
    have e1 := kept_cell hb1 w.heap.size 0 (by simp; omega)
    have e2 := kept_cell hb1 (w.heap.size + 1) 0 (by simp)
    have := stepClosure_any _ zs r i hi w.heap.size (w.heap.size + 1) w1 (RdP_kept H.out hb2) (by rw [e1]; simp) (by rw [e2]; simp)
    simp only [List.getD_eq_getElem?_getD, List.getElem?_eq_getElem hi, Option.getD_some]
    exact this
  · rintro e w1 ⟨k, hk, hlo, hhi, rfl, hb1⟩
    have hb2 : Below w.heap.size w w1 := kept_trans (a := w) (by go_grown) hb1
    have hf : findL zs r = k := by
      refine findL_is zs r k hk (fun i hi hik => ?_) (fun hkl => ?_)
      · have := hlo i hik
        simp only [List.getD_eq_getElem?_getD, List.getElem?_eq_getElem hi, Option.getD_some, decide_eq_false_iff_not] at this
        omega
      · have := hhi k (Nat.le_refl _) hkl
        simpa only [List.getD_eq_getElem?_getD, List.getElem?_eq_getElem hkl, Option.getD_some, decide_eq_true_eq] using this
    have Hlo := Lib.hid hlo; clear hlo
    have Hhi := Lib.hid hhi; clear hhi
    have Hff := Lib.hid hf; clear hf
    go_wp2
    go_ret
    exact ⟨by rw [Hff.out]; rfl, hb2⟩

/-- The step k. -/
def atP (zs : List (Int × Int)) (k : Nat) : Int × Int := zs.getD k (0, 0)

theorem atP_is (zs : List (Int × Int)) (k : Nat) (h : k < zs.length) : atP zs k = zs[k] := by simp [atP, h]

theorem rd_at {w : World} {A : Option Addr} {n c : Nat} {zs : List (Int × Int)} (h : RdP w (.slice A n c) zs) (k : Nat) (hk : k < zs.length) :
    n = zs.length ∧ ∃ b off, A = some ⟨b, off, none⟩ ∧ b < w.heap.size ∧ w.cell? ⟨b, off + k * 2, none⟩ = some (.int .i64 (atP zs k).1) ∧ w.cell? ⟨b, off + k * 2 + 1, none⟩ = some (.int .i64 (atP zs k).2) := by
  obtain ⟨A', c', e, hl, r1⟩ := RdP_slice h
  obtain ⟨b, off, rfl, hb, h0, h1⟩ := r1 k hk
  simp only [Value.slice.injEq] at e
  refine ⟨e.2.1, b, off, e.1, hb, ?_, ?_⟩
  · rw [atP_is zs k hk]; exact h0
  · rw [atP_is zs k hk]; exact h1

/-- A quotient, rounded up. -/
def upL (n d : Int) : Int := (n + d - 1) / d

/-- The load of a chart at a radius that it reaches. -/
def loadL (zs : List (Int × Int)) (r : Int) : Int :=
  if findL zs r = 0 then (atP zs 0).2 else
    (atP zs (findL zs r - 1)).2 - upL (((atP zs (findL zs r - 1)).2 - (atP zs (findL zs r)).2) * (r - (atP zs (findL zs r - 1)).1)) ((atP zs (findL zs r)).1 - (atP zs (findL zs r - 1)).1)

theorem mul_bd (a b p q : Int) (h1 : 0 ≤ a ∧ a ≤ p) (h2 : 0 ≤ b ∧ b ≤ q) : 0 ≤ a * b ∧ a * b ≤ p * q :=
  ⟨Int.mul_nonneg h1.1 h2.1, Int.mul_le_mul h1.2 h2.2 h2.1 (by omega)⟩

theorem specUp_any (n d : Int) (h1 : 0 ≤ n ∧ n ≤ 1000000000) (h2 : 1 ≤ d ∧ d ≤ 1000000) (w : World) :
    Calls Try.prog 36 #[.int .i64 n, .int .i64 d] w fun e w' => e = .returned (.int .i64 (upL n d)) ∧ w = w' := by
  have e : (n + d - 1).tdiv d = upL n d := by rw [upL, Int.tdiv_eq_ediv_of_nonneg (by omega)]
  have hd : (d == 0) = false := by simp; omega
  have hd2 : ¬ d = 0 := by omega
  have hd3 : ¬ d = -1 := by omega
  have hb : 0 ≤ upL n d ∧ upL n d ≤ 2000000000 := by
    rw [upL]
    refine ⟨Int.ediv_nonneg (by omega) (by omega), ?_⟩
    have := Int.ediv_le_self (a := n + d - 1) d (by omega)
    omega
  generalize upL n d = q at *
  go_enter Try.func36, Try.ntmps36
  go_wp2
  go_ret
  exact ⟨by first | rfl | rw [e], rfl⟩

theorem implUp_any (n d : Int) (h1 : 0 ≤ n ∧ n ≤ 1000000000) (h2 : 1 ≤ d ∧ d ≤ 1000000) (w : World) :
    Calls Try.prog 39 #[.int .i64 n, .int .i64 d] w fun e w' => e = .returned (.int .i64 (upL n d)) ∧ w = w' := by
  have e : (n + d - 1).tdiv d = upL n d := by rw [upL, Int.tdiv_eq_ediv_of_nonneg (by omega)]
  have hd : (d == 0) = false := by simp; omega
  have hd2 : ¬ d = 0 := by omega
  have hd3 : ¬ d = -1 := by omega
  have hb : 0 ≤ upL n d ∧ upL n d ≤ 2000000000 := by
    rw [upL]
    refine ⟨Int.ediv_nonneg (by omega) (by omega), ?_⟩
    have := Int.ediv_le_self (a := n + d - 1) d (by omega)
    omega
  generalize upL n d = q at *
  go_enter Try.func39, Try.ntmps39
  go_wp2
  go_ret
  exact ⟨by first | rfl | rw [e], rfl⟩

theorem upL_le (m d r : Int) (hm : 0 ≤ m) (hd : 1 ≤ d) (h : r ≤ m * d) (h0 : 0 ≤ r) : 0 ≤ upL r d ∧ upL r d ≤ m := by
  rw [upL]
  refine ⟨Int.ediv_nonneg (by omega) (by omega), ?_⟩
  have : (r + d - 1) / d < m + 1 := Int.ediv_lt_of_lt_mul (by omega) (by rw [Int.add_mul]; omega)
  omega

/-- What is known of the two steps between which a radius lies. -/
def Betw (x0 y0 x1 y1 r : Int) : Prop := (0 ≤ y1 ∧ y1 ≤ y0 ∧ y0 ≤ 50000) ∧ (1 ≤ x0 ∧ x0 < r ∧ r ≤ x1 ∧ x1 ≤ 1000)

theorem betw_of {zs : List (Int × Int)} {r : Int} (h : ChartP zs) (hf : findL zs r < zs.length) (h0 : findL zs r ≠ 0) :
    Betw (atP zs (findL zs r - 1)).1 (atP zs (findL zs r - 1)).2 (atP zs (findL zs r)).1 (atP zs (findL zs r)).2 r := by
  have h1 := findL_at zs r hf
  have h2 := findL_before zs r (findL zs r - 1) (by omega) (by omega)
  have h3 := h.1 (findL zs r) hf hf
  have h4 := h.1 (findL zs r - 1) (by omega) (by omega)
  have h5 := h3.2 (by omega)
  rw [atP_is zs _ hf, atP_is zs (findL zs r - 1) (by omega)]
  have h6 := h3.1
  have h7 := h4.1
  simp only [Betw]
  omega

theorem betw_bd {x0 y0 x1 y1 r : Int} (h : Betw x0 y0 x1 y1 r) :
    (0 ≤ (y0 - y1) * (r - x0) ∧ (y0 - y1) * (r - x0) ≤ 50000000) ∧ 0 ≤ upL ((y0 - y1) * (r - x0)) (x1 - x0) ∧ upL ((y0 - y1) * (r - x0)) (x1 - x0) ≤ y0 - y1 := by
  simp only [Betw] at h
  have m := mul_bd (y0 - y1) (r - x0) 50000 1000 (by omega) (by omega)
  refine ⟨by omega, upL_le (y0 - y1) (x1 - x0) _ (by omega) (by omega) ?_ m.1⟩
  exact Int.mul_le_mul_of_nonneg_left (by omega) (by omega)

theorem specLoad_any (v : Value) (zs : List (Int × Int)) (r : Int) (w : World) (h : RdP w v zs) (hc : ChartP zs) :
    Calls Try.prog 20 #[v, .int .i64 r] w fun e w' => e = .returned (.int .i64 (if findL zs r < zs.length then loadL zs r else -1)) ∧ Below w.heap.size w w' := by
  obtain ⟨A, c, rfl, hl, _⟩ := RdP_slice h
  have H := Lib.hid h
  have hlen := hc.2
  have Hf := specFind_any _ zs r w h
  by_cases hf : findL zs r < zs.length
  · rw [if_pos hf] at Hf ⊢
    by_cases h0 : findL zs r = 0
    · have hE : loadL zs r = (atP zs 0).2 := by rw [loadL, if_pos h0]
      rw [hE]
      obtain ⟨_, b, off, rfl, hbl, hc0, hc1⟩ := rd_at h 0 (by omega)
      rw [h0] at Hf
      have Hf := Lib.hid Hf; clear h hc hE h0 hf
      simp only [Nat.zero_mul, Nat.add_zero] at hc0 hc1
      go_enter Try.func20, Try.ntmps20
      go_wp2_with fail
      refine Hf.out.mono ?_
      rintro e w2 ⟨rfl, rfl⟩
      go_wp2
      go_ret
      exact ⟨rfl, Below.refl _ _⟩
    · have hbt := betw_of hc hf h0
      have hE : loadL zs r = (atP zs (findL zs r - 1)).2 - upL (((atP zs (findL zs r - 1)).2 - (atP zs (findL zs r)).2) * (r - (atP zs (findL zs r - 1)).1)) ((atP zs (findL zs r)).1 - (atP zs (findL zs r - 1)).1) := by rw [loadL, if_neg h0]
      rw [hE]
      obtain ⟨_, b, off, rfl, hbl, hc0, hc1⟩ := rd_at h (findL zs r) hf
      obtain ⟨_, b', off', e', _, hd0, hd1⟩ := rd_at h (findL zs r - 1) (by omega)
      simp only [Option.some.injEq, Addr.mk.injEq, and_true] at e'
      obtain ⟨rfl, rfl⟩ := e'
      generalize hk : findL zs r = k at *
      have hkm : (k : Int) - 1 = ((k - 1 : Nat) : Int) := by omega
      have hk1 : k - 1 < zs.length := by omega
      have hkp : decide ((k : Int) ≤ 0) = false := by simp; omega
      have hkp2 : ¬ (k : Int) ≤ 0 := by omega
      generalize k - 1 = m at *
      have Hf := Lib.hid Hf; clear h hc hE hk
      generalize (atP zs k).1 = x1 at *
      generalize (atP zs k).2 = y1 at *
      generalize (atP zs m).1 = x0 at *
      generalize (atP zs m).2 = y0 at *
      have hbd := betw_bd hbt
      simp only [Betw] at hbt
      have hw1 : IntKind.i64.wrap (y0 - y1) = y0 - y1 := IntWalk.i64_in _ (by omega)
      have hw2 : IntKind.i64.wrap (r - x0) = r - x0 := IntWalk.i64_in _ (by omega)
      have hw3 : IntKind.i64.wrap (x1 - x0) = x1 - x0 := IntWalk.i64_in _ (by omega)
      have hw4 : IntKind.i64.wrap ((y0 - y1) * (r - x0)) = (y0 - y1) * (r - x0) := IntWalk.i64_in _ (by omega)
      have hw5 : IntKind.i64.wrap (y0 - upL ((y0 - y1) * (r - x0)) (x1 - x0)) = y0 - upL ((y0 - y1) * (r - x0)) (x1 - x0) := IntWalk.i64_in _ (by omega)
      go_enter Try.func20, Try.ntmps20
      go_wp2_with fail
      refine Hf.out.mono ?_
      rintro e w2 ⟨rfl, rfl⟩
      go_wp2_with fail
      go_quiet ((go_at_call 36; exact Calls.quiet_of_same ((specUp_any _ _ (by omega) (by omega) _).mono fun e w' h => ⟨h.1, h.2.symm⟩)))
      go_wp2
      go_ret
      exact ⟨rfl, kept_drewN (Below.refl _ _) _⟩
  · rw [if_neg hf] at Hf ⊢
    have Hf := Lib.hid Hf; clear h hc hf
    go_enter Try.func20, Try.ntmps20
    go_wp2_with fail
    refine Hf.out.mono ?_
    rintro e w2 ⟨rfl, rfl⟩
    go_wp2
    go_ret
    exact ⟨rfl, Below.refl _ _⟩

theorem implLoadIn_any (v : Value) (zs : List (Int × Int)) (r : Int) (w : World) (h : RdP w v zs) (hc : ChartP zs) (hf : findL zs r < zs.length) :
    Calls Try.prog 29 #[v, .int .i64 r] w fun e w' => e = .returned (.int .i64 (loadL zs r)) ∧ Below w.heap.size w w' := by
  obtain ⟨A, c, rfl, hl, _⟩ := RdP_slice h
  have H := Lib.hid h
  have hlen := hc.2
  have Hf := fun (w : World) (h : RdP w (.slice A zs.length c) zs) => stepFor_any _ zs r w h (ChartP_incr hc) (by omega)
  by_cases h0 : findL zs r = 0
  · have hE : loadL zs r = (atP zs 0).2 := by rw [loadL, if_pos h0]
    rw [hE]
    rw [h0] at Hf
    have Hf := Lib.hid Hf; clear h hc hE h0 hf
    go_enter Try.func29, Try.ntmps29
    go_wp2_with fail
    refine (Hf.out _ H.out).mono ?_
    rintro e w1 ⟨rfl, hb⟩
    have h1 := RdP_kept H.out hb
    obtain ⟨_, b, off, rfl, hbl, hc0, hc1⟩ := rd_at h1 0 (by omega)
    have H1 := Lib.hid h1; clear h1
    simp only [Nat.zero_mul, Nat.add_zero] at hc0 hc1
    go_wp2
    go_ret
    exact ⟨rfl, hb⟩
  · have hbt := betw_of hc hf h0
    have hE : loadL zs r = (atP zs (findL zs r - 1)).2 - upL (((atP zs (findL zs r - 1)).2 - (atP zs (findL zs r)).2) * (r - (atP zs (findL zs r - 1)).1)) ((atP zs (findL zs r)).1 - (atP zs (findL zs r - 1)).1) := by rw [loadL, if_neg h0]
    rw [hE]
    generalize hk : findL zs r = k at *
    have hk0 : ((k : Int) == 0) = false := by simp; omega
    have hkm : (k : Int) - 1 = ((k - 1 : Nat) : Int) := by omega
    have hk1 : k - 1 < zs.length := by omega
    generalize k - 1 = m at *
    have Hf := Lib.hid Hf; clear h hc hE hk
    generalize hx1 : (atP zs k).1 = x1 at *
    generalize hy1 : (atP zs k).2 = y1 at *
    generalize hx0 : (atP zs m).1 = x0 at *
    generalize hy0 : (atP zs m).2 = y0 at *
    have Hx1 := Lib.hid hx1; clear hx1
    have Hy1 := Lib.hid hy1; clear hy1
    have Hx0 := Lib.hid hx0; clear hx0
    have Hy0 := Lib.hid hy0; clear hy0
    go_enter Try.func29, Try.ntmps29
    go_wp2_with fail
    refine (Hf.out _ H.out).mono ?_
    rintro e w1 ⟨rfl, hb⟩
    have h1 := RdP_kept H.out hb
    obtain ⟨_, b, off, rfl, hbl, hc0, hc1⟩ := rd_at h1 k hf
    obtain ⟨_, b', off', e', _, hd0, hd1⟩ := rd_at h1 m hk1
    simp only [Option.some.injEq, Addr.mk.injEq, and_true] at e'
    obtain ⟨rfl, rfl⟩ := e'
    have H1 := Lib.hid h1; clear h1
    rw [Hx1.out] at hc0
    rw [Hy1.out] at hc1
    rw [Hx0.out] at hd0
    rw [Hy0.out] at hd1
    have hbd := betw_bd hbt
    simp only [Betw] at hbt
    have hU := Lib.hid (fun w => implUp_any ((y0 - y1) * (r - x0)) (x1 - x0) (by omega) (by omega) w)
    have hw1 : IntKind.i64.wrap (y0 - y1) = y0 - y1 := IntWalk.i64_in _ (by omega)
    have hw2 : IntKind.i64.wrap (r - x0) = r - x0 := IntWalk.i64_in _ (by omega)
    have hw3 : IntKind.i64.wrap (x1 - x0) = x1 - x0 := IntWalk.i64_in _ (by omega)
    have hw4 : IntKind.i64.wrap ((y0 - y1) * (r - x0)) = (y0 - y1) * (r - x0) := IntWalk.i64_in _ (by omega)
    have hw5 : IntKind.i64.wrap (y0 - upL ((y0 - y1) * (r - x0)) (x1 - x0)) = y0 - upL ((y0 - y1) * (r - x0)) (x1 - x0) := IntWalk.i64_in _ (by omega)
    go_wp2_with fail
    go_region
    all_goals
      go_wp2_with fail
      go_quiet ((go_at_call 39; exact (hU.out _).mono fun e w' h => ⟨h.1, _, h.2.symm⟩))
      go_wp2
      go_ret
      exact ⟨rfl, kept_drewN (kept_trans (a := w) hb (by go_grown)) _⟩

theorem loadL_bd {zs : List (Int × Int)} {r : Int} (h : ChartP zs) (hf : findL zs r < zs.length) : 0 ≤ loadL zs r ∧ loadL zs r ≤ 50000 := by
  by_cases h0 : findL zs r = 0
  · rw [loadL, if_pos h0]
    have h1 := (h.1 0 (by omega) (by omega)).1
    rw [atP_is zs 0 (by omega)]
    omega
  · have hb := betw_of h hf h0
    have hu := betw_bd hb
    rw [loadL, if_neg h0]
    simp only [Betw] at hb
    omega

/-- The last radius. -/
def lastL (zs : List (Int × Int)) : Int := (atP zs (zs.length - 1)).1

theorem find_last {zs : List (Int × Int)} (h : ChartP zs) (r : Int) : findL zs r < zs.length ↔ r ≤ lastL zs := by
  have hi := ChartP_incr h
  have hn := h.2
  have hle := findL_le zs r
  rw [lastL, atP_is zs _ (by omega)]
  constructor
  · intro hf
    have h1 := findL_at zs r hf
    have h2 := hi (findL zs r) (zs.length - 1) hf (by omega) (by omega)
    omega
  · intro hr
    rcases Nat.lt_or_ge (findL zs r) zs.length with h1 | h1
    · exact h1
    · have := findL_before zs r (zs.length - 1) (by omega) (by omega)
      omega

theorem last_any (v : Value) (zs : List (Int × Int)) (w : World) (h : RdP w v zs) (hn : 1 ≤ zs.length) :
    Calls Try.prog 26 #[v] w fun e w' => e = .returned (.int .i64 (lastL zs)) ∧ w = w' := by
  obtain ⟨A, c, rfl, hl, _⟩ := RdP_slice h
  obtain ⟨_, b, off, rfl, hbl, hc0, hc1⟩ := rd_at h (zs.length - 1) (by omega)
  unfold lastL
  have hkm : (zs.length : Int) - 1 = ((zs.length - 1 : Nat) : Int) := by omega
  have hk1 : zs.length - 1 < zs.length := by omega
  clear h
  generalize zs.length - 1 = m at *
  generalize (atP zs m).1 = x at *
  go_enter Try.func26, Try.ntmps26
  go_wp2
  go_ret
  exact ⟨rfl, rfl⟩

noncomputable def loadAtL (zs : List (Int × Int)) (r : Int) : Int × Int :=
  if codeL zs r 0 1000 = 0 then (if findL zs r < zs.length then (loadL zs r, 0) else (0, 3)) else (0, codeL zs r 0 1000)

theorem code_ok {zs : List (Int × Int)} {r lo hi : Int} (h : codeL zs r lo hi = 0) : ChartP zs ∧ lo ≤ r ∧ r ≤ hi := by
  rcases codeL_cases zs r lo hi with h1 | h1 | h1
  · exact h1.2
  · omega
  · omega

theorem specLoadAt_any (v : Value) (zs : List (Int × Int)) (r : Int) (w : World) (h : RdP w v zs) :
    Calls Try.prog 13 #[v, .int .i64 r] w fun e w' => e = .returned (.tuple #[.int .i64 (loadAtL zs r).1, .int .i64 (loadAtL zs r).2]) ∧ Below w.heap.size w w' := by
  have hcode := specCode_any v zs r w h
  have H := Lib.hid h; clear h
  have Hcode := Lib.hid hcode; clear hcode
  by_cases hc : codeL zs r 0 1000 = 0
  · rw [hc] at Hcode
    have hch := (code_ok hc).1
    have Hl := fun (w : World) (h : RdP w v zs) => specLoad_any v zs r w h hch
    by_cases hf : findL zs r < zs.length
    · rw [show loadAtL zs r = (loadL zs r, 0) by simp [loadAtL, hc, hf]]
      have hbd := loadL_bd hch hf
      rw [if_pos hf] at Hl
      have hneg : decide (loadL zs r < 0) = false := by simp; omega
      generalize loadL zs r = q at *
      have Hl := Lib.hid Hl; clear hch hc hf
      go_enter Try.func13, Try.ntmps13
      go_wp2_with fail
      refine Hcode.out.mono ?_
      rintro e w1 ⟨rfl, hb⟩
      go_wp2_with fail
      refine (Hl.out _ (RdP_kept H.out hb)).mono ?_
      rintro e w2 ⟨rfl, hb2⟩
      go_wp2
      go_ret2
      exact ⟨rfl, kept_trans hb hb2⟩
    · rw [show loadAtL zs r = (0, 3) by simp [loadAtL, hc, hf]]
      rw [if_neg hf] at Hl
      have Hl := Lib.hid Hl; clear hch hc hf
      go_enter Try.func13, Try.ntmps13
      go_wp2_with fail
      refine Hcode.out.mono ?_
      rintro e w1 ⟨rfl, hb⟩
      go_wp2_with fail
      refine (Hl.out _ (RdP_kept H.out hb)).mono ?_
      rintro e w2 ⟨rfl, hb2⟩
      go_wp2
      go_ret2
      exact ⟨rfl, kept_trans hb hb2⟩
  · have hc2 : (codeL zs r 0 1000 != 0) = true := by simpa using hc
    rw [show loadAtL zs r = (0, codeL zs r 0 1000) by simp [loadAtL, hc]]
    generalize codeL zs r 0 1000 = k at *
    go_enter Try.func13, Try.ntmps13
    go_wp2_with fail
    refine Hcode.out.mono ?_
    rintro e w1 ⟨rfl, hb⟩
    go_wp2
    go_ret2
    exact ⟨rfl, hb⟩

theorem loads_decr {zs : List (Int × Int)} (h : ChartP zs) (i j : Nat) (hi : i < zs.length) (hj : j < zs.length) (hij : i ≤ j) : zs[j].2 ≤ zs[i].2 := by
  induction j with
  | zero =>
    obtain rfl : i = 0 := by omega
    exact Int.le_refl _
  | succ j ih =>
    rcases Nat.lt_or_ge i (j + 1) with h1 | h1
    · have h2 := ih (by omega) (by omega)
      have h3 := (h.1 (j + 1) hj hj).2 (by omega)
      simp only [Nat.add_sub_cancel] at h3
      omega
    · obtain rfl : i = j + 1 := by omega
      exact Int.le_refl _

theorem upL_mono (a b d : Int) (h : a ≤ b) (hd : 0 < d) : upL a d ≤ upL b d := by
  rw [upL, upL]
  exact Int.ediv_le_ediv hd (by omega)

theorem findL_mono (zs : List (Int × Int)) (r q : Int) (h : r ≤ q) : findL zs r ≤ findL zs q := by
  rcases Nat.lt_or_ge (findL zs q) (findL zs r) with h1 | h1
  · have hle := findL_le zs r
    have h2 := findL_before zs r (findL zs q) h1 (by omega)
    have h3 := findL_at zs q (by omega)
    omega
  · exact h1

theorem loadL_mono {zs : List (Int × Int)} (h : ChartP zs) (r q : Int) (hrq : r ≤ q) (hq : findL zs q < zs.length) : loadL zs q ≤ loadL zs r := by
  have hm := findL_mono zs r q hrq
  rcases Nat.lt_or_ge (findL zs r) (findL zs q) with h1 | h1
  · have hb := betw_of h hq (by omega)
    have hu := betw_bd hb
    have e : loadL zs q ≤ (atP zs (findL zs q - 1)).2 := by
      rw [loadL, if_neg (by omega)]
      omega
    have e2 : (atP zs (findL zs r)).2 ≤ loadL zs r := by
      by_cases h0 : findL zs r = 0
      · rw [loadL, if_pos h0, h0]
        exact Int.le_refl _
      · have hb2 := betw_bd (betw_of h (by omega) h0)
        rw [loadL, if_neg h0]
        omega
    have e3 := loads_decr h (findL zs r) (findL zs q - 1) (by omega) (by omega) (by omega)
    rw [← atP_is zs _ (show findL zs q - 1 < zs.length by omega), ← atP_is zs _ (show findL zs r < zs.length by omega)] at e3
    omega
  · have he : findL zs r = findL zs q := by omega
    by_cases h0 : findL zs q = 0
    · rw [loadL, loadL, if_pos h0, if_pos (by omega)]
      exact Int.le_refl _
    · have hb := betw_of h hq h0
      have hb2 := betw_of h (r := r) (by omega) (by omega)
      rw [he] at hb2
      rw [loadL, loadL, if_neg h0, if_neg (by omega), he]
      simp only [Betw] at hb hb2
      have := upL_mono (((atP zs (findL zs q - 1)).2 - (atP zs (findL zs q)).2) * (r - (atP zs (findL zs q - 1)).1)) (((atP zs (findL zs q - 1)).2 - (atP zs (findL zs q)).2) * (q - (atP zs (findL zs q - 1)).1)) ((atP zs (findL zs q)).1 - (atP zs (findL zs q - 1)).1)
        (Int.mul_le_mul_of_nonneg_left (by omega) (by omega)) (by omega)
      omega

theorem specLoad_ok (v : Value) (zs : List (Int × Int)) (r : Int) (w : World) (h : RdP w v zs) (hc : ChartP zs) (hr : r ≤ lastL zs) :
    Calls Try.prog 20 #[v, .int .i64 r] w fun e w' => e = .returned (.int .i64 (loadL zs r)) ∧ Below w.heap.size w w' := by
  have := specLoad_any v zs r w h hc
  rwa [if_pos ((find_last hc r).2 hr)] at this

theorem specLast_any (v : Value) (zs : List (Int × Int)) (w : World) (h : RdP w v zs) (hn : 1 ≤ zs.length) :
    Calls Try.prog 17 #[v] w fun e w' => e = .returned (.int .i64 (lastL zs)) ∧ w = w' := by
  obtain ⟨A, c, rfl, hl, _⟩ := RdP_slice h
  obtain ⟨_, b, off, rfl, hbl, hc0, hc1⟩ := rd_at h (zs.length - 1) (by omega)
  unfold lastL
  have hkm : (zs.length : Int) - 1 = ((zs.length - 1 : Nat) : Int) := by omega
  have hk1 : zs.length - 1 < zs.length := by omega
  clear h
  generalize zs.length - 1 = m at *
  generalize (atP zs m).1 = x at *
  go_enter Try.func17, Try.ntmps17
  go_wp2
  go_ret
  exact ⟨rfl, rfl⟩

theorem flatP_snoc (zs : List (Int × Int)) (p q : Int) : flatP zs ++ [.int .i64 p, .int .i64 q] = flatP (zs ++ [(p, q)]) := by simp [flatP, encP]

theorem below_drew {B : Nat} {a w : World} (h : Below B a w) : Below B a w.drew := { os := h.os, tape := h.tape, output := h.output, size := h.size, block := h.block }

theorem row_lower {w : World} {lo lo' : Nat} {e : TypeId} {size : Nat} {v : Value} {n : Nat} {xs : List Value} (h : w.ownsRow lo e size v n xs) (hl : lo' ≤ lo) : w.ownsRow lo' e size v n xs := by
  refine ⟨h.1, ?_⟩
  rcases h.2 with h2 | ⟨g, cap, cur, hv, hg, r⟩
  · exact Or.inl h2
  · exact Or.inr ⟨g, cap, cur, hv, by omega, r⟩

/-- A share of each load. -/
def reduceZ (p : Int) (z : Int × Int) : Int × Int := (z.1, z.2 * p / 100)

noncomputable def reduceL (zs : List (Int × Int)) (p : Int) : List (Int × Int) × Int :=
  if codeL zs p 1 100 = 0 then (zs.map (reduceZ p), 0) else ([], codeL zs p 1 100)

theorem reduceClosure_any (y p : Int) (b : Nat) (w : World) (hy : 0 ≤ y ∧ y ≤ 50000) (hp : 1 ≤ p ∧ p ≤ 100) (hc : w.cell? ⟨b, 0, none⟩ = some (.int .i64 p)) :
    Calls Try.prog 23 #[.int .i64 y, .pointer (some ⟨b, 0, none⟩)] w fun e w' => e = .returned (.int .i64 (y * p / 100)) ∧ w = w' := by
  have hm := mul_bd y p 50000 100 (by omega) (by omega)
  have hq : (y * p).tdiv 100 = y * p / 100 := Int.tdiv_eq_ediv_of_nonneg hm.1
  go_enter Try.func23, Try.ntmps23
  go_wp2
  go_ret
  exact ⟨by first | rfl | rw [hq], rfl⟩

theorem map_step {α β : Type} (F : α → β) (zs : List α) (z : β) (j : Nat) (h : j < zs.length) : ((zs.map F).take j ++ List.replicate (zs.length - j) z).set j (F zs[j]) = (zs.map F).take (j + 1) ++ List.replicate (zs.length - (j + 1)) z := by
  have := fill_step (zs.map F) z j (by simpa using h)
  simp only [List.length_map, List.getElem_map] at this
  exact this

theorem keep_store (wr : World) (a i j bp : Nat) (x y p u v : Value) (h2 : ¬ a = bp) (h3 : bp < wr.heap.size) (hcp : wr.cell? ⟨bp, 0, none⟩ = some p) :
    (((wr.setCell ⟨a, i, none⟩ u).setCell ⟨a, j, none⟩ v).alloc (.cells #[x, y] 35)).drew.cell? ⟨wr.heap.size, 0, none⟩ = some x ∧
    (((wr.setCell ⟨a, i, none⟩ u).setCell ⟨a, j, none⟩ v).alloc (.cells #[x, y] 35)).drew.cell? ⟨wr.heap.size, 1, none⟩ = some y ∧
    (((wr.setCell ⟨a, i, none⟩ u).setCell ⟨a, j, none⟩ v).alloc (.cells #[x, y] 35)).drew.cell? ⟨bp, 0, none⟩ = some p := by
  refine ⟨?_, ?_, ?_⟩
  · show World.cell? (World.alloc _ _) _ = _
    simp [World.cell?_alloc_at]
  · show World.cell? (World.alloc _ _) _ = _
    simp [World.cell?_alloc_at]
  · show World.cell? (World.alloc _ _) _ = _
    simp [World.cell?_alloc_past, World.cell?_setCell_far, h2, h3, hcp]

theorem changedReduce_any (v : Value) (zs : List (Int × Int)) (p : Int) (bp : Nat) (w : World) (h : RdP w v zs) (hc : ChartP zs) (hp : 1 ≤ p ∧ p ≤ 100) (hbp : bp < w.heap.size) (hcell : w.cell? ⟨bp, 0, none⟩ = some (.int .i64 p)) :
    Calls Try.prog 22 #[v, .func (.func 23) #[] #[.pointer (some ⟨bp, 0, none⟩)]] w fun e w' => ∃ v', e = .returned v' ∧ RowF 35 2 w' w.heap.size w'.heap.size v' (zs.map (reduceZ p)).length (flatP (zs.map (reduceZ p))) ∧ Below w.heap.size w w' := by
  obtain ⟨A, c, rfl, hl, _⟩ := RdP_slice h
  have H := Lib.hid h; clear h
  have hn := hc.2
  have Hat := Lib.hid (fun (k : Nat) (hk : k < zs.length) => hc.1 k hk hk)
  clear hc
  have hT : (zs.map (reduceZ p)).length = zs.length := by simp
  have Hstep := Lib.hid (fun (j : Nat) (h : j < zs.length) => map_step (reduceZ p) zs ((0 : Int), (0 : Int)) j h)
  have Hend := Lib.hid (show (zs.map (reduceZ p)).take zs.length = zs.map (reduceZ p) from List.take_of_length_le (by omega))
  have HTl := Lib.hid hT
  generalize zs.map (reduceZ p) = T at *
  have hmk := make_steps zs.length (by omega)
  have Hrow0 := Lib.hid (fun (wa : World) => by
    have := World.ownsRow_lit wa (base := wa.heap.size) (e := 35) (size := 2) (madeCells #[.int .i64 0, .int .i64 0] (zs.length * 2)) zs.length (Nat.le_refl _) (by unfold maxLen; omega) (size_madeCells _ _)
    rw [made_flat] at this
    exact this)
  clear hT
  go_enter Try.func22, Try.ntmps22
  go_wp2_with fail
  go_loopw [13] (fun i wr => ∃ k : Nat, k ≤ zs.length ∧ i = .int .i64 k ∧ wr.ownsRow w.heap.size 35 2 (.slice (some ⟨w.heap.size, 0, none⟩) zs.length zs.length) zs.length (flatP (T.take k ++ List.replicate (zs.length - k) (0, 0))) ∧ w.heap.size < wr.heap.size ∧ Below w.heap.size w wr) (fun i _ => zs.length - (intOf i).toNat)
  case atStart => exact ⟨0, by omega, rfl, by simpa using Hrow0.out w, by simp, by go_grown⟩
  case round =>
    obtain ⟨k, hk, rfl, hown, hlw, hb⟩ := hrel
    by_cases hlt : k < zs.length
    · obtain ⟨_, b, off, rfl, hbl, hc0, hc1⟩ := rd_at H.out k hlt
      rw [atP_is zs k hlt] at hc0 hc1
      rw [← kept_cell hb b _ hbl] at hc0 hc1
      have hcp := hcell
      rw [← kept_cell hb bp _ hbp] at hcp
      have hat := (Hat.out k hlt).1
      have hlen : (flatP (T.take k ++ List.replicate (zs.length - k) (0, 0))).length = zs.length * 2 := hown.1
      obtain ⟨u0, hu0⟩ : ∃ u, wr.cell? ⟨w.heap.size, k * 2, none⟩ = some u := by
        rw [hown.cellAt _ (by omega)]
        exact ⟨_, List.getElem?_eq_getElem (by omega)⟩
      obtain ⟨u1, hu1⟩ : ∃ u, wr.cell? ⟨w.heap.size, k * 2 + 1, none⟩ = some u := by
        rw [hown.cellAt _ (by omega)]
        exact ⟨_, List.getElem?_eq_getElem (by omega)⟩
      have hz0 := hown.frozenAt (k * 2)
      have hz1 := hown.frozenAt (k * 2 + 1)
      have hnext := Hstep.out k hlt
      simp only [reduceZ] at hnext
      have hF : reduceZ p zs[k] = (zs[k].1, zs[k].2 * p / 100) := rfl
      clear hF
      have Hown := Lib.hid hown; clear hown
      have Hnext := Lib.hid hnext; clear hnext
      generalize zs[k].1 = x at *
      generalize zs[k].2 = y at *
      have Hcl := Lib.hid (fun (u : World) (hu : u.cell? ⟨bp, 0, none⟩ = some (.int .i64 p)) => reduceClosure_any y p bp u (by omega) hp hu)
      have hne1 : ¬ w.heap.size = wr.heap.size := by omega
      have hne2 : ¬ w.heap.size = bp := by omega
      have hlt2 : bp < wr.heap.size := by omega
      go_wp2_with fail
      go_region_held3 (fun w' => w'.cell? ⟨wr.heap.size, 0, none⟩ = some (.int .i64 x) ∧ w'.cell? ⟨wr.heap.size, 1, none⟩ = some (.int .i64 y) ∧ w'.cell? ⟨bp, 0, none⟩ = some (.int .i64 p)) (first | (go_keep; done) | exact keep_store wr w.heap.size _ _ bp _ _ _ _ _ hne2 hlt2 hcp)
        ((go_at_call 23; refine (Hcl.out _ (by simp [World.cell?_alloc_past, *])).mono ?_; rintro e w1 ⟨rfl, rfl⟩))
      have hs0 := Hown.out.stored (k * 2) (.int .i64 x)
      have hs1 := hs0.1.stored (k * 2 + 1) (.int .i64 (y * p / 100))
      rw [flatP_set, Hnext.out] at hs1
      have hgr := grown_below hb (grown_step hs0.2 hs1.2) (fun g hg => by simp at hg; omega)
      have Hs := Lib.hid (hs1.1.alloc (.cells #[.int .i64 x, .int .i64 y] 35))
      have Hg := Lib.hid (hgr.alloc hgr.size (.cells #[.int .i64 x, .int .i64 y] 35))
      clear hs0 hs1 hgr
      go_wp2
      go_roundw
      case rel => exact ⟨k + 1, by omega, by go_num, Hs.out, by simp; omega, below_drew Hg.out⟩
      case measure => simp [intOf]; omega
    · have : k = zs.length := by omega
      subst this
      rw [Hend.out, Nat.sub_self] at hown
      have Hown := Lib.hid hown; clear hown
      go_wp2
      go_ret
      exact ⟨_, rfl, ⟨by rw [HTl.out]; simpa using Hown.out, fun g hg => by simp [Value.ownBlock] at hg; subst hg; exact ⟨Nat.le_refl _, hlw⟩⟩, hb⟩

theorem implReduce_any (v : Value) (zs : List (Int × Int)) (p : Int) (w : World) (h : RdP w v zs) :
    Calls Try.prog 8 #[v, .int .i64 p] w fun e w' => ∃ v', e = .returned (.tuple #[v', .int .i64 (reduceL zs p).2]) ∧ RowF 35 2 w' w.heap.size w'.heap.size v' (reduceL zs p).1.length (flatP (reduceL zs p).1) ∧ Below w.heap.size w w' := by
  have Hcode := Lib.hid (fun (u : World) (h : RdP u v zs) => implCode_any v zs p 1 100 u h)
  have H := Lib.hid h; clear h
  have hmf : ∀ (fn : Fn) (first cap : Array Value) (w : World), (Instr.makeFunc fn first cap).run Try.prog w = .ok (.func fn first cap) w := fun _ _ _ _ => rfl
  by_cases hc : codeL zs p 1 100 = 0
  · rw [hc] at Hcode
    have hk := code_ok hc
    rw [show reduceL zs p = (zs.map (reduceZ p), 0) by simp [reduceL, hc]]
    have Hch := Lib.hid (fun (b : Nat) (u : World) (h : RdP u v zs) => changedReduce_any v zs p b u h hk.1 hk.2)
    clear hc hk
    generalize zs.map (reduceZ p) = T at *
    go_enter Try.func8, Try.ntmps8
    go_wp2_with fail
    refine (Hcode.out _ (RdP_kept H.out (by go_grown))).mono ?_
    rintro e w1 ⟨rfl, hb⟩
    refine kept_at hb w.heap.size (by go_size) fun c0 z0 s0 => ?_
    have e0 := c0 0
    simp at e0
    clear c0
    replace hb := kept_trans (a := w) (by go_grown) hb
    go_wp2_with fail
    refine (Hch.out w.heap.size _ (RdP_kept H.out hb) s0 e0).mono ?_
    rintro e w2 ⟨v', rfl, hr, hb2⟩
    have hs := hb.size
    go_wp2
    go_ret2
    exact ⟨_, rfl, ⟨row_lower hr.1 hs, fun g hg => ⟨by have := (hr.2 g hg).1; omega, (hr.2 g hg).2⟩⟩, kept_trans hb hb2⟩
  · have hc2 : (codeL zs p 1 100 != 0) = true := by simpa using hc
    rw [show reduceL zs p = ([], codeL zs p 1 100) by simp [reduceL, hc]]
    generalize codeL zs p 1 100 = k at *
    go_enter Try.func8, Try.ntmps8
    go_wp2_with fail
    refine (Hcode.out _ (RdP_kept H.out (by go_grown))).mono ?_
    rintro e w1 ⟨rfl, hb⟩
    go_wp2
    go_ret2
    exact ⟨_, rfl, RowF_nil _ _ _ _ _, kept_trans (a := w) (by go_grown) hb⟩

theorem max_any (a b : Int) (w : World) :
    Calls Try.prog 33 #[.int .i64 a, .int .i64 b] w fun e w' => e = .returned (.int .i64 (max a b)) ∧ w = w' := by
  by_cases h : b < a
  · rw [show max a b = a by omega]
    go_enter Try.func33, Try.ntmps33
    go_wp2
    go_ret
    exact ⟨rfl, rfl⟩
  · rw [show max a b = b by omega]
    go_enter Try.func33, Try.ntmps33
    go_wp2
    go_ret
    exact ⟨rfl, rfl⟩

/-- Each load less a weight. -/
def lessZ (p : Int) (z : Int × Int) : Int × Int := (z.1, max 0 (z.2 - p))

noncomputable def lessL (zs : List (Int × Int)) (p : Int) : List (Int × Int) × Int :=
  if codeL zs p 0 50000 = 0 then (zs.map (lessZ p), 0) else ([], codeL zs p 0 50000)

theorem lessClosure_any (y p : Int) (b : Nat) (w : World) (hy : 0 ≤ y ∧ y ≤ 50000) (hp : 0 ≤ p ∧ p ≤ 50000) (hc : w.cell? ⟨b, 0, none⟩ = some (.int .i64 p)) :
    Calls Try.prog 24 #[.int .i64 y, .pointer (some ⟨b, 0, none⟩)] w fun e w' => e = .returned (.int .i64 (max 0 (y - p))) ∧ w = w' := by
  by_cases hlt : y < p
  · rw [show max 0 (y - p) = 0 by omega]
    go_enter Try.func24, Try.ntmps24
    go_wp2
    go_ret
    exact ⟨rfl, rfl⟩
  · rw [show max 0 (y - p) = y - p by omega]
    go_enter Try.func24, Try.ntmps24
    go_wp2
    all_goals
      go_ret
      exact ⟨by first | rfl | (simp; omega), rfl⟩

theorem changedLess_any (v : Value) (zs : List (Int × Int)) (p : Int) (bp : Nat) (w : World) (h : RdP w v zs) (hc : ChartP zs) (hp : 0 ≤ p ∧ p ≤ 50000) (hbp : bp < w.heap.size) (hcell : w.cell? ⟨bp, 0, none⟩ = some (.int .i64 p)) :
    Calls Try.prog 22 #[v, .func (.func 24) #[] #[.pointer (some ⟨bp, 0, none⟩)]] w fun e w' => ∃ v', e = .returned v' ∧ RowF 35 2 w' w.heap.size w'.heap.size v' (zs.map (lessZ p)).length (flatP (zs.map (lessZ p))) ∧ Below w.heap.size w w' := by
  obtain ⟨A, c, rfl, hl, _⟩ := RdP_slice h
  have H := Lib.hid h; clear h
  have hn := hc.2
  have Hat := Lib.hid (fun (k : Nat) (hk : k < zs.length) => hc.1 k hk hk)
  clear hc
  have hT : (zs.map (lessZ p)).length = zs.length := by simp
  have Hstep := Lib.hid (fun (j : Nat) (h : j < zs.length) => map_step (lessZ p) zs ((0 : Int), (0 : Int)) j h)
  have Hend := Lib.hid (show (zs.map (lessZ p)).take zs.length = zs.map (lessZ p) from List.take_of_length_le (by omega))
  have HTl := Lib.hid hT
  generalize zs.map (lessZ p) = T at *
  have hmk := make_steps zs.length (by omega)
  have Hrow0 := Lib.hid (fun (wa : World) => by
    have := World.ownsRow_lit wa (base := wa.heap.size) (e := 35) (size := 2) (madeCells #[.int .i64 0, .int .i64 0] (zs.length * 2)) zs.length (Nat.le_refl _) (by unfold maxLen; omega) (size_madeCells _ _)
    rw [made_flat] at this
    exact this)
  clear hT
  go_enter Try.func22, Try.ntmps22
  go_wp2_with fail
  go_loopw [13] (fun i wr => ∃ k : Nat, k ≤ zs.length ∧ i = .int .i64 k ∧ wr.ownsRow w.heap.size 35 2 (.slice (some ⟨w.heap.size, 0, none⟩) zs.length zs.length) zs.length (flatP (T.take k ++ List.replicate (zs.length - k) (0, 0))) ∧ w.heap.size < wr.heap.size ∧ Below w.heap.size w wr) (fun i _ => zs.length - (intOf i).toNat)
  case atStart => exact ⟨0, by omega, rfl, by simpa using Hrow0.out w, by simp, by go_grown⟩
  case round =>
    obtain ⟨k, hk, rfl, hown, hlw, hb⟩ := hrel
    by_cases hlt : k < zs.length
    · obtain ⟨_, b, off, rfl, hbl, hc0, hc1⟩ := rd_at H.out k hlt
      rw [atP_is zs k hlt] at hc0 hc1
      rw [← kept_cell hb b _ hbl] at hc0 hc1
      have hcp := hcell
      rw [← kept_cell hb bp _ hbp] at hcp
      have hat := (Hat.out k hlt).1
      have hlen : (flatP (T.take k ++ List.replicate (zs.length - k) (0, 0))).length = zs.length * 2 := hown.1
      obtain ⟨u0, hu0⟩ : ∃ u, wr.cell? ⟨w.heap.size, k * 2, none⟩ = some u := by
        rw [hown.cellAt _ (by omega)]
        exact ⟨_, List.getElem?_eq_getElem (by omega)⟩
      obtain ⟨u1, hu1⟩ : ∃ u, wr.cell? ⟨w.heap.size, k * 2 + 1, none⟩ = some u := by
        rw [hown.cellAt _ (by omega)]
        exact ⟨_, List.getElem?_eq_getElem (by omega)⟩
      have hz0 := hown.frozenAt (k * 2)
      have hz1 := hown.frozenAt (k * 2 + 1)
      have hnext := Hstep.out k hlt
      simp only [lessZ] at hnext
      have hF : lessZ p zs[k] = (zs[k].1, max 0 (zs[k].2 - p)) := rfl
      clear hF
      have Hown := Lib.hid hown; clear hown
      have Hnext := Lib.hid hnext; clear hnext
      generalize zs[k].1 = x at *
      generalize zs[k].2 = y at *
      have Hcl := Lib.hid (fun (u : World) (hu : u.cell? ⟨bp, 0, none⟩ = some (.int .i64 p)) => lessClosure_any y p bp u (by omega) hp hu)
      have hne1 : ¬ w.heap.size = wr.heap.size := by omega
      have hne2 : ¬ w.heap.size = bp := by omega
      have hlt2 : bp < wr.heap.size := by omega
      go_wp2_with fail
      go_region_held3 (fun w' => w'.cell? ⟨wr.heap.size, 0, none⟩ = some (.int .i64 x) ∧ w'.cell? ⟨wr.heap.size, 1, none⟩ = some (.int .i64 y) ∧ w'.cell? ⟨bp, 0, none⟩ = some (.int .i64 p)) (first | (go_keep; done) | exact keep_store wr w.heap.size _ _ bp _ _ _ _ _ hne2 hlt2 hcp)
        ((go_at_call 24; refine (Hcl.out _ (by simp [World.cell?_alloc_past, *])).mono ?_; rintro e w1 ⟨rfl, rfl⟩))
      have hs0 := Hown.out.stored (k * 2) (.int .i64 x)
      have hs1 := hs0.1.stored (k * 2 + 1) (.int .i64 (max 0 (y - p)))
      rw [flatP_set, Hnext.out] at hs1
      have hgr := grown_below hb (grown_step hs0.2 hs1.2) (fun g hg => by simp at hg; omega)
      have Hs := Lib.hid (hs1.1.alloc (.cells #[.int .i64 x, .int .i64 y] 35))
      have Hg := Lib.hid (hgr.alloc hgr.size (.cells #[.int .i64 x, .int .i64 y] 35))
      clear hs0 hs1 hgr
      go_wp2
      go_roundw
      case rel => exact ⟨k + 1, by omega, by go_num, Hs.out, by simp; omega, below_drew Hg.out⟩
      case measure => simp [intOf]; omega
    · have : k = zs.length := by omega
      subst this
      rw [Hend.out, Nat.sub_self] at hown
      have Hown := Lib.hid hown; clear hown
      go_wp2
      go_ret
      exact ⟨_, rfl, ⟨by rw [HTl.out]; simpa using Hown.out, fun g hg => by simp [Value.ownBlock] at hg; subst hg; exact ⟨Nat.le_refl _, hlw⟩⟩, hb⟩

theorem implLess_any (v : Value) (zs : List (Int × Int)) (p : Int) (w : World) (h : RdP w v zs) :
    Calls Try.prog 9 #[v, .int .i64 p] w fun e w' => ∃ v', e = .returned (.tuple #[v', .int .i64 (lessL zs p).2]) ∧ RowF 35 2 w' w.heap.size w'.heap.size v' (lessL zs p).1.length (flatP (lessL zs p).1) ∧ Below w.heap.size w w' := by
  have Hcode := Lib.hid (fun (u : World) (h : RdP u v zs) => implCode_any v zs p 0 50000 u h)
  have H := Lib.hid h; clear h
  have hmf : ∀ (fn : Fn) (first cap : Array Value) (w : World), (Instr.makeFunc fn first cap).run Try.prog w = .ok (.func fn first cap) w := fun _ _ _ _ => rfl
  by_cases hc : codeL zs p 0 50000 = 0
  · rw [hc] at Hcode
    have hk := code_ok hc
    rw [show lessL zs p = (zs.map (lessZ p), 0) by simp [lessL, hc]]
    have Hch := Lib.hid (fun (b : Nat) (u : World) (h : RdP u v zs) => changedLess_any v zs p b u h hk.1 hk.2)
    clear hc hk
    generalize zs.map (lessZ p) = T at *
    go_enter Try.func9, Try.ntmps9
    go_wp2_with fail
    refine (Hcode.out _ (RdP_kept H.out (by go_grown))).mono ?_
    rintro e w1 ⟨rfl, hb⟩
    refine kept_at hb w.heap.size (by go_size) fun c0 z0 s0 => ?_
    have e0 := c0 0
    simp at e0
    clear c0
    replace hb := kept_trans (a := w) (by go_grown) hb
    go_wp2_with fail
    refine (Hch.out w.heap.size _ (RdP_kept H.out hb) s0 e0).mono ?_
    rintro e w2 ⟨v', rfl, hr, hb2⟩
    have hs := hb.size
    go_wp2
    go_ret2
    exact ⟨_, rfl, ⟨row_lower hr.1 hs, fun g hg => ⟨by have := (hr.2 g hg).1; omega, (hr.2 g hg).2⟩⟩, kept_trans hb hb2⟩
  · have hc2 : (codeL zs p 0 50000 != 0) = true := by simpa using hc
    rw [show lessL zs p = ([], codeL zs p 0 50000) by simp [lessL, hc]]
    generalize codeL zs p 0 50000 = k at *
    go_enter Try.func9, Try.ntmps9
    go_wp2_with fail
    refine (Hcode.out _ (RdP_kept H.out (by go_grown))).mono ?_
    rintro e w1 ⟨rfl, hb⟩
    go_wp2
    go_ret2
    exact ⟨_, rfl, RowF_nil _ _ _ _ _, kept_trans (a := w) (by go_grown) hb⟩

/-- The greatest product of the first steps. -/
def momU (zs : List (Int × Int)) : Int := zs.foldl (fun m z => max m (z.1 * z.2)) 0

theorem momU_step (zs : List (Int × Int)) (k : Nat) (h : k < zs.length) : momU (zs.take (k + 1)) = max (momU (zs.take k)) (zs[k].1 * zs[k].2) := by
  rw [← List.take_append_getElem h, momU, momU, List.foldl_append]
  rfl

noncomputable def momL (zs : List (Int × Int)) : Int × Int := if chartB zs then (momU zs, 0) else (0, 1)

theorem implMoment_any (v : Value) (zs : List (Int × Int)) (w : World) (h : RdP w v zs) :
    Calls Try.prog 11 #[v] w fun e w' => e = .returned (.tuple #[.int .i64 (momL zs).1, .int .i64 (momL zs).2]) ∧ Below w.heap.size w w' := by
  have HC := Lib.hid (implChart_any v zs w h)
  obtain ⟨A, c, rfl, hl, _⟩ := RdP_slice h
  have H := Lib.hid h; clear h
  by_cases hch : ChartP zs
  · have hcb := chartB_true hch
    rw [hcb] at HC
    rw [show momL zs = (momU zs, 0) by simp [momL, hcb]]
    have hn := hch.2
    have Hat := Lib.hid (fun (k : Nat) (hk : k < zs.length) => hch.1 k hk hk)
    have Hend := Lib.hid (show momU (zs.take zs.length) = momU zs by rw [List.take_of_length_le (Nat.le_refl _)])
    have Hnext := Lib.hid (momU_step zs)
    clear hcb hch
    go_enter Try.func11, Try.ntmps11
    go_wp2_with fail
    refine HC.out.mono ?_
    rintro e w1 ⟨rfl, hb⟩
    go_wp2_with fail
    go_loopw [4, 12] (fun m i wr => ∃ k : Nat, k ≤ zs.length ∧ i = .int .i64 k ∧ m = .int .i64 (momU (zs.take k)) ∧ (0 ≤ momU (zs.take k) ∧ momU (zs.take k) ≤ 50000000) ∧ Below w.heap.size w wr) (fun _ i _ => zs.length - (intOf i).toNat)
    case atStart => exact ⟨0, by omega, rfl, rfl, by simp [momU], hb⟩
    case round =>
      obtain ⟨k, hk, rfl, rfl, hm, hb⟩ := hrel
      by_cases hlt : k < zs.length
      · obtain ⟨_, b, off, rfl, hbl, hc0, hc1⟩ := rd_at H.out k hlt
        rw [atP_is zs k hlt] at hc0 hc1
        rw [← kept_cell hb b _ hbl] at hc0 hc1
        have hat := (Hat.out k hlt).1
        have hnext := Hnext.out k hlt
        generalize momU (zs.take k) = m at *
        generalize zs[k].1 = x at *
        generalize zs[k].2 = y at *
        have hsz := hb.size
        have hxy := mul_bd x y 1000 50000 (by omega) (by omega)
        have HN := Lib.hid hnext; clear hnext
        have hmb : 0 ≤ max m (x * y) ∧ max m (x * y) ≤ 50000000 := by omega
        have Hmb := Lib.hid hmb
        by_cases hgt : m < x * y
        · have he : max m (x * y) = x * y := by omega
          have HE := Lib.hid he; clear he hmb
          go_wp2
          go_roundw
          case rel => exact ⟨k + 1, by omega, by go_num, by rw [HN.out, HE.out], by rw [HN.out]; exact Hmb.out, by go_grown⟩
          case measure => simp [intOf]; omega
        · by_cases hlt2 : x * y < m
          · have he : max m (x * y) = m := by omega
            have HE := Lib.hid he; clear he hmb
            go_wp2
            go_roundw
            case rel => exact ⟨k + 1, by omega, by go_num, by rw [HN.out, HE.out], by rw [HN.out]; exact Hmb.out, by go_grown⟩
            case measure => simp [intOf]; omega
          · have he : max m (x * y) = m := by omega
            have hq : x * y = m := by omega
            have HE := Lib.hid he; clear he hmb
            go_wp2
            go_roundw
            case rel => exact ⟨k + 1, by omega, by go_num, by rw [HN.out, HE.out], by rw [HN.out]; exact Hmb.out, by go_grown⟩
            case measure => simp [intOf]; omega
      · have : k = zs.length := by omega
        subst this
        have he := Hend.out
        generalize momU (zs.take zs.length) = m at *
        have He := Lib.hid he; clear he
        go_wp2
        go_ret2
        exact ⟨by rw [← He.out]; rfl, hb⟩
  · have hcb := chartB_false hch
    rw [hcb] at HC
    rw [show momL zs = (0, 1) by simp [momL, hcb]]
    clear hcb hch
    go_enter Try.func11, Try.ntmps11
    go_wp2_with fail
    refine HC.out.mono ?_
    rintro e w1 ⟨rfl, hb⟩
    go_wp2
    go_ret2
    exact ⟨rfl, hb⟩

theorem RowF_wide {e sz : Nat} {w : World} {lo hi hi' : Nat} {v : Value} {n : Nat} {xs : List Value} (h : RowF e sz w lo hi v n xs) (hh : hi ≤ hi') : RowF e sz w lo hi' v n xs :=
  ⟨h.1, fun g hg => ⟨(h.2 g hg).1, by have := (h.2 g hg).2; omega⟩⟩

/-- append of one pair to a row of the call's own, and where the new row lies. -/
theorem wp_appendG {ops : Array Oper} {rest : List Oper} {o : Oper} {a : Act} {Q : Exit → Act → World → Prop} {W wr : World} (hgd : o.guard = none) (s x : Operand)
    (ho : o.op = .call { callee := .builtin .append, args := #[s, x], argTypes := #[24, 24] })
    (lo : Nat) (v : Value) (zs : List (Int × Int)) (p q : Int) (hs : a.eval s = v) (hrow : RowF 35 2 wr lo wr.heap.size v zs.length (flatP zs)) (hx : a.eval x = .slice (some ⟨wr.heap.size, 0, none⟩) 1 1)
    (hW : Below W.heap.size W wr) (hlo : W.heap.size ≤ lo) (hlo2 : lo ≤ wr.heap.size) (hn : zs.length < 1000000000)
    (h : ∀ v' w', RowF 35 2 w' lo w'.heap.size v' (zs ++ [(p, q)]).length (flatP (zs ++ [(p, q)])) → Below W.heap.size W w' → wr.heap.size ≤ w'.heap.size →
      wr.grownBy w' v.ownBlock → (∀ g, v'.ownBlock = some g → v.ownBlock = some g ∨ wr.heap.size ≤ g) → wpList Try.prog ops Q rest (a.put o.dst v') w') :
    wpList Try.prog ops Q (o :: rest) a (wr.alloc (.cells #[.int .i64 p, .int .i64 q] 35)) := by
  obtain ⟨i0, hi, hz0, hz1, hz2⟩ := info_parts info_step
  refine wpList_append_own_at _ hgd s x _ ho lo 35 i0 (.agg #[.int .i64 0, .int .i64 0]) 2 16 Try.underlying24 hi hz0 hz1 hz2 rfl (by decide) v zs.length _ hs (hrow.1.alloc _) ⟨wr.heap.size, 0, none⟩ 1 1 [.int .i64 p, .int .i64 q] hx rfl ?_ ?_ ?_ ?_ ?_ ?_
  · intro j u hj
    match j with
    | 0 => simp at hj; subst hj; simp [Addr.add]
    | 1 => simp at hj; subst hj; simp [Addr.add]
    | j + 2 => simp at hj
  · intro u hu; simp at hu; rcases hu with rfl | rfl <;> rfl
  · unfold maxLen; omega
  · omega
  · simp; omega
  · intro v' w' hown hg _ hat
    rw [flatP_snoc] at hown
    have hrow' : RowF 35 2 w' lo w'.heap.size v' (zs ++ [(p, q)]).length (flatP (zs ++ [(p, q)])) := ⟨by simpa using hown, hown.lt⟩
    have hal : Below wr.heap.size wr (wr.alloc (.cells #[.int .i64 p, .int .i64 q] 35)) := by go_grown
    refine h v' w' hrow' ?_ (Nat.le_trans (by simp) hg.size) ?_ ?_
    · refine grown_below (hW.alloc hW.size _) hg (fun g hg2 => ?_)
      have := (hrow.2 g hg2).1
      omega
    · exact grown_step ⟨hal.os, hal.tape, hal.output, hal.size, fun i hi _ => hal.block i hi⟩ hg
    · intro g hg2
      rcases hat with h1 | h1
      · exact Or.inl (by rw [← h1]; exact hg2)
      · rw [h1] at hg2
        refine Or.inr ?_
        have := Option.some.inj hg2
        simp at this
        omega

/-- Two strictly increasing lists of the same numbers are the same. -/
theorem rises_uniq : ∀ (xs ys : List Int), xs.Pairwise (· < ·) → ys.Pairwise (· < ·) → (∀ z, z ∈ xs ↔ z ∈ ys) → xs = ys := by
  intro xs
  induction xs with
  | nil =>
    intro ys _ _ h
    cases ys with
    | nil => rfl
    | cons y ys => exact absurd ((h y).2 (by simp)) (by simp)
  | cons x xs ih =>
    intro ys hx hy h
    cases ys with
    | nil => exact absurd ((h x).1 (by simp)) (by simp)
    | cons y ys =>
      have hx1 := List.pairwise_cons.1 hx
      have hy1 := List.pairwise_cons.1 hy
      have e : x = y := by
        rcases List.mem_cons.1 ((h x).1 (by simp)) with h1 | h1
        · exact h1
        · rcases List.mem_cons.1 ((h y).2 (by simp)) with h2 | h2
          · exact h2.symm
          · have := hy1.1 x h1
            have := hx1.1 y h2
            omega
      subst e
      rw [ih ys hx1.2 hy1.2 (fun z => ?_)]
      constructor
      · intro hz
        rcases List.mem_cons.1 ((h z).1 (List.mem_cons_of_mem _ hz)) with h1 | h1
        · have := hx1.1 z hz
          omega
        · exact h1
      · intro hz
        rcases List.mem_cons.1 ((h z).2 (List.mem_cons_of_mem _ hz)) with h1 | h1
        · have := hy1.1 z hz
          omega
        · exact h1

/-- The numbers of two strictly increasing lists, strictly increasing. -/
def mergeL : List Int → List Int → List Int
  | [], ys => ys
  | x :: xs, [] => x :: xs
  | x :: xs, y :: ys => if x < y then x :: mergeL xs (y :: ys) else if y < x then y :: mergeL (x :: xs) ys else x :: mergeL xs ys
termination_by xs ys => xs.length + ys.length

theorem mergeL_mem : ∀ (n : Nat) (xs ys : List Int), xs.length + ys.length = n → ∀ z, z ∈ mergeL xs ys ↔ z ∈ xs ∨ z ∈ ys := by
  intro n
  induction n using Nat.strongRecOn with
  | ind n ih =>
    intro xs ys hn z
    match xs, ys with
    | [], ys => simp [mergeL]
    | x :: xs, [] => simp [mergeL]
    | x :: xs, y :: ys =>
      simp only [List.length_cons] at hn
      rw [mergeL]
      split
      · rw [List.mem_cons, ih (xs.length + (y :: ys).length) (by simp; omega) xs (y :: ys) rfl z]
        simp only [List.mem_cons, or_assoc]
      · split
        · rw [List.mem_cons, ih ((x :: xs).length + ys.length) (by simp; omega) (x :: xs) ys rfl z]
          simp only [List.mem_cons]
          constructor
          · rintro (h | (h | h) | h) <;> simp [h]
          · rintro ((h | h) | h | h) <;> simp [h]
        · have hxy : x = y := by omega
          rw [List.mem_cons, ih (xs.length + ys.length) (by omega) xs ys rfl z]
          subst hxy
          simp only [List.mem_cons]
          constructor
          · rintro (h | h | h) <;> simp [h]
          · rintro ((h | h) | h | h) <;> simp [h]

theorem mergeL_rises : ∀ (n : Nat) (xs ys : List Int), xs.length + ys.length = n → xs.Pairwise (· < ·) → ys.Pairwise (· < ·) → (mergeL xs ys).Pairwise (· < ·) := by
  intro n
  induction n using Nat.strongRecOn with
  | ind n ih =>
    intro xs ys hn hx hy
    match xs, ys with
    | [], ys => simpa [mergeL] using hy
    | x :: xs, [] => simpa [mergeL] using hx
    | x :: xs, y :: ys =>
      simp only [List.length_cons] at hn
      have hx1 := List.pairwise_cons.1 hx
      have hy1 := List.pairwise_cons.1 hy
      rw [mergeL]
      split
      · rename_i hlt
        refine List.pairwise_cons.2 ⟨fun z hz => ?_, ih (xs.length + (y :: ys).length) (by simp; omega) xs (y :: ys) rfl hx1.2 hy⟩
        rcases (mergeL_mem _ _ _ rfl z).1 hz with h | h
        · exact hx1.1 z h
        · rcases List.mem_cons.1 h with h | h
          · omega
          · have := hy1.1 z h
            omega
      · split
        · rename_i _ hlt
          refine List.pairwise_cons.2 ⟨fun z hz => ?_, ih ((x :: xs).length + ys.length) (by simp; omega) (x :: xs) ys rfl hx hy1.2⟩
          rcases (mergeL_mem _ _ _ rfl z).1 hz with h | h
          · rcases List.mem_cons.1 h with h | h
            · omega
            · have := hx1.1 z h
              omega
          · exact hy1.1 z h
        · have hxy : x = y := by omega
          refine List.pairwise_cons.2 ⟨fun z hz => ?_, ih (xs.length + ys.length) (by omega) xs ys rfl hx1.2 hy1.2⟩
          rcases (mergeL_mem _ _ _ rfl z).1 hz with h | h
          · exact hx1.1 z h
          · have := hy1.1 z h
            omega

theorem mergeL_len : ∀ (n : Nat) (xs ys : List Int), xs.length + ys.length = n → (mergeL xs ys).length ≤ n := by
  intro n
  induction n using Nat.strongRecOn with
  | ind n ih =>
    intro xs ys hn
    match xs, ys with
    | [], ys => simp [mergeL] at hn ⊢; omega
    | x :: xs, [] => simp [mergeL] at hn ⊢; omega
    | x :: xs, y :: ys =>
      simp only [List.length_cons] at hn
      rw [mergeL]
      split
      · have := ih (xs.length + (y :: ys).length) (by simp; omega) xs (y :: ys) rfl
        simp only [List.length_cons] at this ⊢
        omega
      · split
        · have := ih ((x :: xs).length + ys.length) (by simp; omega) (x :: xs) ys rfl
          simp only [List.length_cons] at this ⊢
          omega
        · have := ih (xs.length + ys.length) (by omega) xs ys rfl
          simp only [List.length_cons]
          omega

theorem validCharts_two (b : Nat) (v1 v2 : Value) (zs us : List (Int × Int)) (w : World) (h1 : RdP w v1 zs) (h2 : RdP w v2 us) (hb : b < w.heap.size) (hc0 : w.cell? ⟨b, 0, none⟩ = some v1) (hc1 : w.cell? ⟨b, 1, none⟩ = some v2) :
    Calls Try.prog 25 #[.slice (some ⟨b, 0, none⟩) 2 2] w fun e w' => e = .returned (.bool (chartB zs && chartB us)) ∧ Below w.heap.size w w' := by
  have H1 := Lib.hid h1
  have H2 := Lib.hid h2
  obtain ⟨A1, c1, rfl, hl1, _⟩ := RdP_slice h1
  obtain ⟨A2, c2, rfl, hl2, _⟩ := RdP_slice h2
  clear h1 h2
  have HC1 := Lib.hid (fun w h => implChart_any (.slice A1 zs.length c1) zs w h)
  have HC2 := Lib.hid (fun w h => implChart_any (.slice A2 us.length c2) us w h)
  generalize chartB zs = p at *
  generalize chartB us = q at *
  go_enter Try.func25, Try.ntmps25
  go_wp2_with fail
  go_loopw [7] (fun i wr => ∃ k : Nat, k ≤ 2 ∧ i = .int .i64 k ∧ (1 ≤ k → p = true) ∧ (2 ≤ k → q = true) ∧ Below w.heap.size w wr) (fun i _ => 2 - (intOf i).toNat)
  case atStart => exact ⟨0, by omega, rfl, fun h => by omega, fun h => by omega, Below.refl _ _⟩
  case round =>
    obtain ⟨k, hk, rfl, hp, hq, hbw⟩ := hrel
    rw [← kept_cell hbw b _ hb] at hc0 hc1
    rcases (show k = 0 ∨ k = 1 ∨ k = 2 by omega) with rfl | rfl | rfl
    · go_wp2_with fail
      refine (HC1.out _ (RdP_kept H1.out hbw)).mono ?_
      rintro e w1 ⟨rfl, hb1⟩
      have hbw1 := kept_trans hbw hb1
      cases p
      · go_wp2
        go_ret
        exact ⟨rfl, hbw1⟩
      · go_wp2
        go_roundw
        case rel => exact ⟨1, by omega, by go_num, fun _ => by simp, fun h => by omega, hbw1⟩
        case measure => simp [intOf]
    · obtain rfl := hp (by omega)
      go_wp2_with fail
      refine (HC2.out _ (RdP_kept H2.out hbw)).mono ?_
      rintro e w1 ⟨rfl, hb1⟩
      have hbw1 := kept_trans hbw hb1
      cases q
      · go_wp2
        go_ret
        exact ⟨rfl, hbw1⟩
      · go_wp2
        go_roundw
        case rel => exact ⟨2, by omega, by go_num, fun _ => by simp, fun _ => by simp, hbw1⟩
        case measure => simp [intOf]
    · obtain rfl := hp (by omega)
      obtain rfl := hq (by omega)
      go_wp2
      go_ret
      exact ⟨rfl, hbw⟩

theorem isNaN_any (x : Int) (w : World) : Calls Try.prog 41 #[.int .i64 x] w fun e w' => e = .returned (.bool false) ∧ w = w' := by
  go_enter Try.func41, Try.ntmps41
  go_wp2
  go_ret
  exact ⟨by simp, rfl⟩

/-- cmp.Compare at whole numbers. -/
theorem compare_any (x y : Int) (w : World) :
    Calls Try.prog 37 #[.int .i64 x, .int .i64 y] w fun e w' => e = .returned (.int .i64 (if x < y then -1 else if y < x then 1 else 0)) ∧ w = w' := by
  by_cases h1 : x < y
  · rw [if_pos h1]
    go_enter Try.func37, Try.ntmps37
    go_wp2_with fail
    refine (isNaN_any x w).mono ?_
    rintro e w' ⟨rfl, rfl⟩
    go_wp2_with fail
    refine (isNaN_any y w).mono ?_
    rintro e w' ⟨rfl, rfl⟩
    go_wp2
    go_ret
    exact ⟨rfl, rfl⟩
  · by_cases h2 : y < x
    · rw [if_neg h1, if_pos h2]
      go_enter Try.func37, Try.ntmps37
      go_wp2_with fail
      refine (isNaN_any x w).mono ?_
      rintro e w' ⟨rfl, rfl⟩
      go_wp2_with fail
      refine (isNaN_any y w).mono ?_
      rintro e w' ⟨rfl, rfl⟩
      go_wp2
      go_ret
      exact ⟨rfl, rfl⟩
    · rw [if_neg h1, if_neg h2]
      go_enter Try.func37, Try.ntmps37
      go_wp2_with fail
      refine (isNaN_any x w).mono ?_
      rintro e w' ⟨rfl, rfl⟩
      go_wp2_with fail
      refine (isNaN_any y w).mono ?_
      rintro e w' ⟨rfl, rfl⟩
      go_wp2
      go_ret
      exact ⟨rfl, rfl⟩

/-- The radii of steps. -/
def radiiL (zs : List (Int × Int)) : List Int := zs.map (·.1)

def radV (z : Int × Int) : Value := .int .i64 z.1

set_option maxRecDepth 100000 in
theorem radiiOf_any (v : Value) (zs : List (Int × Int)) (w : World) (h : RdP w v zs) (hn : zs.length ≤ 20) :
    Calls Try.prog 28 #[v] w fun e w' => ∃ v' g, e = .returned v' ∧ v' = .slice (some ⟨g, 0, none⟩) zs.length zs.length ∧ RowI w' w.heap.size w'.heap.size v' (radiiL zs) ∧ Below w.heap.size w w' := by
  obtain ⟨A, c, rfl, hl, _⟩ := RdP_slice h
  have H := Lib.hid h; clear h
  have Hstep := Lib.hid (fun (j : Nat) (h : j < zs.length) => map_step radV zs (Value.int .i64 0) j h)
  have Hend := Lib.hid (show (zs.map radV).take zs.length = (radiiL zs).map (Value.int .i64) by rw [List.take_of_length_le (by simp), radiiL, List.map_map]; rfl)
  have Hlen := Lib.hid (show (radiiL zs).length = zs.length by simp [radiiL])
  have hmk := run_make_row' (P := Try.prog) 48 2 (.int .i64 0) 8 Try.underlying48 info_int64 rfl .i64 .i64 zs.length (by omega) (by omega)
  have Hrow0 := Lib.hid (fun (wa : World) (hwa : w.heap.size ≤ wa.heap.size) => (by
    have := World.ownsRow_lit wa (base := w.heap.size) (e := 2) (size := 1) (madeCells #[.int .i64 0] zs.length) zs.length hwa (by unfold maxLen; omega) (by rw [size_madeCells]; simp)
    rw [toList_madeCells_one] at this
    exact this : (wa.alloc (.cells (madeCells #[.int .i64 0] zs.length) 2)).ownsRow w.heap.size 2 1 (.slice (some ⟨wa.heap.size, 0, none⟩) zs.length zs.length) zs.length (List.replicate zs.length (Value.int .i64 0))))
  go_enter Try.func28, Try.ntmps28
  go_wp2_with fail
  go_loopw [11] (fun i wr => ∃ k : Nat, k ≤ zs.length ∧ i = .int .i64 k ∧ wr.ownsRow w.heap.size 2 1 (.slice (some ⟨w.heap.size, 0, none⟩) zs.length zs.length) zs.length ((zs.map radV).take k ++ List.replicate (zs.length - k) (Value.int .i64 0)) ∧ w.heap.size < wr.heap.size ∧ Below w.heap.size w wr) (fun i _ => zs.length - (intOf i).toNat)
  case atStart => exact ⟨0, by omega, rfl, by simpa using Hrow0.out w (Nat.le_refl _), by simp, by go_grown⟩
  case round =>
    obtain ⟨k, hk, rfl, hown, hlw, hb⟩ := hrel
    by_cases hlt : k < zs.length
    · obtain ⟨_, b, off, rfl, hbl, hc0, hc1⟩ := rd_at H.out k hlt
      rw [atP_is zs k hlt] at hc0 hc1
      rw [← kept_cell hb b _ hbl] at hc0 hc1
      have hlen : ((zs.map radV).take k ++ List.replicate (zs.length - k) (Value.int .i64 0)).length = zs.length * 1 := hown.1
      obtain ⟨u0, hu0⟩ : ∃ u, wr.cell? ⟨w.heap.size, k, none⟩ = some u := by
        rw [hown.cellAt _ (by omega)]
        exact ⟨_, List.getElem?_eq_getElem (by omega)⟩
      have hz0 := hown.frozenAt k
      have hnext := Hstep.out k hlt
      rw [show radV zs[k] = .int .i64 zs[k].1 from rfl] at hnext
      generalize zs[k].1 = x at *
      generalize zs[k].2 = y at *
      have hst := hown.stored k (.int .i64 x)
      rw [hnext] at hst
      have Hst := Lib.hid hst; clear hst
      have Hown := Lib.hid hown; clear hown hlen hnext
      have fu : (wr.alloc (.cells #[.int .i64 x, .int .i64 y] 35)).cell? ⟨w.heap.size, k, none⟩ = some u0 := by rw [World.cell?_alloc_past _ _ _ hlw]; exact hu0
      have fz : (wr.alloc (.cells #[.int .i64 x, .int .i64 y] 35)).frozen? ⟨w.heap.size, k, none⟩ = false := by rw [World.frozen?_alloc_past _ _ _ hlw]; exact hz0
      have hne1 : ¬ w.heap.size = wr.heap.size := by omega
      go_wp2
      go_roundw
      case rel => exact ⟨k + 1, by omega, by go_num, Hst.out.1.alloc _, by simp; omega, (hb.setCell (Nat.le_refl _) _).alloc (by simp [World.setCell]; omega) _⟩
      case measure => simp [intOf]; omega
    · have : k = zs.length := by omega
      subst this
      rw [Hend.out] at hown
      have HO := Lib.hid hown; clear hown
      go_wp2
      go_ret
      refine ⟨_, w.heap.size, rfl, rfl, ⟨?_, fun g hg => by simp [Value.ownBlock] at hg; subst hg; exact ⟨Nat.le_refl _, hlw⟩⟩, hb⟩
      rw [Hlen.out]
      simpa using HO.out

/-- A slice of numbers without room, as what is left of a list of numbers. -/
def SlI (w : World) (v : Value) (zs : List Int) : Prop :=
  ∃ b off, v = .slice (some ⟨b, off, none⟩) zs.length zs.length ∧ zs.length ≤ 20 ∧ b < w.heap.size ∧ ∀ k, (hk : k < zs.length) → w.cell? ⟨b, off + k, none⟩ = some (.int .i64 zs[k])

theorem SlI_kept {W w1 : World} {v : Value} {zs : List Int} (h : SlI W v zs) (hb : Below W.heap.size W w1) : SlI w1 v zs := by
  obtain ⟨b, off, rfl, hl, hlt, hr⟩ := h
  exact ⟨b, off, rfl, hl, Nat.lt_of_lt_of_le hlt hb.size, fun k hk => by rw [kept_cell hb b _ hlt]; exact hr k hk⟩

theorem SlI_tail {w : World} {b off : Nat} {x y : Int} {zs : List Int} (h : SlI w (.slice (some ⟨b, off, none⟩) (zs.length + 2) (zs.length + 2)) (x :: y :: zs)) :
    SlI w (.slice (some ⟨b, off + 1, none⟩) (zs.length + 1) (zs.length + 1)) (y :: zs) := by
  obtain ⟨b', off', he, hl, hlt, hr⟩ := h
  cases he
  refine ⟨_, _, rfl, by simp at hl ⊢; omega, hlt, fun k hk => ?_⟩
  have hc := hr (k + 1) (by simp at hk ⊢; omega)
  rw [show off + 1 + k = off + (k + 1) by omega]
  simpa using hc

theorem SlI_last {w : World} {b off : Nat} (h : b < w.heap.size) : SlI w (.slice (some ⟨b, off, none⟩) 0 0) [] := ⟨b, off, rfl, by simp, h, fun k hk => by simp at hk⟩

theorem SlI_head {w : World} {v : Value} {x : Int} {zs : List Int} (h : SlI w v (x :: zs)) : ∃ b off, v = .slice (some ⟨b, off, none⟩) (zs.length + 1) (zs.length + 1) ∧ zs.length ≤ 19 ∧ b < w.heap.size ∧ w.cell? ⟨b, off, none⟩ = some (.int .i64 x) := by
  obtain ⟨b, off, rfl, hl, hlt, hr⟩ := h
  exact ⟨b, off, rfl, by simp at hl; omega, hlt, by have := hr 0 (by simp); simpa using this⟩

/-- append of a list of numbers to a row of the call's own. -/
theorem wp_appendIs {ops : Array Oper} {rest : List Oper} {o : Oper} {a : Act} {Q : Exit → Act → World → Prop} {W wr : World} (hgd : o.guard = none) (s x : Operand)
    (ho : o.op = .call { callee := .builtin .append, args := #[s, x], argTypes := #[48, 48] })
    (lo : Nat) (v : Value) (zs ys : List Int) (v2 : Value) (hs : a.eval s = v) (hrow : RowI wr lo wr.heap.size v zs) (hx : a.eval x = v2) (h2 : SlI wr v2 ys)
    (hW : Below W.heap.size W wr) (hlo : W.heap.size ≤ lo) (hlo2 : lo ≤ wr.heap.size) (hn : zs.length ≤ 1000)
    (h : ∀ v' w', RowI w' lo w'.heap.size v' (zs ++ ys) → Below W.heap.size W w' → wr.heap.size ≤ w'.heap.size → wpList Try.prog ops Q rest (a.put o.dst v') w') :
    wpList Try.prog ops Q (o :: rest) a wr := by
  obtain ⟨i0, hi, hz0, hz1, hz2⟩ := info_parts info_int64
  obtain ⟨b, off, rfl, hl, hlt, hr⟩ := h2
  refine wpList_append_own _ hgd s x _ ho lo 2 i0 (.int .i64 0) 1 8 Try.underlying48 hi hz0 hz1 hz2 rfl (by decide) v zs.length _ hs hrow.1 ⟨b, off, none⟩ ys.length ys.length (ys.map (Value.int .i64)) hx (by simp) ?_ ?_ ?_ ?_ hlo2 ?_
  · intro j u hj
    rw [List.getElem?_map] at hj
    rcases Nat.lt_or_ge j ys.length with h1 | h1
    · rw [List.getElem?_eq_getElem h1] at hj
      cases hj
      have := hr j h1
      unfold Addr.add
      split <;> simp_all
    · rw [List.getElem?_eq_none h1] at hj
      cases hj
  · intro u hu
    obtain ⟨z, _, rfl⟩ := List.mem_map.1 hu
    rfl
  · unfold maxLen; omega
  · omega
  · intro v' w' hown hg _
    refine h v' w' ⟨by simpa using hown, hown.lt⟩ ?_ hg.size
    refine grown_below hW hg (fun g hg2 => ?_)
    have := (hrow.2 g hg2).1
    omega

/-- The length of a slice. -/
def lenOf : Value → Nat
  | .slice _ n _ => n
  | _ => 0

set_option maxHeartbeats 4000000 in
set_option maxRecDepth 100000 in
theorem merged_any (v1 v2 : Value) (xs ys : List Int) (w : World) (h1 : SlI w v1 xs) (h2 : SlI w v2 ys) :
    Calls Try.prog 27 #[v1, v2] w fun e w' => ∃ v', e = .returned v' ∧ RowI w' w.heap.size w'.heap.size v' (mergeL xs ys) ∧ Below w.heap.size w w' := by
  have hml := mergeL_len _ xs ys rfl
  obtain ⟨bA, oA, rfl, hl1, _⟩ := id h1
  obtain ⟨bB, oB, rfl, hl2, _⟩ := id h2
  obtain ⟨i0, hi0, hz0, hz1, hz2⟩ := info_parts info_int64
  obtain ⟨W0, hmk, hown0, hg0⟩ := run_make_own (P := Try.prog) w w.heap.size 48 2 i0 _ 1 Try.underlying48 hi0 hz0 hz1 .i64 .i64 (xs.length + ys.length) (by rw [hz2]; omega) (by unfold maxLen; omega) (Nat.le_refl _)
  rw [show ((xs.length + ys.length : Nat) : Int) = (xs.length : Int) + (ys.length : Int) from by push_cast; rfl] at hmk
  have hb0 : Below w.heap.size w W0 := (Below.refl _ w).grown hg0 (Nat.le_refl _) (fun k hk => by cases hk)
  generalize hM : mergeL xs ys = M at *
  have H1 := Lib.hid h1; clear h1
  have H2 := Lib.hid h2; clear h2
  go_enter Try.func27, Try.ntmps27
  go_wp2_with fail
  go_loopw [0, 1, 5] (fun a b o wr => ∃ (x y us : List Int) (ov : Value), ov = o ∧ SlI w a x ∧ SlI w b y ∧ us ++ mergeL x y = M ∧ x.length ≤ xs.length ∧ y.length ≤ ys.length ∧ RowI wr w.heap.size wr.heap.size ov us ∧ Below w.heap.size w wr) (fun a b _ _ => lenOf a + lenOf b)
  case atStart => exact ⟨xs, ys, [], _, rfl, H1.out, H2.out, hM, Nat.le_refl _, Nat.le_refl _, ⟨hown0, fun g hg => (hown0.lt g hg)⟩, hb0⟩
  case round =>
    obtain ⟨x, y, us, ov, ho, ha, hb', hm, hlx, hly, hrow, hb⟩ := hrel
    subst ho
    cases x with
    | nil =>
      have hml0 : mergeL [] y = y := by simp [mergeL]
      rw [hml0] at hm
      have hsz := hb.size
      have hul : us.length ≤ 1000 ∧ (us ++ []).length ≤ 1000 := by
        have := congrArg List.length hm
        simp only [List.length_append, List.length_nil, List.length_cons] at this hlx ⊢
        omega
      obtain ⟨b1, o1, ea, hlx2, hlt1, _⟩ := id ha
      obtain ⟨b2, o2, eb, hly2, hlt2, _⟩ := id hb'
      (try simp only [List.length_nil, List.length_cons] at ea eb)
      subst ea
      subst eb
      have HA := Lib.hid ha; clear ha
      have HB := Lib.hid hb'; clear hb'
      have HM := Lib.hid hm; clear hm
      have HR := Lib.hid hrow; clear hrow
      have HBB := Lib.hid hb
      go_wp2_with (at_builtin; first
        | (refine wp_appendIs rfl (.tmp 57) (.tmp 58) rfl w.heap.size ov us [] _ rfl HR.out rfl (SlI_kept HA.out HBB.out) HBB.out (Nat.le_refl _) hsz hul.1 ?_; intro v1 w1 hr1 hw1 hs1; have hz1 := hw1.size)
        | (refine wp_appendIs rfl (.tmp 59) (.tmp 60) rfl w.heap.size v1 (us ++ []) y _ rfl hr1 rfl (SlI_kept HB.out hw1) hw1 (Nat.le_refl _) hz1 hul.2 ?_; intro v2 w2 hr2 hw2 hs2))
      go_ret
      refine ⟨_, rfl, ?_, hw2⟩
      have h := hr2
      rw [List.append_assoc] at h
      simp only [List.nil_append, List.append_nil] at h
      rw [HM.out] at h
      exact h
    | cons x xr =>
      cases y with
      | nil =>
        have hml0 : mergeL (x :: xr) [] = x :: xr := by simp [mergeL]
        rw [hml0] at hm
        have hsz := hb.size
        have hul : us.length ≤ 1000 ∧ (us ++ (x :: xr)).length ≤ 1000 := by
          have := congrArg List.length hm
          simp only [List.length_append, List.length_nil, List.length_cons] at this hlx ⊢
          omega
        obtain ⟨b1, o1, ea, hlx2, hlt1, _⟩ := id ha
        obtain ⟨b2, o2, eb, hly2, hlt2, _⟩ := id hb'
        (try simp only [List.length_nil, List.length_cons] at ea eb)
        subst ea
        subst eb
        have HA := Lib.hid ha; clear ha
        have HB := Lib.hid hb'; clear hb'
        have HM := Lib.hid hm; clear hm
        have HR := Lib.hid hrow; clear hrow
        have HBB := Lib.hid hb
        go_wp2_with (at_builtin; first
          | (refine wp_appendIs rfl (.tmp 57) (.tmp 58) rfl w.heap.size ov us (x :: xr) _ rfl HR.out rfl (SlI_kept HA.out HBB.out) HBB.out (Nat.le_refl _) hsz hul.1 ?_; intro v1 w1 hr1 hw1 hs1; have hz1 := hw1.size)
          | (refine wp_appendIs rfl (.tmp 59) (.tmp 60) rfl w.heap.size v1 (us ++ (x :: xr)) [] _ rfl hr1 rfl (SlI_kept HB.out hw1) hw1 (Nat.le_refl _) hz1 hul.2 ?_; intro v2 w2 hr2 hw2 hs2))
        go_ret
        refine ⟨_, rfl, ?_, hw2⟩
        have h := hr2
        rw [List.append_assoc] at h
        simp only [List.nil_append, List.append_nil] at h
        rw [HM.out] at h
        exact h
      | cons y yr =>
        obtain ⟨ba, oa, rfl, hxl, hba, hca⟩ := SlI_head ha
        obtain ⟨bb, ob, rfl, hyl, hbb, hcb⟩ := SlI_head hb'
        simp only [List.length_cons] at hlx hly
        rw [← kept_cell hb ba _ hba] at hca
        rw [← kept_cell hb bb _ hbb] at hcb
        have hbaw : ba < wr.heap.size := by have := hb.size; omega
        have hbbw : bb < wr.heap.size := by have := hb.size; omega
        have hul : us.length ≤ 40 := by
          have := congrArg List.length hm
          simp only [List.length_append] at this
          omega
        have hszw := hb.size
        have hneA : ba < wr.heap.size + 1 ∧ some ba ≠ ov.ownBlock := ⟨by omega, fun e => by have := (hrow.2 ba e.symm).1; omega⟩
        have hneB : bb < wr.heap.size + 1 ∧ some bb ≠ ov.ownBlock := ⟨by omega, fun e => by have := (hrow.2 bb e.symm).1; omega⟩
        have hcmp := compare_any x y
        rw [mergeL] at hm
        by_cases hxy : x < y
        · simp only [hxy, if_true] at hcmp hm
          have HA := Lib.hid ha; clear ha
          have HB := Lib.hid hb'; clear hb'
          have HM := Lib.hid hm; clear hm
          have HC := Lib.hid hcmp; clear hcmp
          have HR := Lib.hid hrow; clear hrow
          go_wp2_with fail
          go_quiet ((go_at_call 37; exact Calls.quiet_of_same ((HC.out _).mono fun e w' h => ⟨h.1, h.2.symm⟩)))
          go_wp2_with fail
          cases xr with
          | nil =>
            have hcA : (wr.alloc (.cells #[.int .i64 x] 2)).cell? ⟨ba, oa, none⟩ = some (.int .i64 x) := by rw [World.cell?_alloc_past _ _ _ (by show ba < _; omega)]; exact hca
            simp only [List.length_nil, Nat.zero_add]
            go_region_held3 (fun w' => w'.cell? ⟨ba, oa, none⟩ = some (.int .i64 x)) (first | (go_keep; done) | (rw [hgrow.cell_far _ (by simp; exact hneA.1) hneA.2]; simp [World.cell?_alloc_past, *]; done))
              ((refine step_append_lies _ (by rfl) _ _ _ (by rfl) w.heap.size 2 i0 _ 1 8 Try.underlying48 hi0 hz0 hz1 hz2 rfl (by omega) _ us.length (us.map (Value.int .i64)) (by rfl) (by exact (HR.out.1.alloc _).drew)
                  ⟨wr.heap.size, 0, none⟩ 1 1 [.int .i64 x] (by rfl) (by rfl) (World.news_of_block (cs := #[.int .i64 x]) (t := 2) (fr := (0, 0)) (heap_alloc_new wr _)) (by simp [Value.oneCell'])
                  (by omega) (by unfold maxLen; omega) (by omega) (by simp; omega) (wr.heap.size + 1) (by simp) ?_; intro g cap w2 hown2 hgrow hat hlt2))
            go_wp2
            go_roundw
            case rel => exact ⟨[], y :: yr, us ++ [x], _, rfl, SlI_last hba, HB.out, by simpa using HM.out, by simp, by simp; omega, ⟨by simpa using hown2, fun g' hg' => by simp [Value.ownBlock] at hg'; subst hg'; exact ⟨(hown2.lt _ rfl).1, hlt2⟩⟩, grown_below (kept_trans hb (by go_grown; exact kept_drewN (Below.refl _ _) _)) hgrow (fun g' hg' => (HR.out.2 g' hg').1)⟩
            case measure => simp [lenOf]
          | cons x2 xr =>
            simp only [List.length_cons] at hxl
            simp only [List.length_cons]
            generalize hL : xr.length + 1 + 1 = L at *
            have hc1 : ¬ (L = 1) := by omega
            have hc2 : 0 < L := by omega
            have hc3 : 1 ≤ L := by omega
            have hc4 : (1 : Int) ≤ (L : Int) := by omega
            have hc5 : (0 : Int) < (L : Int) := by omega
            have hcA : (wr.alloc (.cells #[.int .i64 x] 2)).cell? ⟨ba, oa, none⟩ = some (.int .i64 x) := by rw [World.cell?_alloc_past _ _ _ (by show ba < _; omega)]; exact hca
            go_region_held3 (fun w' => w'.cell? ⟨ba, oa, none⟩ = some (.int .i64 x)) (first | (go_keep; done) | (rw [hgrow.cell_far _ (by simp; exact hneA.1) hneA.2]; simp [World.cell?_alloc_past, *]; done))
              ((refine step_append_lies _ (by rfl) _ _ _ (by rfl) w.heap.size 2 i0 _ 1 8 Try.underlying48 hi0 hz0 hz1 hz2 rfl (by omega) _ us.length (us.map (Value.int .i64)) (by rfl) (by exact (HR.out.1.alloc _).drew)
                  ⟨wr.heap.size, 0, none⟩ 1 1 [.int .i64 x] (by rfl) (by rfl) (World.news_of_block (cs := #[.int .i64 x]) (t := 2) (fr := (0, 0)) (heap_alloc_new wr _)) (by simp [Value.oneCell'])
                  (by omega) (by unfold maxLen; omega) (by omega) (by simp; omega) (wr.heap.size + 1) (by simp) ?_; intro g cap w2 hown2 hgrow hat hlt2))
            go_wp2
            go_roundw
            case rel => exact ⟨x2 :: xr, y :: yr, us ++ [x], _, rfl, by subst hL; exact SlI_tail HA.out, HB.out, by simpa using HM.out, by simp; omega, by simp; omega, ⟨by simpa using hown2, fun g' hg' => by simp [Value.ownBlock] at hg'; subst hg'; exact ⟨(hown2.lt _ rfl).1, hlt2⟩⟩, grown_below (kept_trans hb (by go_grown; exact kept_drewN (Below.refl _ _) _)) hgrow (fun g' hg' => (HR.out.2 g' hg').1)⟩
            case measure => simp [lenOf]; omega
        · by_cases hyx : y < x
          · simp only [hxy, hyx, if_true, if_false] at hcmp hm
            have HA := Lib.hid ha; clear ha
            have HB := Lib.hid hb'; clear hb'
            have HM := Lib.hid hm; clear hm
            have HC := Lib.hid hcmp; clear hcmp
            have HR := Lib.hid hrow; clear hrow
            go_wp2_with fail
            go_quiet ((go_at_call 37; exact Calls.quiet_of_same ((HC.out _).mono fun e w' h => ⟨h.1, h.2.symm⟩)))
            go_wp2_with fail
            cases yr with
            | nil =>
              have hcA : (wr.alloc (.cells #[.int .i64 y] 2)).cell? ⟨bb, ob, none⟩ = some (.int .i64 y) := by rw [World.cell?_alloc_past _ _ _ (by show bb < _; omega)]; exact hcb
              simp only [List.length_nil, Nat.zero_add]
              go_region_held3 (fun w' => w'.cell? ⟨bb, ob, none⟩ = some (.int .i64 y)) (first | (go_keep; done) | (rw [hgrow.cell_far _ (by simp; exact hneB.1) hneB.2]; simp [World.cell?_alloc_past, *]; done))
                ((refine step_append_lies _ (by rfl) _ _ _ (by rfl) w.heap.size 2 i0 _ 1 8 Try.underlying48 hi0 hz0 hz1 hz2 rfl (by omega) _ us.length (us.map (Value.int .i64)) (by rfl) (by exact (HR.out.1.alloc _).drew)
                    ⟨wr.heap.size, 0, none⟩ 1 1 [.int .i64 y] (by rfl) (by rfl) (World.news_of_block (cs := #[.int .i64 y]) (t := 2) (fr := (0, 0)) (heap_alloc_new wr _)) (by simp [Value.oneCell'])
                    (by omega) (by unfold maxLen; omega) (by omega) (by simp; omega) (wr.heap.size + 1) (by simp) ?_; intro g cap w2 hown2 hgrow hat hlt2))
              go_wp2
              go_roundw
              case rel => exact ⟨x :: xr, [], us ++ [y], _, rfl, HA.out, SlI_last hbb, by simpa using HM.out, by simp; omega, by simp, ⟨by simpa using hown2, fun g' hg' => by simp [Value.ownBlock] at hg'; subst hg'; exact ⟨(hown2.lt _ rfl).1, hlt2⟩⟩, grown_below (kept_trans hb (by go_grown; exact kept_drewN (Below.refl _ _) _)) hgrow (fun g' hg' => (HR.out.2 g' hg').1)⟩
              case measure => simp [lenOf]
            | cons y2 yr =>
              simp only [List.length_cons] at hyl
              simp only [List.length_cons]
              generalize hL : yr.length + 1 + 1 = L at *
              have hc1 : ¬ (L = 1) := by omega
              have hc2 : 0 < L := by omega
              have hc3 : 1 ≤ L := by omega
              have hc4 : (1 : Int) ≤ (L : Int) := by omega
              have hc5 : (0 : Int) < (L : Int) := by omega
              have hcA : (wr.alloc (.cells #[.int .i64 y] 2)).cell? ⟨bb, ob, none⟩ = some (.int .i64 y) := by rw [World.cell?_alloc_past _ _ _ (by show bb < _; omega)]; exact hcb
              go_region_held3 (fun w' => w'.cell? ⟨bb, ob, none⟩ = some (.int .i64 y)) (first | (go_keep; done) | (rw [hgrow.cell_far _ (by simp; exact hneB.1) hneB.2]; simp [World.cell?_alloc_past, *]; done))
                ((refine step_append_lies _ (by rfl) _ _ _ (by rfl) w.heap.size 2 i0 _ 1 8 Try.underlying48 hi0 hz0 hz1 hz2 rfl (by omega) _ us.length (us.map (Value.int .i64)) (by rfl) (by exact (HR.out.1.alloc _).drew)
                    ⟨wr.heap.size, 0, none⟩ 1 1 [.int .i64 y] (by rfl) (by rfl) (World.news_of_block (cs := #[.int .i64 y]) (t := 2) (fr := (0, 0)) (heap_alloc_new wr _)) (by simp [Value.oneCell'])
                    (by omega) (by unfold maxLen; omega) (by omega) (by simp; omega) (wr.heap.size + 1) (by simp) ?_; intro g cap w2 hown2 hgrow hat hlt2))
              go_wp2
              go_roundw
              case rel => exact ⟨x :: xr, y2 :: yr, us ++ [y], _, rfl, HA.out, by subst hL; exact SlI_tail HB.out, by simpa using HM.out, by simp; omega, by simp; omega, ⟨by simpa using hown2, fun g' hg' => by simp [Value.ownBlock] at hg'; subst hg'; exact ⟨(hown2.lt _ rfl).1, hlt2⟩⟩, grown_below (kept_trans hb (by go_grown; exact kept_drewN (Below.refl _ _) _)) hgrow (fun g' hg' => (HR.out.2 g' hg').1)⟩
              case measure => simp [lenOf]; omega
          · have hxe : x = y := by omega
            subst hxe
            simp only [Int.lt_irrefl, if_false] at hcmp hm
            have HA := Lib.hid ha; clear ha
            have HB := Lib.hid hb'; clear hb'
            have HM := Lib.hid hm; clear hm
            have HC := Lib.hid hcmp; clear hcmp
            have HR := Lib.hid hrow; clear hrow
            clear hxy hyx
            go_wp2_with fail
            go_quiet ((go_at_call 37; exact Calls.quiet_of_same ((HC.out _).mono fun e w' h => ⟨h.1, h.2.symm⟩)))
            go_wp2_with fail
            cases xr with
            | nil =>
              cases yr with
              | nil =>
                have hcA : (wr.alloc (.cells #[.int .i64 x] 2)).cell? ⟨ba, oa, none⟩ = some (.int .i64 x) := by rw [World.cell?_alloc_past _ _ _ (by show ba < _; omega)]; exact hca
                simp only [List.length_nil, Nat.zero_add]
                go_region_held3 (fun w' => w'.cell? ⟨ba, oa, none⟩ = some (.int .i64 x)) (first | (go_keep; done) | (rw [hgrow.cell_far _ (by simp; exact hneA.1) hneA.2]; simp [World.cell?_alloc_past, *]; done))
                  ((refine step_append_lies _ (by rfl) _ _ _ (by rfl) w.heap.size 2 i0 _ 1 8 Try.underlying48 hi0 hz0 hz1 hz2 rfl (by omega) _ us.length (us.map (Value.int .i64)) (by rfl) (by exact (HR.out.1.alloc _).drew)
                      ⟨wr.heap.size, 0, none⟩ 1 1 [.int .i64 x] (by rfl) (by rfl) (World.news_of_block (cs := #[.int .i64 x]) (t := 2) (fr := (0, 0)) (heap_alloc_new wr _)) (by simp [Value.oneCell'])
                      (by omega) (by unfold maxLen; omega) (by omega) (by simp; omega) (wr.heap.size + 1) (by simp) ?_; intro g cap w2 hown2 hgrow hat hlt2))
                go_wp2
                go_roundw
                case rel => exact ⟨[], [], us ++ [x], _, rfl, SlI_last hba, SlI_last hbb, by simpa using HM.out, (by simp), (by simp), ⟨by simpa using hown2, fun g' hg' => by simp [Value.ownBlock] at hg'; subst hg'; exact ⟨(hown2.lt _ rfl).1, hlt2⟩⟩, grown_below (kept_trans hb (by go_grown; exact kept_drewN (Below.refl _ _) _)) hgrow (fun g' hg' => (HR.out.2 g' hg').1)⟩
                case measure => simp [lenOf]
              | cons y2 yr =>
                simp only [List.length_cons] at hyl
                have hcA : (wr.alloc (.cells #[.int .i64 x] 2)).cell? ⟨ba, oa, none⟩ = some (.int .i64 x) := by rw [World.cell?_alloc_past _ _ _ (by show ba < _; omega)]; exact hca
                simp only [List.length_cons, List.length_nil, Nat.zero_add]
                generalize hL2 : yr.length + 1 + 1 = L2 at *
                have hL2a : ¬ (L2 = 1) := by omega
                have hL2b : 0 < L2 := by omega
                have hL2c : 1 ≤ L2 := by omega
                have hL2d : (1 : Int) ≤ (L2 : Int) := by omega
                have hL2e : (0 : Int) < (L2 : Int) := by omega
                go_region_held3 (fun w' => w'.cell? ⟨ba, oa, none⟩ = some (.int .i64 x)) (first | (go_keep; done) | (rw [hgrow.cell_far _ (by simp; exact hneA.1) hneA.2]; simp [World.cell?_alloc_past, *]; done))
                  ((refine step_append_lies _ (by rfl) _ _ _ (by rfl) w.heap.size 2 i0 _ 1 8 Try.underlying48 hi0 hz0 hz1 hz2 rfl (by omega) _ us.length (us.map (Value.int .i64)) (by rfl) (by exact (HR.out.1.alloc _).drew)
                      ⟨wr.heap.size, 0, none⟩ 1 1 [.int .i64 x] (by rfl) (by rfl) (World.news_of_block (cs := #[.int .i64 x]) (t := 2) (fr := (0, 0)) (heap_alloc_new wr _)) (by simp [Value.oneCell'])
                      (by omega) (by unfold maxLen; omega) (by omega) (by simp; omega) (wr.heap.size + 1) (by simp) ?_; intro g cap w2 hown2 hgrow hat hlt2))
                go_wp2
                go_roundw
                case rel => exact ⟨[], y2 :: yr, us ++ [x], _, rfl, SlI_last hba, (by subst hL2; exact SlI_tail HB.out), by simpa using HM.out, (by simp), (by simp; omega), ⟨by simpa using hown2, fun g' hg' => by simp [Value.ownBlock] at hg'; subst hg'; exact ⟨(hown2.lt _ rfl).1, hlt2⟩⟩, grown_below (kept_trans hb (by go_grown; exact kept_drewN (Below.refl _ _) _)) hgrow (fun g' hg' => (HR.out.2 g' hg').1)⟩
                case measure => simp [lenOf]; omega
            | cons x2 xr =>
              cases yr with
              | nil =>
                simp only [List.length_cons] at hxl
                have hcA : (wr.alloc (.cells #[.int .i64 x] 2)).cell? ⟨ba, oa, none⟩ = some (.int .i64 x) := by rw [World.cell?_alloc_past _ _ _ (by show ba < _; omega)]; exact hca
                simp only [List.length_cons, List.length_nil, Nat.zero_add]
                generalize hL1 : xr.length + 1 + 1 = L1 at *
                have hL1a : ¬ (L1 = 1) := by omega
                have hL1b : 0 < L1 := by omega
                have hL1c : 1 ≤ L1 := by omega
                have hL1d : (1 : Int) ≤ (L1 : Int) := by omega
                have hL1e : (0 : Int) < (L1 : Int) := by omega
                go_region_held3 (fun w' => w'.cell? ⟨ba, oa, none⟩ = some (.int .i64 x)) (first | (go_keep; done) | (rw [hgrow.cell_far _ (by simp; exact hneA.1) hneA.2]; simp [World.cell?_alloc_past, *]; done))
                  ((refine step_append_lies _ (by rfl) _ _ _ (by rfl) w.heap.size 2 i0 _ 1 8 Try.underlying48 hi0 hz0 hz1 hz2 rfl (by omega) _ us.length (us.map (Value.int .i64)) (by rfl) (by exact (HR.out.1.alloc _).drew)
                      ⟨wr.heap.size, 0, none⟩ 1 1 [.int .i64 x] (by rfl) (by rfl) (World.news_of_block (cs := #[.int .i64 x]) (t := 2) (fr := (0, 0)) (heap_alloc_new wr _)) (by simp [Value.oneCell'])
                      (by omega) (by unfold maxLen; omega) (by omega) (by simp; omega) (wr.heap.size + 1) (by simp) ?_; intro g cap w2 hown2 hgrow hat hlt2))
                go_wp2
                go_roundw
                case rel => exact ⟨x2 :: xr, [], us ++ [x], _, rfl, (by subst hL1; exact SlI_tail HA.out), SlI_last hbb, by simpa using HM.out, (by simp; omega), (by simp), ⟨by simpa using hown2, fun g' hg' => by simp [Value.ownBlock] at hg'; subst hg'; exact ⟨(hown2.lt _ rfl).1, hlt2⟩⟩, grown_below (kept_trans hb (by go_grown; exact kept_drewN (Below.refl _ _) _)) hgrow (fun g' hg' => (HR.out.2 g' hg').1)⟩
                case measure => simp [lenOf]; omega
              | cons y2 yr =>
                simp only [List.length_cons] at hxl
                simp only [List.length_cons] at hyl
                have hcA : (wr.alloc (.cells #[.int .i64 x] 2)).cell? ⟨ba, oa, none⟩ = some (.int .i64 x) := by rw [World.cell?_alloc_past _ _ _ (by show ba < _; omega)]; exact hca
                simp only [List.length_cons, List.length_nil, Nat.zero_add]
                generalize hL1 : xr.length + 1 + 1 = L1 at *
                have hL1a : ¬ (L1 = 1) := by omega
                have hL1b : 0 < L1 := by omega
                have hL1c : 1 ≤ L1 := by omega
                have hL1d : (1 : Int) ≤ (L1 : Int) := by omega
                have hL1e : (0 : Int) < (L1 : Int) := by omega
                generalize hL2 : yr.length + 1 + 1 = L2 at *
                have hL2a : ¬ (L2 = 1) := by omega
                have hL2b : 0 < L2 := by omega
                have hL2c : 1 ≤ L2 := by omega
                have hL2d : (1 : Int) ≤ (L2 : Int) := by omega
                have hL2e : (0 : Int) < (L2 : Int) := by omega
                go_region_held3 (fun w' => w'.cell? ⟨ba, oa, none⟩ = some (.int .i64 x)) (first | (go_keep; done) | (rw [hgrow.cell_far _ (by simp; exact hneA.1) hneA.2]; simp [World.cell?_alloc_past, *]; done))
                  ((refine step_append_lies _ (by rfl) _ _ _ (by rfl) w.heap.size 2 i0 _ 1 8 Try.underlying48 hi0 hz0 hz1 hz2 rfl (by omega) _ us.length (us.map (Value.int .i64)) (by rfl) (by exact (HR.out.1.alloc _).drew)
                      ⟨wr.heap.size, 0, none⟩ 1 1 [.int .i64 x] (by rfl) (by rfl) (World.news_of_block (cs := #[.int .i64 x]) (t := 2) (fr := (0, 0)) (heap_alloc_new wr _)) (by simp [Value.oneCell'])
                      (by omega) (by unfold maxLen; omega) (by omega) (by simp; omega) (wr.heap.size + 1) (by simp) ?_; intro g cap w2 hown2 hgrow hat hlt2))
                go_wp2
                go_roundw
                case rel => exact ⟨x2 :: xr, y2 :: yr, us ++ [x], _, rfl, (by subst hL1; exact SlI_tail HA.out), (by subst hL2; exact SlI_tail HB.out), by simpa using HM.out, (by simp; omega), (by simp; omega), ⟨by simpa using hown2, fun g' hg' => by simp [Value.ownBlock] at hg'; subst hg'; exact ⟨(hown2.lt _ rfl).1, hlt2⟩⟩, grown_below (kept_trans hb (by go_grown; exact kept_drewN (Below.refl _ _) _)) hgrow (fun g' hg' => (HR.out.2 g' hg').1)⟩
                case measure => simp [lenOf]; omega

def hasB (zs : List (Int × Int)) (r : Int) : Bool := decide (r ∈ radiiL zs)

theorem ChartP_strict {zs : List (Int × Int)} (h : ChartP zs) (i j : Nat) (hi : i < zs.length) (hj : j < zs.length) (hij : i < j) : zs[i].1 < zs[j].1 := by
  have h1 := ChartP_incr h i (j - 1) hi (by omega) (by omega)
  have h2 := (h.1 j hj hj).2 (by omega)
  omega

theorem radii_rise {zs : List (Int × Int)} (h : ChartP zs) : (radiiL zs).Pairwise (· < ·) := by
  rw [List.pairwise_iff_getElem]
  intro i j hi hj hij
  simp only [radiiL, List.getElem_map]
  simp only [radiiL, List.length_map] at hi hj
  exact ChartP_strict h i j hi hj hij

theorem radii_pos {zs : List (Int × Int)} (h : ChartP zs) (z : Int) (hz : z ∈ radiiL zs) : 1 ≤ z := by
  simp only [radiiL, List.mem_map] at hz
  obtain ⟨p, hp, rfl⟩ := hz
  obtain ⟨i, hi, rfl⟩ := List.mem_iff_getElem.1 hp
  exact (h.1 i hi hi).1.1

theorem last_mem {zs : List (Int × Int)} (h : ChartP zs) : lastL zs ∈ radiiL zs ∧ 1 ≤ lastL zs ∧ lastL zs ≤ 1000 := by
  have hn := h.2.1
  have h1 := (h.1 (zs.length - 1) (by omega) (by omega)).1
  rw [lastL, atP_is zs _ (by omega)]
  exact ⟨List.mem_map.2 ⟨zs[zs.length - 1], List.getElem_mem _, rfl⟩, h1.1, h1.2.1⟩

/-- The radii from 1 to n that one of two charts has. -/
def specR (zs us : List (Int × Int)) (n : Nat) : List Int := ((List.range n).map (fun i : Nat => (i : Int) + 1)).filter (fun r => hasB zs r || hasB us r)

theorem specR_step (zs us : List (Int × Int)) (n : Nat) : specR zs us (n + 1) = specR zs us n ++ (if (hasB zs ((n : Int) + 1) || hasB us ((n : Int) + 1)) = true then [(n : Int) + 1] else []) := by
  rw [specR, List.range_succ, List.map_append, List.filter_append]
  congr 1
  simp only [List.map_cons, List.map_nil, List.filter_cons, List.filter_nil]

theorem specR_rise (zs us : List (Int × Int)) (n : Nat) : (specR zs us n).Pairwise (· < ·) := by
  refine List.Pairwise.filter _ ?_
  rw [List.pairwise_map]
  exact List.pairwise_lt_range.imp (fun h => by omega)

theorem specR_mem (zs us : List (Int × Int)) (n : Nat) (z : Int) : z ∈ specR zs us n ↔ (1 ≤ z ∧ z ≤ (n : Int)) ∧ (z ∈ radiiL zs ∨ z ∈ radiiL us) := by
  simp only [specR, List.mem_filter, List.mem_map, List.mem_range, hasB, Bool.or_eq_true, decide_eq_true_eq]
  constructor
  · rintro ⟨⟨i, hi, rfl⟩, h⟩
    exact ⟨by omega, h⟩
  · rintro ⟨⟨h1, h2⟩, h⟩
    exact ⟨⟨(z - 1).toNat, by omega, by omega⟩, h⟩

theorem lessR_eq {zs us : List (Int × Int)} (hz : ChartP zs) (hu : ChartP us) (l : Int) : (mergeL (radiiL zs) (radiiL us)).filter (fun r => decide (r ≤ l)) = specR zs us l.toNat := by
  refine rises_uniq _ _ (List.Pairwise.filter _ (mergeL_rises _ _ _ rfl (radii_rise hz) (radii_rise hu))) (specR_rise zs us _) (fun z => ?_)
  rw [List.mem_filter, mergeL_mem _ _ _ rfl, specR_mem]
  simp only [decide_eq_true_eq]
  constructor
  · rintro ⟨h, hl⟩
    have h1 : 1 ≤ z := h.elim (radii_pos hz z) (radii_pos hu z)
    exact ⟨⟨h1, by omega⟩, h⟩
  · rintro ⟨⟨h1, h2⟩, h⟩
    exact ⟨h, by omega⟩

/-- The step of the lesser chart at a radius. -/
def pairR (zs us : List (Int × Int)) (r : Int) : Int × Int := (r, min (loadL zs r) (loadL us r))

noncomputable def lesserL (zs us : List (Int × Int)) : List (Int × Int) × Int :=
  if (chartB zs && chartB us) = true then (if 20 < (specR zs us (min (lastL zs) (lastL us)).toNat).length then ([], 5) else ((specR zs us (min (lastL zs) (lastL us)).toNat).map (pairR zs us), 0)) else ([], 1)

theorem specR_pos {zs us : List (Int × Int)} (hz : ChartP zs) (hu : ChartP us) : 0 < (specR zs us (min (lastL zs) (lastL us)).toNat).length := by
  have h1 := last_mem hz
  have h2 := last_mem hu
  have hm : min (lastL zs) (lastL us) ∈ specR zs us (min (lastL zs) (lastL us)).toNat := by
    rw [specR_mem]
    rcases (show min (lastL zs) (lastL us) = lastL zs ∨ min (lastL zs) (lastL us) = lastL us by omega) with e | e
    · rw [e]; exact ⟨by omega, Or.inl h1.1⟩
    · rw [e]; exact ⟨by omega, Or.inr h2.1⟩
  exact List.length_pos_of_mem hm

theorem specR_len (zs us : List (Int × Int)) (n : Nat) : (specR zs us n).length ≤ n := by
  have := List.length_filter_le (fun r => hasB zs r || hasB us r) ((List.range n).map (fun i : Nat => (i : Int) + 1))
  simpa [specR] using this

theorem has_iff {zs : List (Int × Int)} (h : ChartP zs) (r : Int) : hasB zs r = true ↔ findL zs r < zs.length ∧ (atP zs (findL zs r)).1 = r := by
  simp only [hasB, decide_eq_true_eq, radiiL, List.mem_map]
  constructor
  · rintro ⟨p, hp, rfl⟩
    obtain ⟨i, hi, rfl⟩ := List.mem_iff_getElem.1 hp
    have hf : findL zs zs[i].1 ≤ i := by
      rcases Nat.lt_or_ge i (findL zs zs[i].1) with h1 | h1
      · have := findL_before zs zs[i].1 i h1 hi
        omega
      · exact h1
    have hlt : findL zs zs[i].1 < zs.length := by omega
    refine ⟨hlt, ?_⟩
    rw [atP_is zs _ hlt]
    have h1 := findL_at zs zs[i].1 hlt
    rcases Nat.lt_or_ge (findL zs zs[i].1) i with h2 | h2
    · have := ChartP_strict h (findL zs zs[i].1) i hlt hi h2
      omega
    · have e : findL zs zs[i].1 = i := by omega
      simp only [e]
  · rintro ⟨h1, h2⟩
    rw [atP_is zs _ h1] at h2
    exact ⟨_, List.getElem_mem h1, h2⟩

theorem specHas_any (v : Value) (zs : List (Int × Int)) (r : Int) (w : World) (h : RdP w v zs) (hc : ChartP zs) :
    Calls Try.prog 18 #[v, .int .i64 r] w fun e w' => e = .returned (.bool (hasB zs r)) ∧ w = w' := by
  have hi := has_iff hc r
  have Hf := specFind_any _ zs r w h
  obtain ⟨A, c, rfl, hl, _⟩ := RdP_slice h
  have hlen := hc.2
  by_cases hf : findL zs r < zs.length
  · rw [if_pos hf] at Hf
    obtain ⟨_, b, off, rfl, hbl, hc0, hc1⟩ := rd_at h (findL zs r) hf
    have hE : hasB zs r = ((atP zs (findL zs r)).1 == r) := by
      by_cases he : (atP zs (findL zs r)).1 = r
      · rw [hi.2 ⟨hf, he⟩]; simp [he]
      · have : hasB zs r = false := by
          cases hq : hasB zs r
          · rfl
          · exact absurd (hi.1 hq).2 he
        rw [this]; simp [he]
    rw [hE]
    generalize findL zs r = k at *
    generalize (atP zs k).1 = x at *
    have Hf := Lib.hid Hf; clear h hc hE hi
    go_enter Try.func18, Try.ntmps18
    go_wp2_with fail
    refine Hf.out.mono ?_
    rintro e w2 ⟨rfl, rfl⟩
    go_wp2
    go_ret
    exact ⟨by simp, rfl⟩
  · rw [if_neg hf] at Hf
    have hE : hasB zs r = false := by
      cases hq : hasB zs r
      · rfl
      · exact absurd (hi.1 hq).1 hf
    rw [hE]
    have Hf := Lib.hid Hf; clear h hc hf hE hi
    go_enter Try.func18, Try.ntmps18
    go_wp2_with fail
    refine Hf.out.mono ?_
    rintro e w2 ⟨rfl, rfl⟩
    go_wp2
    go_ret
    exact ⟨rfl, rfl⟩

theorem min_any (x y : Int) (w : World) :
    Calls Try.prog 19 #[.int .i64 x, .int .i64 y] w fun e w' => e = .returned (.int .i64 (min x y)) ∧ w = w' := by
  by_cases h : x < y
  · rw [show min x y = x by omega]
    go_enter Try.func19, Try.ntmps19
    go_wp2
    go_ret
    exact ⟨rfl, rfl⟩
  · rw [show min x y = y by omega]
    go_enter Try.func19, Try.ntmps19
    go_wp2
    go_ret
    exact ⟨rfl, rfl⟩

set_option maxHeartbeats 4000000 in
set_option maxRecDepth 100000 in
theorem specLesser_in (v1 v2 : Value) (zs us : List (Int × Int)) (w : World) (h1 : RdP w v1 zs) (h2 : RdP w v2 us) (hz : ChartP zs) (hu : ChartP us) :
    Calls Try.prog 7 #[v1, v2] w fun e w' => ∃ v', e = .returned (.tuple #[v', .int .i64 (lesserL zs us).2]) ∧ RowF 35 2 w' w.heap.size w'.heap.size v' (lesserL zs us).1.length (flatP (lesserL zs us).1) ∧ Below w.heap.size w w' := by
  have H1 := Lib.hid h1
  have H2 := Lib.hid h2
  have hl1 := last_mem hz
  have hl2 := last_mem hu
  have hpos := specR_pos hz hu
  have HC1 := Lib.hid (fun u q => by have := specChart_any v1 zs u q; rwa [chartB_true hz] at this : ∀ u, RdP u v1 zs → Calls Try.prog 16 #[v1] u fun e w' => e = .returned (.bool true) ∧ Below u.heap.size u w')
  have HC2 := Lib.hid (fun u q => by have := specChart_any v2 us u q; rwa [chartB_true hu] at this : ∀ u, RdP u v2 us → Calls Try.prog 16 #[v2] u fun e w' => e = .returned (.bool true) ∧ Below u.heap.size u w')
  have HL1 := Lib.hid (fun u q => specLast_any v1 zs u q hz.2.1)
  have HL2 := Lib.hid (fun u q => specLast_any v2 us u q hu.2.1)
  have HH1 := Lib.hid (fun r u q => specHas_any v1 zs r u q hz)
  have HH2 := Lib.hid (fun r u q => specHas_any v2 us r u q hu)
  have HD1 := Lib.hid (fun r u q (l : r ≤ lastL zs) => specLoad_ok v1 zs r u q hz l)
  have HD2 := Lib.hid (fun r u q (l : r ≤ lastL us) => specLoad_ok v2 us r u q hu l)
  have hL : lesserL zs us = if 20 < (specR zs us (min (lastL zs) (lastL us)).toNat).length then ([], 5) else ((specR zs us (min (lastL zs) (lastL us)).toNat).map (pairR zs us), 0) := by
    rw [lesserL, if_pos (by rw [chartB_true hz, chartB_true hu]; rfl)]
  rw [hL]
  clear hL
  obtain ⟨A1, cp1, rfl, _, _⟩ := RdP_slice h1
  obtain ⟨A2, cp2, rfl, _, _⟩ := RdP_slice h2
  clear h1 h2 hz hu
  generalize lastL zs = la at *
  generalize lastL us = lb at *
  generalize hN : (min la lb).toNat = N at *
  have hNN : (N : Int) ≤ la ∧ (N : Int) ≤ lb ∧ (¬ (N : Int) + 1 ≤ la ∨ ¬ (N : Int) + 1 ≤ lb) ∧ N ≤ 1000 := by omega
  clear hN
  have HPOS := Lib.hid hpos; clear hpos
  have HST := Lib.hid (fun n => specR_step zs us n)
  have HLEN := Lib.hid (fun n => specR_len zs us n)
  go_enter Try.func7, Try.ntmps7
  go_wp2_with fail
  refine (HC1.out _ H1.out).mono ?_
  rintro e w1 ⟨rfl, b1⟩
  go_wp2_with fail
  refine (HC2.out _ (RdP_kept H2.out b1)).mono ?_
  rintro e w2 ⟨rfl, hb2⟩
  have b2 := kept_trans b1 hb2
  go_wp2_with fail
  have hrow0 : RowF 35 2 (w2.alloc (.cells #[] 35)) w.heap.size (w2.alloc (.cells #[] 35)).heap.size (.slice (some ⟨w2.heap.size, 0, none⟩) 0 0) 0 (flatP []) :=
    ⟨World.ownsRow_lit w2 (base := w.heap.size) (e := 35) (size := 2) #[] 0 b2.size (by unfold maxLen; omega) (by simp), fun g hg => by simp [Value.ownBlock] at hg; subst hg; exact ⟨b2.size, by simp⟩⟩
  have HROW := Lib.hid hrow0; clear hrow0
  have hs2 := b2.size
  go_loopw [6, 7] (fun o i wr => ∃ (n : Nat) (ov : Value), n ≤ N ∧ i = .int .i64 ((n : Int) + 1) ∧ ov = o ∧ RowF 35 2 wr w.heap.size wr.heap.size ov ((specR zs us n).map (pairR zs us)).length (flatP ((specR zs us n).map (pairR zs us))) ∧ Below w.heap.size w wr) (fun _ i _ => N + 1 - (intOf i).toNat)
  case atStart => exact ⟨0, _, by omega, rfl, rfl, HROW.out, by go_grown⟩
  case round =>
    obtain ⟨n, ov, hn, rfl, ho, hrow, hb⟩ := hrel
    subst ho
    have hsz := hb.size
    have HR := Lib.hid hrow; clear hrow
    by_cases hlt : n < N
    · have hr1 : (n : Int) + 1 ≤ la := by omega
      have hr2 : (n : Int) + 1 ≤ lb := by omega
      have hst := HST.out n
      have hln := HLEN.out n
      go_wp2_with fail
      refine (HL1.out wr (RdP_kept H1.out hb)).mono ?_
      rintro e w3 ⟨rfl, rfl⟩
      go_wp2_with fail
      refine (HL2.out wr (RdP_kept H2.out hb)).mono ?_
      rintro e w3 ⟨rfl, rfl⟩
      go_wp2_with fail
      have hh1 := HH1.out ((n : Int) + 1) wr (RdP_kept H1.out hb)
      have hh2 := HH2.out ((n : Int) + 1) wr (RdP_kept H2.out hb)
      cases g1 : hasB zs ((n : Int) + 1) <;> cases g2 : hasB us ((n : Int) + 1) <;> rw [g1] at hh1 hst <;> rw [g2] at hh2 hst <;> have HX1 := Lib.hid hh1 <;> have HX2 := Lib.hid hh2 <;> clear hh1 hh2
      case false.false =>
        simp only [Bool.or_false, Bool.false_eq_true, if_false, List.append_nil] at hst
        have HSTN := Lib.hid hst; clear hst
        refine HX1.out.mono ?_
        rintro e w3 ⟨rfl, rfl⟩
        go_wp2_with fail
        refine HX2.out.mono ?_
        rintro e w3 ⟨rfl, rfl⟩
        go_wp2
        go_roundw
        case rel => exact ⟨n + 1, ov, by omega, by go_num, rfl, by rw [HSTN.out]; exact HR.out, hb⟩
        case measure => simp [intOf]; omega
      all_goals
        simp only [Bool.or_true, Bool.true_or, Bool.or_self, if_true] at hst
        have HSTN := Lib.hid hst; clear hst
        have HDA := Lib.hid (fun u q => HD1.out ((n : Int) + 1) u q hr1)
        have HDB := Lib.hid (fun u q => HD2.out ((n : Int) + 1) u q hr2)
        have hpr : pairR zs us ((n : Int) + 1) = ((n : Int) + 1, min (loadL zs ((n : Int) + 1)) (loadL us ((n : Int) + 1))) := rfl
        have HPR := Lib.hid hpr; clear hpr
        generalize loadL zs ((n : Int) + 1) = pa at *
        generalize loadL us ((n : Int) + 1) = pb at *
      case false.true =>
        refine HX1.out.mono ?_
        rintro e w3 ⟨rfl, rfl⟩
        go_wp2_with fail
        refine HX2.out.mono ?_
        rintro e w3 ⟨rfl, rfl⟩
        go_wp2_with fail
        refine (HDA.out wr (RdP_kept H1.out hb)).mono ?_
        rintro e w4 ⟨rfl, hb4⟩
        have b4 := kept_trans hb hb4
        go_wp2_with fail
        refine (HDB.out w4 (RdP_kept H2.out b4)).mono ?_
        rintro e w5 ⟨rfl, hb5⟩
        have b5 := kept_trans b4 hb5
        go_wp2_with fail
        refine (min_any pa pb w5).mono ?_
        rintro e w6 ⟨rfl, rfl⟩
        have HR5 := Lib.hid (RowF_kept (RowF_kept HR.out hb4) hb5)
        have hz5 := b5.size
        have hz45 : wr.heap.size ≤ w5.heap.size := Nat.le_trans hb4.size hb5.size
        have hml : ((specR zs us n).map (pairR zs us)).length < 1000000000 := by simp; omega
        go_wp2_with (at_builtin; refine wp_appendG rfl (.tmp 37) (.tmp 47) rfl w.heap.size ov ((specR zs us n).map (pairR zs us)) ((n : Int) + 1) (min pa pb) rfl (RowF_wide HR5.out hz45) rfl b5 (Nat.le_refl _) hz5 hml ?_; intro v' w7 hrow7 hb7 hs7 hgr hat)
        go_roundw
        case rel => exact ⟨n + 1, v', by omega, by go_num, rfl, by rw [HSTN.out, List.map_append, List.map_singleton, HPR.out]; exact hrow7, hb7⟩
        case measure => simp [intOf]; omega
      all_goals
        refine HX1.out.mono ?_
        rintro e w3 ⟨rfl, rfl⟩
        go_wp2_with fail
        refine (HDA.out wr (RdP_kept H1.out hb)).mono ?_
        rintro e w4 ⟨rfl, hb4⟩
        have b4 := kept_trans hb hb4
        go_wp2_with fail
        refine (HDB.out w4 (RdP_kept H2.out b4)).mono ?_
        rintro e w5 ⟨rfl, hb5⟩
        have b5 := kept_trans b4 hb5
        go_wp2_with fail
        refine (min_any pa pb w5).mono ?_
        rintro e w6 ⟨rfl, rfl⟩
        have HR5 := Lib.hid (RowF_kept (RowF_kept HR.out hb4) hb5)
        have hz5 := b5.size
        have hz45 : wr.heap.size ≤ w5.heap.size := Nat.le_trans hb4.size hb5.size
        have hml : ((specR zs us n).map (pairR zs us)).length < 1000000000 := by simp; omega
        go_wp2_with (at_builtin; refine wp_appendG rfl (.tmp 37) (.tmp 47) rfl w.heap.size ov ((specR zs us n).map (pairR zs us)) ((n : Int) + 1) (min pa pb) rfl (RowF_wide HR5.out hz45) rfl b5 (Nat.le_refl _) hz5 hml ?_; intro v' w7 hrow7 hb7 hs7 hgr hat)
        go_roundw
        case rel => exact ⟨n + 1, v', by omega, by go_num, rfl, by rw [HSTN.out, List.map_append, List.map_singleton, HPR.out]; exact hrow7, hb7⟩
        case measure => simp [intOf]; omega
    · have : n = N := by omega
      subst this
      have hf : ∃ A m c, ov = .slice A m c ∧ m = (specR zs us n).length := by
        obtain ⟨_, _, A, c, e, _⟩ := RowF_rd HR.out
        exact ⟨A, _, c, e, by simp⟩
      obtain ⟨A, m, c, rfl, hm⟩ := hf
      have hpos := HPOS.out
      subst hm
      by_cases q1 : (n : Int) + 1 ≤ la
      · have q2 : ¬ (n : Int) + 1 ≤ lb := by omega
        go_wp2_with fail
        refine (HL1.out wr (RdP_kept H1.out hb)).mono ?_
        rintro e w3 ⟨rfl, rfl⟩
        go_wp2_with fail
        refine (HL2.out wr (RdP_kept H2.out hb)).mono ?_
        rintro e w3 ⟨rfl, rfl⟩
        by_cases h20 : 20 < (specR zs us n).length
        · have h21 : ¬ ((specR zs us n).length : Int) = 0 := by omega
          go_wp2
          go_ret2
          refine ⟨.slice none 0 0, ?_, ?_, hb⟩
          · first | rfl | (rw [if_pos h20]; rfl)
          · first | exact RowF_nil _ _ _ _ _ | (rw [if_pos h20]; exact RowF_nil _ _ _ _ _)
        · have h21 : ¬ ((specR zs us n).length : Int) = 0 := by omega
          go_wp2
          go_ret2
          refine ⟨.slice A (specR zs us n).length c, ?_, ?_, hb⟩
          · first | rfl | (simp; done) | (simp [h20]; done)
          · first | exact HR.out | (simpa using HR.out) | (simpa [h20] using HR.out)
      · go_wp2_with fail
        refine (HL1.out wr (RdP_kept H1.out hb)).mono ?_
        rintro e w3 ⟨rfl, rfl⟩
        by_cases h20 : 20 < (specR zs us n).length
        · have h21 : ¬ ((specR zs us n).length : Int) = 0 := by omega
          go_wp2
          go_ret2
          refine ⟨.slice none 0 0, ?_, ?_, hb⟩
          · first | rfl | (rw [if_pos h20]; rfl)
          · first | exact RowF_nil _ _ _ _ _ | (rw [if_pos h20]; exact RowF_nil _ _ _ _ _)
        · have h21 : ¬ ((specR zs us n).length : Int) = 0 := by omega
          go_wp2
          go_ret2
          refine ⟨.slice A (specR zs us n).length c, ?_, ?_, hb⟩
          · first | rfl | (simp; done) | (simp [h20]; done)
          · first | exact HR.out | (simpa using HR.out) | (simpa [h20] using HR.out)

theorem lesserL_bad {zs us : List (Int × Int)} (h : (chartB zs && chartB us) = false) : lesserL zs us = ([], 1) := by rw [lesserL, if_neg (by rw [h]; simp)]

theorem specLesser_any (v1 : Value) (zs : List (Int × Int)) (v2 : Value) (us : List (Int × Int)) (w : World) (h1 : RdP w v1 zs) (h2 : RdP w v2 us) :
    Calls Try.prog 7 #[v1, v2] w fun e w' => ∃ v', e = .returned (.tuple #[v', .int .i64 (lesserL zs us).2]) ∧ RowF 35 2 w' w.heap.size w'.heap.size v' (lesserL zs us).1.length (flatP (lesserL zs us).1) ∧ Below w.heap.size w w' := by
  by_cases hz : ChartP zs
  · by_cases hu : ChartP us
    · exact specLesser_in v1 v2 zs us w h1 h2 hz hu
    · have hc1 := specChart_any v1 zs w h1
      rw [chartB_true hz] at hc1
      have hc2 : ∀ u, RdP u v2 us → Calls Try.prog 16 #[v2] u fun e w' => e = .returned (.bool false) ∧ Below u.heap.size u w' := fun u q => by have := specChart_any v2 us u q; rwa [chartB_false hu] at this
      rw [lesserL_bad (by rw [chartB_false hu]; simp)]
      have HC1 := Lib.hid hc1
      have HC2 := Lib.hid hc2
      have H2 := Lib.hid h2
      clear hc1 hc2 h1 h2 hz hu
      go_enter Try.func7, Try.ntmps7
      go_wp2_with fail
      refine HC1.out.mono ?_
      rintro e w1 ⟨rfl, b1⟩
      go_wp2_with fail
      refine (HC2.out w1 (RdP_kept H2.out b1)).mono ?_
      rintro e w2 ⟨rfl, hb2⟩
      have b2 := kept_trans b1 hb2
      go_wp2
      go_ret2
      exact ⟨_, rfl, RowF_nil _ _ _ _ _, b2⟩
  · have hc1 := specChart_any v1 zs w h1
    rw [chartB_false hz] at hc1
    rw [lesserL_bad (by rw [chartB_false hz]; simp)]
    have HC1 := Lib.hid hc1
    clear hc1 h1 h2 hz
    go_enter Try.func7, Try.ntmps7
    go_wp2_with fail
    refine HC1.out.mono ?_
    rintro e w1 ⟨rfl, b1⟩
    go_wp2
    go_ret2
    exact ⟨_, rfl, RowF_nil _ _ _ _ _, b1⟩

theorem filt_step (M : List Int) (p : Int → Bool) (k : Nat) (h : k < M.length) : (M.take (k + 1)).filter p = (M.take k).filter p ++ (if p M[k] = true then [M[k]] else []) := by
  rw [← List.take_append_getElem h, List.filter_append]
  congr 1
  simp only [List.filter_cons, List.filter_nil]

/-- What radiiOf returns, as a slice without room. -/
theorem radii_sl {w : World} {lo hi g : Nat} {zs : List (Int × Int)} (h : RowI w lo hi (.slice (some ⟨g, 0, none⟩) zs.length zs.length) (radiiL zs)) (hn : zs.length ≤ 20) : SlI w (.slice (some ⟨g, 0, none⟩) zs.length zs.length) (radiiL zs) := by
  have hl : (radiiL zs).length = zs.length := by simp [radiiL]
  obtain ⟨_, A, c, e, hr⟩ := RowI_rd h
  rw [hl] at e
  cases e
  refine ⟨g, 0, by rw [hl], by omega, (h.1.lt g rfl).2, fun k hk => ?_⟩
  obtain ⟨b, off, e2, _, hc⟩ := hr k hk
  cases e2
  exact hc

set_option maxHeartbeats 4000000 in
set_option maxRecDepth 100000 in
theorem implLesser_in (v1 v2 : Value) (zs us : List (Int × Int)) (w : World) (h1 : RdP w v1 zs) (h2 : RdP w v2 us) (hz : ChartP zs) (hu : ChartP us) :
    Calls Try.prog 10 #[v1, v2] w fun e w' => ∃ v', e = .returned (.tuple #[v', .int .i64 (lesserL zs us).2]) ∧ RowF 35 2 w' w.heap.size w'.heap.size v' (lesserL zs us).1.length (flatP (lesserL zs us).1) ∧ Below w.heap.size w w' := by
  have H1 := Lib.hid h1
  have H2 := Lib.hid h2
  have hl1 := last_mem hz
  have hl2 := last_mem hu
  have hML := mergeL_len _ (radiiL zs) (radiiL us) rfl
  have hzl := hz.2.2
  have hul := hu.2.2
  rw [show (radiiL zs).length = zs.length by simp [radiiL], show (radiiL us).length = us.length by simp [radiiL]] at hML
  have hvc : ∀ (u : World) (b : Nat), RdP u v1 zs → RdP u v2 us → b < u.heap.size → u.cell? ⟨b, 0, none⟩ = some v1 → u.cell? ⟨b, 1, none⟩ = some v2 → Calls Try.prog 25 #[.slice (some ⟨b, 0, none⟩) 2 2] u fun e w' => e = .returned (.bool true) ∧ Below u.heap.size u w' := fun u b q1 q2 hb c1 c2 => by
    have := validCharts_two b v1 v2 zs us u q1 q2 hb c1 c2
    rwa [chartB_true hz, chartB_true hu] at this
  have HVC := Lib.hid hvc; clear hvc
  have HL1 := Lib.hid (fun u q => last_any v1 zs u q hz.2.1)
  have HL2 := Lib.hid (fun u q => last_any v2 us u q hu.2.1)
  have HR1 := Lib.hid (fun u q => radiiOf_any v1 zs u q hzl)
  have HR2 := Lib.hid (fun u q => radiiOf_any v2 us u q hul)
  have HD1 := Lib.hid (fun r u q (l : r ≤ lastL zs) => implLoadIn_any v1 zs r u q hz ((find_last hz r).2 l))
  have HD2 := Lib.hid (fun r u q (l : r ≤ lastL us) => implLoadIn_any v2 us r u q hu ((find_last hu r).2 l))
  have HS1 := Lib.hid (fun (w : World) (lo hi g : Nat) (h : RowI w lo hi (.slice (some ⟨g, 0, none⟩) zs.length zs.length) (radiiL zs)) => radii_sl h hzl)
  have HS2 := Lib.hid (fun (w : World) (lo hi g : Nat) (h : RowI w lo hi (.slice (some ⟨g, 0, none⟩) us.length us.length) (radiiL us)) => radii_sl h hul)
  have heq := lessR_eq hz hu (min (lastL zs) (lastL us))
  have hL : lesserL zs us = if 20 < (specR zs us (min (lastL zs) (lastL us)).toNat).length then ([], 5) else ((specR zs us (min (lastL zs) (lastL us)).toNat).map (pairR zs us), 0) := by
    rw [lesserL, if_pos (by rw [chartB_true hz, chartB_true hu]; rfl)]
  rw [hL, ← heq]
  clear hL heq
  have HM := Lib.hid (fun v1 v2 u (q1 : SlI u v1 (radiiL zs)) (q2 : SlI u v2 (radiiL us)) => merged_any v1 v2 _ _ u q1 q2)
  generalize mergeL (radiiL zs) (radiiL us) = M at *
  obtain ⟨A1, cp1, rfl, _, _⟩ := RdP_slice h1
  obtain ⟨A2, cp2, rfl, _, _⟩ := RdP_slice h2
  clear h1 h2 hz hu
  generalize lastL zs = la at *
  generalize lastL us = lb at *
  have HFS := Lib.hid (fun p k h => filt_step M p k h)
  generalize hmn : min la lb = lm at *
  rcases (show la ≤ lb ∨ lb < la by omega) with hab | hab
  · obtain rfl : lm = la := by omega
    go_enter Try.func10, Try.ntmps10
    go_wp2_with fail
    refine (HVC.out _ w.heap.size (RdP_kept H1.out (by go_grown)) (RdP_kept H2.out (by go_grown)) (by simp) (by simp) (by simp)).mono ?_
    rintro e w1 ⟨rfl, hb1⟩
    have b1 := kept_trans (a := w) (by go_grown) hb1
    go_wp2_with fail
    refine (HL1.out w1 (RdP_kept H1.out b1)).mono ?_
    rintro e w2 ⟨rfl, rfl⟩
    go_wp2_with fail
    refine (HL2.out w1 (RdP_kept H2.out b1)).mono ?_
    rintro e w2 ⟨rfl, rfl⟩
    have hnlt : ¬ lb < lm := by omega
    go_wp2_with fail
    have hs1 := b1.size
    have b1a : Below w.heap.size w (w1.alloc (.cells #[] 35)) := by go_grown
    refine (HR1.out _ (RdP_kept H1.out b1a)).mono ?_
    rintro e w3 ⟨x1, g1, rfl, rfl, hr1, hb3⟩
    have b3 := kept_trans b1a hb3
    go_wp2_with fail
    refine (HR2.out w3 (RdP_kept H2.out b3)).mono ?_
    rintro e w4 ⟨x2, g2, rfl, rfl, hr2, hb4⟩
    have b4 := kept_trans b3 hb4
    go_wp2_with fail
    refine (HM.out _ _ w4 (SlI_kept (HS1.out _ _ _ _ hr1) hb4) (HS2.out _ _ _ _ hr2)).mono ?_
    rintro e w5 ⟨vm, rfl, hrm, hb5⟩
    have b5 := kept_trans b4 hb5
    have hrow0 : RowF 35 2 (w1.alloc (.cells #[] 35)) w.heap.size (w1.alloc (.cells #[] 35)).heap.size (.slice (some ⟨w1.heap.size, 0, none⟩) 0 0) 0 (flatP []) :=
      ⟨World.ownsRow_lit w1 (base := w.heap.size) (e := 35) (size := 2) #[] 0 hs1 (by unfold maxLen; omega) (by simp), fun g hg => by simp [Value.ownBlock] at hg; subst hg; exact ⟨hs1, by simp⟩⟩
    have hrow5 := RowF_kept (RowF_kept (RowF_kept hrow0 hb3) hb4) hb5
    have hsz35 : (w1.alloc (.cells #[] 35)).heap.size ≤ w5.heap.size := Nat.le_trans (Nat.le_trans hb3.size hb4.size) hb5.size
    have HROW := Lib.hid (RowF_wide hrow5 hsz35)
    obtain ⟨hMl, AM, cM, rfl, _⟩ := RowI_rd hrm
    have HMR := Lib.hid hrm
    have hs14 : w1.heap.size < w4.heap.size := by
      have h3 := hb3.size
      have h4 := hb4.size
      simp at h3
      omega
    clear hrm hr1 hr2 hrow0 hrow5 hb1 hb3 hb4 b1a
    go_wp2_with fail
    go_loopw [7, 27] (fun o i wr => ∃ (k : Nat) (ov : Value), k ≤ M.length ∧ i = .int .i64 (k : Int) ∧ ov = o ∧ RowF 35 2 wr w.heap.size wr.heap.size ov (((M.take k).filter (fun r => decide (r ≤ lm))).map (pairR zs us)).length (flatP (((M.take k).filter (fun r => decide (r ≤ lm))).map (pairR zs us))) ∧ RowI wr w4.heap.size w5.heap.size (.slice AM M.length cM) M ∧ (∀ g, ov.ownBlock = some g → g < w4.heap.size ∨ w5.heap.size ≤ g) ∧ w5.heap.size ≤ wr.heap.size ∧ Below w.heap.size w wr) (fun _ i _ => M.length - (intOf i).toNat)
    case atStart => exact ⟨0, _, by omega, rfl, rfl, by simpa using HROW.out, HMR.out, (fun g hg => by simp [Value.ownBlock] at hg; omega), Nat.le_refl _, b5⟩
    case round =>
      obtain ⟨k, ov, hk, rfl, ho, hrow, hrm, hfar, hs5, hb⟩ := hrel
      subst ho
      obtain ⟨_, _, _, e, hMr⟩ := RowI_rd hrm
      cases e
      have HRM := Lib.hid hrm; clear hrm
      have HFAR := Lib.hid hfar; clear hfar
      have hsz := hb.size
      have hml : (((M.take k).filter (fun r => decide (r ≤ lm))).map (pairR zs us)).length < 1000000000 := by
        have := List.length_filter_le (fun r => decide (r ≤ lm)) (M.take k)
        simp only [List.length_map, List.length_take] at this ⊢
        omega
      have HR := Lib.hid hrow; clear hrow
      by_cases hlt : k < M.length
      · obtain ⟨b, off, rfl, hlb, hcx⟩ := hMr k hlt
        clear hMr
        have hfn := HFS.out (fun r => decide (r ≤ lm)) k hlt
        generalize M[k] = x at *
        by_cases hx : x ≤ lm
        · simp only [hx, decide_true, if_true] at hfn
          have HFN := Lib.hid hfn; clear hfn
          have hxa : x ≤ lm := by omega
          have hxb : x ≤ lb := by omega
          have HDA := Lib.hid (fun u q => HD1.out x u q hxa)
          have HDB := Lib.hid (fun u q => HD2.out x u q hxb)
          have hpr : pairR zs us x = (x, min (loadL zs x) (loadL us x)) := rfl
          generalize loadL zs x = pa at *
          generalize loadL us x = pb at *
          rcases Int.le_total pa pb with hp | hp
          · rw [Int.min_eq_left hp] at hpr
            have HPR := Lib.hid hpr; clear hpr
            go_wp2_with fail
            refine (HDA.out wr (RdP_kept H1.out hb)).mono ?_
            rintro e w7 ⟨rfl, hb7⟩
            have b7 := kept_trans hb hb7
            go_wp2_with fail
            refine (HDB.out w7 (RdP_kept H2.out b7)).mono ?_
            rintro e w8 ⟨rfl, hb8⟩
            have b8 := kept_trans b7 hb8
            have hnp : ¬ pb < pa := by omega
            have HR5 := Lib.hid (RowF_kept (RowF_kept HR.out hb7) hb8)
            have hz5 := b8.size
            have hz45 : wr.heap.size ≤ w8.heap.size := Nat.le_trans hb7.size hb8.size
            go_wp2_with (at_builtin; refine wp_appendG rfl (.tmp 34) (.tmp 44) rfl w.heap.size ov (((M.take k).filter (fun r => decide (r ≤ lm))).map (pairR zs us)) x pa rfl (RowF_wide HR5.out hz45) rfl b8 (Nat.le_refl _) hz5 hml ?_; intro v' w9 hrow9 hb9 hs9 hgr hat)
            go_roundw
            case rel => exact ⟨k + 1, v', by omega, by go_num, rfl, by rw [HFN.out, List.map_append, List.map_singleton, HPR.out]; exact hrow9, RowI_far (RowI_kept (RowI_kept HRM.out hb7) hb8) hgr HFAR.out, fun g hg => (hat g hg).elim (HFAR.out g) (fun h => Or.inr (by omega)), by omega, hb9⟩
            case measure => simp [intOf]; omega
          · have hpq : min pa pb = pb := by omega
            rw [hpq] at hpr
            clear hpq
            have HPR := Lib.hid hpr; clear hpr
            rcases Int.lt_or_eq_of_le hp with hp2 | hp2
            · go_wp2_with fail
              refine (HDA.out wr (RdP_kept H1.out hb)).mono ?_
              rintro e w7 ⟨rfl, hb7⟩
              have b7 := kept_trans hb hb7
              go_wp2_with fail
              refine (HDB.out w7 (RdP_kept H2.out b7)).mono ?_
              rintro e w8 ⟨rfl, hb8⟩
              have b8 := kept_trans b7 hb8
              have HR5 := Lib.hid (RowF_kept (RowF_kept HR.out hb7) hb8)
              have hz5 := b8.size
              have hz45 : wr.heap.size ≤ w8.heap.size := Nat.le_trans hb7.size hb8.size
              go_wp2_with (at_builtin; refine wp_appendG rfl (.tmp 34) (.tmp 44) rfl w.heap.size ov (((M.take k).filter (fun r => decide (r ≤ lm))).map (pairR zs us)) x pb rfl (RowF_wide HR5.out hz45) rfl b8 (Nat.le_refl _) hz5 hml ?_; intro v' w9 hrow9 hb9 hs9 hgr hat)
              go_roundw
              case rel => exact ⟨k + 1, v', by omega, by go_num, rfl, by rw [HFN.out, List.map_append, List.map_singleton, HPR.out]; exact hrow9, RowI_far (RowI_kept (RowI_kept HRM.out hb7) hb8) hgr HFAR.out, fun g hg => (hat g hg).elim (HFAR.out g) (fun h => Or.inr (by omega)), by omega, hb9⟩
              case measure => simp [intOf]; omega
            · subst hp2
              go_wp2_with fail
              refine (HDA.out wr (RdP_kept H1.out hb)).mono ?_
              rintro e w7 ⟨rfl, hb7⟩
              have b7 := kept_trans hb hb7
              go_wp2_with fail
              refine (HDB.out w7 (RdP_kept H2.out b7)).mono ?_
              rintro e w8 ⟨rfl, hb8⟩
              have b8 := kept_trans b7 hb8
              have HR5 := Lib.hid (RowF_kept (RowF_kept HR.out hb7) hb8)
              have hz5 := b8.size
              have hz45 : wr.heap.size ≤ w8.heap.size := Nat.le_trans hb7.size hb8.size
              go_wp2_with (at_builtin; refine wp_appendG rfl (.tmp 34) (.tmp 44) rfl w.heap.size ov (((M.take k).filter (fun r => decide (r ≤ lm))).map (pairR zs us)) x pb rfl (RowF_wide HR5.out hz45) rfl b8 (Nat.le_refl _) hz5 hml ?_; intro v' w9 hrow9 hb9 hs9 hgr hat)
              go_roundw
              case rel => exact ⟨k + 1, v', by omega, by go_num, rfl, by rw [HFN.out, List.map_append, List.map_singleton, HPR.out]; exact hrow9, RowI_far (RowI_kept (RowI_kept HRM.out hb7) hb8) hgr HFAR.out, fun g hg => (hat g hg).elim (HFAR.out g) (fun h => Or.inr (by omega)), by omega, hb9⟩
              case measure => simp [intOf]; omega
        · simp only [hx, decide_false, if_false, List.append_nil, Bool.false_eq_true] at hfn
          have HFN := Lib.hid hfn; clear hfn
          go_wp2
          go_roundw
          case rel => exact ⟨k + 1, ov, by omega, by go_num, rfl, by rw [HFN.out]; exact HR.out, HRM.out, HFAR.out, hs5, hb⟩
          case measure => simp [intOf]; omega
      · have : k = M.length := by omega
        subst this
        rw [List.take_length] at HR
        have hf : ∃ A m c, ov = .slice A m c ∧ m = (M.filter (fun r => decide (r ≤ lm))).length := by
          obtain ⟨_, _, A, c, e, _⟩ := RowF_rd HR.out
          exact ⟨A, _, c, e, by simp⟩
        obtain ⟨A, m, c, rfl, hm⟩ := hf
        subst hm
        by_cases h20 : 20 < (M.filter (fun r => decide (r ≤ lm))).length
        · go_wp2
          go_ret2
          refine ⟨.slice none 0 0, ?_, ?_, hb⟩
          · first | rfl | (simp [h20]; done)
          · first | exact RowF_nil _ _ _ _ _ | (simp [h20]; exact RowF_nil _ _ _ _ _)
        · go_wp2
          go_ret2
          refine ⟨.slice A (M.filter (fun r => decide (r ≤ lm))).length c, ?_, ?_, hb⟩
          · first | rfl | (simp [h20]; done)
          · first | exact HR.out | (simpa using HR.out) | (simpa [h20] using HR.out)
  · obtain rfl : lm = lb := by omega
    go_enter Try.func10, Try.ntmps10
    go_wp2_with fail
    refine (HVC.out _ w.heap.size (RdP_kept H1.out (by go_grown)) (RdP_kept H2.out (by go_grown)) (by simp) (by simp) (by simp)).mono ?_
    rintro e w1 ⟨rfl, hb1⟩
    have b1 := kept_trans (a := w) (by go_grown) hb1
    go_wp2_with fail
    refine (HL1.out w1 (RdP_kept H1.out b1)).mono ?_
    rintro e w2 ⟨rfl, rfl⟩
    go_wp2_with fail
    refine (HL2.out w1 (RdP_kept H2.out b1)).mono ?_
    rintro e w2 ⟨rfl, rfl⟩
    have hnlt : ¬ la ≤ lm := by omega
    go_wp2_with fail
    have hs1 := b1.size
    have b1a : Below w.heap.size w (w1.alloc (.cells #[] 35)) := by go_grown
    refine (HR1.out _ (RdP_kept H1.out b1a)).mono ?_
    rintro e w3 ⟨x1, g1, rfl, rfl, hr1, hb3⟩
    have b3 := kept_trans b1a hb3
    go_wp2_with fail
    refine (HR2.out w3 (RdP_kept H2.out b3)).mono ?_
    rintro e w4 ⟨x2, g2, rfl, rfl, hr2, hb4⟩
    have b4 := kept_trans b3 hb4
    go_wp2_with fail
    refine (HM.out _ _ w4 (SlI_kept (HS1.out _ _ _ _ hr1) hb4) (HS2.out _ _ _ _ hr2)).mono ?_
    rintro e w5 ⟨vm, rfl, hrm, hb5⟩
    have b5 := kept_trans b4 hb5
    have hrow0 : RowF 35 2 (w1.alloc (.cells #[] 35)) w.heap.size (w1.alloc (.cells #[] 35)).heap.size (.slice (some ⟨w1.heap.size, 0, none⟩) 0 0) 0 (flatP []) :=
      ⟨World.ownsRow_lit w1 (base := w.heap.size) (e := 35) (size := 2) #[] 0 hs1 (by unfold maxLen; omega) (by simp), fun g hg => by simp [Value.ownBlock] at hg; subst hg; exact ⟨hs1, by simp⟩⟩
    have hrow5 := RowF_kept (RowF_kept (RowF_kept hrow0 hb3) hb4) hb5
    have hsz35 : (w1.alloc (.cells #[] 35)).heap.size ≤ w5.heap.size := Nat.le_trans (Nat.le_trans hb3.size hb4.size) hb5.size
    have HROW := Lib.hid (RowF_wide hrow5 hsz35)
    obtain ⟨hMl, AM, cM, rfl, _⟩ := RowI_rd hrm
    have HMR := Lib.hid hrm
    have hs14 : w1.heap.size < w4.heap.size := by
      have h3 := hb3.size
      have h4 := hb4.size
      simp at h3
      omega
    clear hrm hr1 hr2 hrow0 hrow5 hb1 hb3 hb4 b1a
    go_wp2_with fail
    go_loopw [7, 27] (fun o i wr => ∃ (k : Nat) (ov : Value), k ≤ M.length ∧ i = .int .i64 (k : Int) ∧ ov = o ∧ RowF 35 2 wr w.heap.size wr.heap.size ov (((M.take k).filter (fun r => decide (r ≤ lm))).map (pairR zs us)).length (flatP (((M.take k).filter (fun r => decide (r ≤ lm))).map (pairR zs us))) ∧ RowI wr w4.heap.size w5.heap.size (.slice AM M.length cM) M ∧ (∀ g, ov.ownBlock = some g → g < w4.heap.size ∨ w5.heap.size ≤ g) ∧ w5.heap.size ≤ wr.heap.size ∧ Below w.heap.size w wr) (fun _ i _ => M.length - (intOf i).toNat)
    case atStart => exact ⟨0, _, by omega, rfl, rfl, by simpa using HROW.out, HMR.out, (fun g hg => by simp [Value.ownBlock] at hg; omega), Nat.le_refl _, b5⟩
    case round =>
      obtain ⟨k, ov, hk, rfl, ho, hrow, hrm, hfar, hs5, hb⟩ := hrel
      subst ho
      obtain ⟨_, _, _, e, hMr⟩ := RowI_rd hrm
      cases e
      have HRM := Lib.hid hrm; clear hrm
      have HFAR := Lib.hid hfar; clear hfar
      have hsz := hb.size
      have hml : (((M.take k).filter (fun r => decide (r ≤ lm))).map (pairR zs us)).length < 1000000000 := by
        have := List.length_filter_le (fun r => decide (r ≤ lm)) (M.take k)
        simp only [List.length_map, List.length_take] at this ⊢
        omega
      have HR := Lib.hid hrow; clear hrow
      by_cases hlt : k < M.length
      · obtain ⟨b, off, rfl, hlb, hcx⟩ := hMr k hlt
        clear hMr
        have hfn := HFS.out (fun r => decide (r ≤ lm)) k hlt
        generalize M[k] = x at *
        by_cases hx : x ≤ lm
        · simp only [hx, decide_true, if_true] at hfn
          have HFN := Lib.hid hfn; clear hfn
          have hxa : x ≤ la := by omega
          have hxb : x ≤ lm := by omega
          have HDA := Lib.hid (fun u q => HD1.out x u q hxa)
          have HDB := Lib.hid (fun u q => HD2.out x u q hxb)
          have hpr : pairR zs us x = (x, min (loadL zs x) (loadL us x)) := rfl
          generalize loadL zs x = pa at *
          generalize loadL us x = pb at *
          rcases Int.le_total pa pb with hp | hp
          · rw [Int.min_eq_left hp] at hpr
            have HPR := Lib.hid hpr; clear hpr
            go_wp2_with fail
            refine (HDA.out wr (RdP_kept H1.out hb)).mono ?_
            rintro e w7 ⟨rfl, hb7⟩
            have b7 := kept_trans hb hb7
            go_wp2_with fail
            refine (HDB.out w7 (RdP_kept H2.out b7)).mono ?_
            rintro e w8 ⟨rfl, hb8⟩
            have b8 := kept_trans b7 hb8
            have hnp : ¬ pb < pa := by omega
            have HR5 := Lib.hid (RowF_kept (RowF_kept HR.out hb7) hb8)
            have hz5 := b8.size
            have hz45 : wr.heap.size ≤ w8.heap.size := Nat.le_trans hb7.size hb8.size
            go_wp2_with (at_builtin; refine wp_appendG rfl (.tmp 34) (.tmp 44) rfl w.heap.size ov (((M.take k).filter (fun r => decide (r ≤ lm))).map (pairR zs us)) x pa rfl (RowF_wide HR5.out hz45) rfl b8 (Nat.le_refl _) hz5 hml ?_; intro v' w9 hrow9 hb9 hs9 hgr hat)
            go_roundw
            case rel => exact ⟨k + 1, v', by omega, by go_num, rfl, by rw [HFN.out, List.map_append, List.map_singleton, HPR.out]; exact hrow9, RowI_far (RowI_kept (RowI_kept HRM.out hb7) hb8) hgr HFAR.out, fun g hg => (hat g hg).elim (HFAR.out g) (fun h => Or.inr (by omega)), by omega, hb9⟩
            case measure => simp [intOf]; omega
          · have hpq : min pa pb = pb := by omega
            rw [hpq] at hpr
            clear hpq
            have HPR := Lib.hid hpr; clear hpr
            rcases Int.lt_or_eq_of_le hp with hp2 | hp2
            · go_wp2_with fail
              refine (HDA.out wr (RdP_kept H1.out hb)).mono ?_
              rintro e w7 ⟨rfl, hb7⟩
              have b7 := kept_trans hb hb7
              go_wp2_with fail
              refine (HDB.out w7 (RdP_kept H2.out b7)).mono ?_
              rintro e w8 ⟨rfl, hb8⟩
              have b8 := kept_trans b7 hb8
              have HR5 := Lib.hid (RowF_kept (RowF_kept HR.out hb7) hb8)
              have hz5 := b8.size
              have hz45 : wr.heap.size ≤ w8.heap.size := Nat.le_trans hb7.size hb8.size
              go_wp2_with (at_builtin; refine wp_appendG rfl (.tmp 34) (.tmp 44) rfl w.heap.size ov (((M.take k).filter (fun r => decide (r ≤ lm))).map (pairR zs us)) x pb rfl (RowF_wide HR5.out hz45) rfl b8 (Nat.le_refl _) hz5 hml ?_; intro v' w9 hrow9 hb9 hs9 hgr hat)
              go_roundw
              case rel => exact ⟨k + 1, v', by omega, by go_num, rfl, by rw [HFN.out, List.map_append, List.map_singleton, HPR.out]; exact hrow9, RowI_far (RowI_kept (RowI_kept HRM.out hb7) hb8) hgr HFAR.out, fun g hg => (hat g hg).elim (HFAR.out g) (fun h => Or.inr (by omega)), by omega, hb9⟩
              case measure => simp [intOf]; omega
            · subst hp2
              go_wp2_with fail
              refine (HDA.out wr (RdP_kept H1.out hb)).mono ?_
              rintro e w7 ⟨rfl, hb7⟩
              have b7 := kept_trans hb hb7
              go_wp2_with fail
              refine (HDB.out w7 (RdP_kept H2.out b7)).mono ?_
              rintro e w8 ⟨rfl, hb8⟩
              have b8 := kept_trans b7 hb8
              have HR5 := Lib.hid (RowF_kept (RowF_kept HR.out hb7) hb8)
              have hz5 := b8.size
              have hz45 : wr.heap.size ≤ w8.heap.size := Nat.le_trans hb7.size hb8.size
              go_wp2_with (at_builtin; refine wp_appendG rfl (.tmp 34) (.tmp 44) rfl w.heap.size ov (((M.take k).filter (fun r => decide (r ≤ lm))).map (pairR zs us)) x pb rfl (RowF_wide HR5.out hz45) rfl b8 (Nat.le_refl _) hz5 hml ?_; intro v' w9 hrow9 hb9 hs9 hgr hat)
              go_roundw
              case rel => exact ⟨k + 1, v', by omega, by go_num, rfl, by rw [HFN.out, List.map_append, List.map_singleton, HPR.out]; exact hrow9, RowI_far (RowI_kept (RowI_kept HRM.out hb7) hb8) hgr HFAR.out, fun g hg => (hat g hg).elim (HFAR.out g) (fun h => Or.inr (by omega)), by omega, hb9⟩
              case measure => simp [intOf]; omega
        · simp only [hx, decide_false, if_false, List.append_nil, Bool.false_eq_true] at hfn
          have HFN := Lib.hid hfn; clear hfn
          go_wp2
          go_roundw
          case rel => exact ⟨k + 1, ov, by omega, by go_num, rfl, by rw [HFN.out]; exact HR.out, HRM.out, HFAR.out, hs5, hb⟩
          case measure => simp [intOf]; omega
      · have : k = M.length := by omega
        subst this
        rw [List.take_length] at HR
        have hf : ∃ A m c, ov = .slice A m c ∧ m = (M.filter (fun r => decide (r ≤ lm))).length := by
          obtain ⟨_, _, A, c, e, _⟩ := RowF_rd HR.out
          exact ⟨A, _, c, e, by simp⟩
        obtain ⟨A, m, c, rfl, hm⟩ := hf
        subst hm
        by_cases h20 : 20 < (M.filter (fun r => decide (r ≤ lm))).length
        · go_wp2
          go_ret2
          refine ⟨.slice none 0 0, ?_, ?_, hb⟩
          · first | rfl | (simp [h20]; done)
          · first | exact RowF_nil _ _ _ _ _ | (simp [h20]; exact RowF_nil _ _ _ _ _)
        · go_wp2
          go_ret2
          refine ⟨.slice A (M.filter (fun r => decide (r ≤ lm))).length c, ?_, ?_, hb⟩
          · first | rfl | (simp [h20]; done)
          · first | exact HR.out | (simpa using HR.out) | (simpa [h20] using HR.out)

theorem implLesser_any (v1 : Value) (zs : List (Int × Int)) (v2 : Value) (us : List (Int × Int)) (w : World) (h1 : RdP w v1 zs) (h2 : RdP w v2 us) :
    Calls Try.prog 10 #[v1, v2] w fun e w' => ∃ v', e = .returned (.tuple #[v', .int .i64 (lesserL zs us).2]) ∧ RowF 35 2 w' w.heap.size w'.heap.size v' (lesserL zs us).1.length (flatP (lesserL zs us).1) ∧ Below w.heap.size w w' := by
  by_cases hzu : ChartP zs ∧ ChartP us
  · exact implLesser_in v1 v2 zs us w h1 h2 hzu.1 hzu.2
  · have hc : (chartB zs && chartB us) = false := by
      by_cases hz : ChartP zs
      · rw [chartB_false (fun hu => hzu ⟨hz, hu⟩)]; simp
      · rw [chartB_false hz]; simp
    have hvc : ∀ (u : World) (b : Nat), RdP u v1 zs → RdP u v2 us → b < u.heap.size → u.cell? ⟨b, 0, none⟩ = some v1 → u.cell? ⟨b, 1, none⟩ = some v2 → Calls Try.prog 25 #[.slice (some ⟨b, 0, none⟩) 2 2] u fun e w' => e = .returned (.bool false) ∧ Below u.heap.size u w' := fun u b q1 q2 hb c1 c2 => by
      have := validCharts_two b v1 v2 zs us u q1 q2 hb c1 c2
      rwa [hc] at this
    rw [lesserL_bad hc]
    have HVC := Lib.hid hvc; clear hvc
    have H1 := Lib.hid h1
    have H2 := Lib.hid h2
    obtain ⟨A1, cp1, rfl, _, _⟩ := RdP_slice h1
    obtain ⟨A2, cp2, rfl, _, _⟩ := RdP_slice h2
    clear h1 h2 hzu hc
    go_enter Try.func10, Try.ntmps10
    go_wp2_with fail
    refine (HVC.out _ w.heap.size (RdP_kept H1.out (by go_grown)) (RdP_kept H2.out (by go_grown)) (by simp) (by simp) (by simp)).mono ?_
    rintro e w1 ⟨rfl, hb1⟩
    have b1 := kept_trans (a := w) (by go_grown) hb1
    go_wp2
    go_ret2
    exact ⟨_, rfl, RowF_nil _ _ _ _ _, b1⟩

theorem lesserL_len (zs us : List (Int × Int)) : (lesserL zs us).1.length ≤ 20 := by
  unfold lesserL
  split
  · split
    · simp
    · simp only [List.length_map]
      omega
  · simp

theorem below_grown {u v : World} (h : Below u.heap.size u v) (row : Option Nat) : u.grownBy v row := ⟨h.os, h.tape, h.output, h.size, fun i hi _ => h.block i hi⟩

/-- A source of choices in block B, its bytes in a block before L, at most N bytes on. -/
def Src (w : World) (L B N : Nat) : Prop := L ≤ B ∧ ∃ A n c, (∀ k, k < n → ∃ b off z, A = some ⟨b, off, none⟩ ∧ b < L ∧ b < w.heap.size ∧ w.cell? ⟨b, off + k, none⟩ = some (.int .u8 z) ∧ 0 ≤ z ∧ z ≤ 255) ∧ n ≤ 1000000 ∧ ∃ M, M ≤ N ∧ SrcAt w B (.slice A n c) M

theorem Src_lt {w : World} {L B N : Nat} (h : Src w L B N) : B < w.heap.size := by
  obtain ⟨_, A, n, c, _, _, M, _, s, _, _, hb⟩ := h
  exact World.block_lt_of_cell? _ _ (cell_of_row w B 1 _ _ _ hb)

theorem Src_grown {w w1 : World} {L B N : Nat} {row : Option Nat} (h : Src w L B N) (hg : w.grownBy w1 row) (hr : ∀ g, row = some g → L ≤ g ∧ g ≠ B) : Src w1 L B N := by
  have hB := Src_lt h
  obtain ⟨hL, A, n, c, hr0, hn, M, hM, s, s0, s1, hb⟩ := h
  refine ⟨hL, A, n, c, fun k hk => ?_, hn, M, hM, s, s0, s1, ?_⟩
  · obtain ⟨b, off, z, e, hlt, hlw, hc, z0, z1⟩ := hr0 k hk
    exact ⟨b, off, z, e, hlt, Nat.lt_of_lt_of_le hlw hg.size, hg.cell hc (fun e => by have := hr b e.symm; omega), z0, z1⟩
  · rw [hg.block B hB (fun e => (hr B e.symm).2 rfl)]
    exact hb

theorem Src_below {w w1 : World} {L B N : Nat} (h : Src w L B N) (hb : Below w.heap.size w w1) : Src w1 L B N := Src_grown h (below_grown hb none) (fun g hg => by cases hg)

theorem Src_more {w : World} {L B N K : Nat} (h : Src w L B N) (hk : N ≤ K) : Src w L B K := by
  obtain ⟨hL, A, n, c, hr0, hn, M, hM, r⟩ := h
  exact ⟨hL, A, n, c, hr0, hn, M, by omega, r⟩

theorem nextS_any (L B N : Nat) (w : World) (h : Src w L B N) (hN : N < 900000000) :
    Calls Try.prog 40 #[.pointer (some ⟨B, 0, none⟩)] w fun e w' => ∃ x : Int, (0 ≤ x ∧ x ≤ 255) ∧ e = .returned (.int .i64 x) ∧ Src w' L B (N + 1) ∧ w.grownBy w' (some B) := by
  obtain ⟨hL, A, n, c, hr0, hn, M, hM, hs⟩ := h
  have hrb : RdB w A n B := fun k hk => by
    obtain ⟨b, off, z, e, hlt, hlw, hc, z0, z1⟩ := hr0 k hk
    exact ⟨b, off, z, e, hlw, by omega, hc, z0, z1⟩
  refine (next_any B A n c M w hs hrb (by omega) hn).mono ?_
  rintro e w' ⟨x, x0, x1, rfl, hs', hg⟩
  refine ⟨x, ⟨x0, x1⟩, rfl, ⟨hL, A, n, c, fun k hk => ?_, hn, M + 1, by omega, hs'⟩, hg⟩
  obtain ⟨b, off, z, e, hlt, hlw, hc, z0, z1⟩ := hr0 k hk
  exact ⟨b, off, z, e, hlt, Nat.lt_of_lt_of_le hlw hg.size, hg.cell hc (fun e => (show b ≠ B by omega) (by injection e)), z0, z1⟩

theorem pickS_any (L B N : Nat) (m : Int) (w : World) (h : Src w L B N) (hN : N < 800000000) (hm : -1000000 ≤ m ∧ m ≤ 1000000) :
    Calls Try.prog 32 #[.pointer (some ⟨B, 0, none⟩), .int .i64 m] w fun e w' => ∃ x : Int, (0 ≤ x ∧ x ≤ 1000000 ∧ (1 ≤ m → x < m)) ∧ e = .returned (.int .i64 x) ∧ Src w' L B (N + 2) ∧ w.grownBy w' (some B) := by
  by_cases h1 : m ≤ 1
  · go_enter Try.func32, Try.ntmps32
    go_wp2
    go_ret
    exact ⟨0, by omega, rfl, Src_more h (by omega), World.grownBy.refl _ _⟩
  have hne : (m == 0) = false := by simp; omega
  have hm0 : ¬ m = 0 := by omega
  have hm1 : ¬ m = -1 := by omega
  by_cases h2 : 200 < m
  · have H := Lib.hid h; clear h
    go_enter Try.func32, Try.ntmps32
    go_wp2_with fail
    refine (nextS_any L B N _ H.out (by omega)).mono ?_
    rintro e w1 ⟨x, hx, rfl, hs1, hg1⟩
    have HS1 := Lib.hid hs1; clear hs1
    go_wp2_with fail
    refine (nextS_any L B (N + 1) _ HS1.out (by omega)).mono ?_
    rintro e w2 ⟨y, hy, rfl, hs2, hg2⟩
    have hrem : (x * 256 + y).tmod m = (x * 256 + y) % m := tmod_pos _ _ (by omega)
    have h0 := Int.emod_nonneg (x * 256 + y) hm0
    have h1' := Int.emod_lt_of_pos (x * 256 + y) (show 0 < m by omega)
    have HREM := Lib.hid hrem; clear hrem
    have HS2 := Lib.hid hs2; clear hs2
    go_wp2
    go_ret
    refine ⟨(x * 256 + y) % m, ⟨h0, by omega, fun _ => h1'⟩, ?_, HS2.out, grown_step hg1 hg2⟩
    first | rfl | (show Ending.returned _ = _; simp [HREM.out])
  · have H := Lib.hid h; clear h
    go_enter Try.func32, Try.ntmps32
    go_wp2_with fail
    refine (nextS_any L B N _ H.out (by omega)).mono ?_
    rintro e w1 ⟨x, hx, rfl, hs1, hg1⟩
    have hrem : x.tmod m = x % m := tmod_pos _ _ (by omega)
    have h0 := Int.emod_nonneg x hm0
    have h1' := Int.emod_lt_of_pos x (show 0 < m by omega)
    have HREM := Lib.hid hrem; clear hrem
    have HS1 := Lib.hid hs1; clear hs1
    go_wp2
    go_ret
    refine ⟨x % m, ⟨h0, by omega, fun _ => h1'⟩, ?_, Src_more HS1.out (by omega), hg1⟩
    first | rfl | (show Ending.returned _ = _; simp [HREM.out])

theorem Src_from {w : World} {A : Option Addr} {n c : Nat} (h : RdC w A n) (hn : n ≤ 1000000) : Src (w.alloc (.cells #[.slice A n c, .int .i64 0, .int .u64 0] 53)) w.heap.size w.heap.size 0 :=
  ⟨Nat.le_refl _, A, n, c, fun k hk => by
    obtain ⟨b, off, z, e, hlt, hc, z0, z1⟩ := h k hk
    exact ⟨b, off, z, e, hlt, by simp; omega, by rw [World.cell?_alloc_past _ _ _ hlt]; exact hc, z0, z1⟩, hn, 0, Nat.le_refl _, 0, by omega, by omega, heap_alloc_new w _⟩

/-- append of one pair to a row of the call's own: nothing but that row has changed. -/
theorem wp_appendH {ops : Array Oper} {rest : List Oper} {o : Oper} {a : Act} {Q : Exit → Act → World → Prop} {wr : World} (hgd : o.guard = none) (s x : Operand)
    (ho : o.op = .call { callee := .builtin .append, args := #[s, x], argTypes := #[24, 24] })
    (lo : Nat) (v : Value) (zs : List (Int × Int)) (p q : Int) (hs : a.eval s = v) (hrow : RowF 35 2 wr lo wr.heap.size v zs.length (flatP zs)) (hx : a.eval x = .slice (some ⟨wr.heap.size, 0, none⟩) 1 1)
    (hlo2 : lo ≤ wr.heap.size) (hn : zs.length < 1000000000)
    (h : ∀ v' w', RowF 35 2 w' lo w'.heap.size v' (zs ++ [(p, q)]).length (flatP (zs ++ [(p, q)])) → wr.grownBy w' v.ownBlock → wpList Try.prog ops Q rest (a.put o.dst v') w') :
    wpList Try.prog ops Q (o :: rest) a (wr.alloc (.cells #[.int .i64 p, .int .i64 q] 35)) := by
  obtain ⟨i0, hi, hz0, hz1, hz2⟩ := info_parts info_step
  refine wpList_append_own_at _ hgd s x _ ho lo 35 i0 (.agg #[.int .i64 0, .int .i64 0]) 2 16 Try.underlying24 hi hz0 hz1 hz2 rfl (by decide) v zs.length _ hs (hrow.1.alloc _) ⟨wr.heap.size, 0, none⟩ 1 1 [.int .i64 p, .int .i64 q] hx rfl ?_ ?_ ?_ ?_ ?_ ?_
  · intro j u hj
    match j with
    | 0 => simp at hj; subst hj; simp [Addr.add]
    | 1 => simp at hj; subst hj; simp [Addr.add]
    | j + 2 => simp at hj
  · intro u hu; simp at hu; rcases hu with rfl | rfl <;> rfl
  · unfold maxLen; omega
  · omega
  · simp; omega
  · intro v' w' hown hg _ hat
    rw [flatP_snoc] at hown
    have hrow' : RowF 35 2 w' lo w'.heap.size v' (zs ++ [(p, q)]).length (flatP (zs ++ [(p, q)])) := ⟨by simpa using hown, hown.lt⟩
    have hal : Below wr.heap.size wr (wr.alloc (.cells #[.int .i64 p, .int .i64 q] 35)) := by go_grown
    exact h v' w' hrow' (grown_step (below_grown hal _) hg)

theorem grown_own {w u u' : World} {row row2 : Option Nat} (h : w.grownBy u row) (k : u.grownBy u' row2) (hr : ∀ g, row2 = some g → w.heap.size ≤ g) : w.grownBy u' row :=
  ⟨k.os.trans h.os, k.tape.trans h.tape, k.output.trans h.output, Nat.le_trans h.size k.size, fun i hi hne => (k.block i (Nat.lt_of_lt_of_le hi h.size) (fun e => by have := hr i e.symm; omega)).trans (h.block i hi hne)⟩

/-- A chart as far as it is drawn: the radius and the load that come next, and how many steps at most. -/
def DcR (zs : List (Int × Int)) (r load : Int) (k : Nat) : Prop :=
  OkAll zs zs.length ∧ zs.length + k ≤ 5 ∧ (20 ≤ r ∧ r ≤ 1000) ∧ (0 ≤ load ∧ load ≤ 50000) ∧ (∀ i, (h : i < zs.length) → i + 1 = zs.length → zs[i].1 = r ∧ load ≤ zs[i].2) ∧ (zs = [] → r = 20 ∧ 1 ≤ k)

theorem DcR_go {zs : List (Int × Int)} {r load r' load' : Int} {k : Nat} (h : DcR zs r load (k + 1)) (hr : r < r' ∧ r' ≤ 1000) (hl : 0 ≤ load' ∧ load' ≤ load) : DcR (zs ++ [(r', load)]) r' load' k := by
  obtain ⟨h1, h2, h3, h4, h5, h6⟩ := h
  refine ⟨?_, by simp; omega, by omega, by omega, ?_, fun h => by simp at h⟩
  · intro i hi _
    have hi' : i < zs.length + 1 := by simpa using hi
    unfold OkAt
    rcases Nat.lt_or_ge i zs.length with hlt | hge
    · have := h1 i hlt hlt
      unfold OkAt at this
      rw [List.getElem_append_left hlt]
      refine ⟨this.1, fun h0 => ?_⟩
      rw [List.getElem_append_left (by omega)]
      exact this.2 h0
    · obtain rfl : i = zs.length := by omega
      rw [List.getElem_append_right (by omega)]
      simp only [Nat.sub_self, List.getElem_cons_zero]
      refine ⟨by omega, fun h0 => ?_⟩
      rw [List.getElem_append_left (by omega)]
      have := h5 (zs.length - 1) (by omega) (by omega)
      omega
  · intro i hi he
    have : i = zs.length := by simp at he; omega
    subst this
    rw [List.getElem_append_right (by omega)]
    simp
    omega

theorem DcR_end {zs : List (Int × Int)} {r load most : Int} {k : Nat} (h : DcR zs r load k) (hm : 20 < most) (he : k = 0 ∨ most ≤ r) : ChartP zs := by
  obtain ⟨h1, h2, h3, h4, h5, h6⟩ := h
  refine ⟨h1, ?_, by omega⟩
  rcases Nat.lt_or_ge 0 zs.length with h | h
  · exact h
  · have h0 : zs = [] := List.eq_nil_of_length_eq_zero (by omega)
    have := h6 h0
    omega

set_option maxHeartbeats 4000000 in
theorem drawC_any (L B N : Nat) (most : Int) (w : World) (h : Src w L B N) (hN : N < 500000000) (hm : 20 < most ∧ most ≤ 1000) :
    Calls Try.prog 15 #[.pointer (some ⟨B, 0, none⟩), .int .i64 most] w fun e w' => ∃ v zs, e = .returned v ∧ ChartP zs ∧ RowF 35 2 w' w.heap.size w'.heap.size v zs.length (flatP zs) ∧ Src w' L B (N + 24) ∧ w.grownBy w' (some B) := by
  have hB := Src_lt h
  have hL := h.1
  have hb0 : Below w.heap.size w (w.alloc (.cells #[] 35)) := by go_grown
  have hs0 := Src_below h hb0
  have hg0 := below_grown hb0 (some B)
  have hr0 : RowF 35 2 (w.alloc (.cells #[] 35)) w.heap.size (w.alloc (.cells #[] 35)).heap.size (.slice (some ⟨w.heap.size, 0, none⟩) 0 0) ([] : List (Int × Int)).length (flatP []) := ⟨World.ownsRow_lit w #[] 0 (Nat.le_refl _) (by decide) (by rfl), fun g hg => by simp [Value.ownBlock] at hg; subst hg; simp⟩
  go_enter Try.func15, Try.ntmps15
  go_wp2_with fail
  generalize w.alloc (.cells #[] 35) = u0 at *
  have S0 := Lib.hid hs0; clear hs0 h
  refine (pickS_any L B N _ _ S0.out (by omega) (by omega)).mono ?_
  rintro e w1 ⟨x1, hx1, rfl, hs1, hg1⟩
  have S1 := Lib.hid hs1; clear hs1
  go_wp2_with fail
  refine (pickS_any L B (N + 2) _ _ S1.out (by omega) (by omega)).mono ?_
  rintro e w2 ⟨x2, hx2, rfl, hs2, hg2⟩
  have hg3 := grown_step hg1 hg2
  have hr2 := RowF_far hr0 hg3 (fun g hg => by injection hg with hg; omega)
  have S2 := Lib.hid hs2; clear hs2 hg1 hg2
  obtain ⟨k2, hk2, rfl⟩ : ∃ k2 : Nat, k2 < 5 ∧ x2 = (k2 : Int) := ⟨x2.toNat, by omega, by omega⟩
  have G2 := Lib.hid (grown_step hg0 hg3)
  have R2 := Lib.hid (RowF_lo hr2 (Nat.le_refl _) hg3.size)
  clear hr2 hg3 hr0 hg0 hb0
  go_wp2_with fail
  go_loopw [5, 6, 7, 8] (fun o r l k wr => ∃ (zs : List (Int × Int)) (ri li : Int) (kk : Nat) (ov : Value), ov = o ∧ r = .int .i64 ri ∧ l = .int .i64 li ∧ k = .int .i64 (kk : Int) ∧ DcR zs ri li kk ∧ RowF 35 2 wr w.heap.size wr.heap.size ov zs.length (flatP zs) ∧ Src wr L B (N + 4 + 4 * zs.length) ∧ w.grownBy wr (some B)) (fun _ _ _ k _ => (intOf k).toNat)
  case atStart => exact ⟨[], 20, 2000 + x1, k2 + 1, _, rfl, rfl, by go_num, by go_num, ⟨fun i h => by simp at h, by simp; omega, by omega, by omega, fun i h => by simp at h, fun _ => ⟨rfl, by omega⟩⟩, R2.out, S2.out, G2.out⟩
  case round =>
    obtain ⟨zs, ri, li, kk, ov, ho, rfl, rfl, rfl, hd, hrow, hs, hg⟩ := hrel
    subst ho
    have HD := Lib.hid hd
    obtain ⟨_, d2, d3, d4, _, _⟩ := hd
    by_cases hk : kk = 0
    · subst hk
      have hch := DcR_end HD.out hm.1 (Or.inl rfl)
      have HRow := Lib.hid hrow; clear hrow
      have HS := Lib.hid hs; clear hs
      go_wp2
      go_ret
      exact ⟨_, zs, rfl, hch, HRow.out, Src_more HS.out (by omega), hg⟩
    by_cases hge : most ≤ ri
    · have hch := DcR_end HD.out hm.1 (Or.inr hge)
      have hk1 : decide (0 < kk) = true := by simp; omega
      have HRow := Lib.hid hrow; clear hrow
      have HS := Lib.hid hs; clear hs
      go_wp2
      go_ret
      exact ⟨_, zs, rfl, hch, HRow.out, Src_more HS.out (by omega), hg⟩
    · obtain ⟨k1, rfl⟩ : ∃ k1, kk = k1 + 1 := ⟨kk - 1, by omega⟩
      have hk1 : decide (0 < k1 + 1) = true := by simp
      have HRow := Lib.hid hrow; clear hrow
      have HS := Lib.hid hs; clear hs
      have HG := Lib.hid hg; clear hg
      have hws := HG.out.size
      go_wp2_with fail
      refine (pickS_any L B (N + 4 + 4 * zs.length) _ _ HS.out (by omega) (by omega)).mono ?_
      rintro e w3 ⟨y1, hy1, rfl, hs3, hg3⟩
      have HS3 := Lib.hid hs3; clear hs3
      have hz3 := hg3.size
      go_wp2_with fail
      refine (min_any _ _ _).mono ?_
      rintro e w4 ⟨rfl, rfl⟩
      have hrow3 := RowF_lo (RowF_far (RowF_lo HRow.out (Nat.le_refl _) (Nat.le_refl _)) hg3 (fun g hg => by injection hg with hg; omega)) (Nat.le_refl _) hz3
      have HRow3 := Lib.hid hrow3; clear hrow3
      generalize hR : min most (ri + 20 + y1) = R' at *
      have hRb : ri < R' ∧ R' ≤ 1000 := by omega
      go_wp2_with (first | (at_builtin; refine wp_appendH rfl (.tmp 32) (.tmp 36) rfl w.heap.size ov zs R' li rfl (by exact HRow3.out) rfl (by omega) (by omega) ?_; intro v' w' hrow' hgr))
      have hs4 := Src_grown HS3.out hgr (fun g hg => by have := HRow3.out.2 g hg; omega)
      have HS4 := Lib.hid hs4; clear hs4
      have HG4 := Lib.hid (grown_own (grown_step HG.out hg3) hgr (fun g hg => (HRow3.out.2 g hg).1))
      have HR4 := Lib.hid hrow'; clear hrow' hgr hg3
      refine (pickS_any L B (N + 4 + 4 * zs.length + 2) _ _ HS4.out (by omega) (by omega)).mono ?_
      rintro e w5 ⟨y2, hy2, rfl, hs5, hg5⟩
      have HS5 := Lib.hid hs5; clear hs5
      go_wp2_with fail
      refine (max_any _ _ _).mono ?_
      rintro e w6 ⟨rfl, rfl⟩
      generalize hM : max 0 (li - y2) = M at *
      have hMb : 0 ≤ M ∧ M ≤ li := by omega
      have hrow5 := RowF_lo (RowF_far HR4.out hg5 (fun g hg => by injection hg with hg; omega)) (Nat.le_refl _) hg5.size
      have hg6 := grown_step HG4.out hg5
      clear hg5 hM hR
      go_wp2
      go_roundw
      case rel => exact ⟨_, R', M, k1, _, rfl, rfl, rfl, by go_num, DcR_go HD.out hRb hMb, hrow5, Src_more HS5.out (by simp; omega), hg6⟩
      case measure => simp [intOf]

theorem reduceZ_ok (p x y : Int) (hp : 1 ≤ p ∧ p ≤ 100) (hy : 0 ≤ y ∧ y ≤ 50000) : 0 ≤ y * p / 100 ∧ y * p / 100 ≤ y ∧ ¬ p * y < 100 * (y * p / 100) ∧ ¬ 100 * (y * p / 100 + 1) ≤ p * y := by
  have h1 : y * p ≤ y * 100 := Int.mul_le_mul_of_nonneg_left hp.2 hy.1
  have h0 : 0 ≤ y * p := Int.mul_nonneg hy.1 (by omega)
  rw [Int.mul_comm p y]
  generalize y * p = q at *
  omega

theorem ChartP_map {zs : List (Int × Int)} (h : ChartP zs) (F : Int × Int → Int × Int) (f : Int → Int) (hF : ∀ z, F z = (z.1, f z.2)) (hm : ∀ a b, 0 ≤ a → a ≤ b → b ≤ 50000 → f a ≤ f b) (hb : ∀ a, 0 ≤ a → a ≤ 50000 → 0 ≤ f a ∧ f a ≤ 50000) : ChartP (zs.map F) := by
  refine ⟨fun i hi _ => ?_, by simpa using h.2.1, by simpa using h.2.2⟩
  have hi' : i < zs.length := by simpa using hi
  have h1 := h.1 i hi' hi'
  have hb1 := hb zs[i].2 h1.1.2.2.1 h1.1.2.2.2
  refine ⟨?_, fun h0 => ?_⟩
  · simp only [List.getElem_map, hF]
    exact ⟨h1.1.1, h1.1.2.1, hb1.1, hb1.2⟩
  · have h2 := h1.2 h0
    have h3 := h.1 (i - 1) (by omega) (by omega)
    simp only [List.getElem_map, hF]
    exact ⟨h2.1, hm _ _ h1.1.2.2.1 h2.2 h3.1.2.2.2⟩

theorem reduce_chart {zs : List (Int × Int)} (h : ChartP zs) {p : Int} (hp : 1 ≤ p ∧ p ≤ 100) : ChartP (zs.map (reduceZ p)) := by
  refine ChartP_map h _ (fun y => y * p / 100) (fun z => rfl) (fun a b h0 h1 h2 => ?_) (fun a h0 h1 => ?_)
  · exact Int.ediv_le_ediv (by omega) (Int.mul_le_mul_of_nonneg_right h1 (by omega))
  · have := reduceZ_ok p 0 a hp ⟨h0, h1⟩
    omega

theorem less_chart {zs : List (Int × Int)} (h : ChartP zs) {p : Int} (hp : 0 ≤ p) : ChartP (zs.map (lessZ p)) :=
  ChartP_map h _ (fun y => max 0 (y - p)) (fun z => rfl) (fun a b h0 h1 h2 => by omega) (fun a h0 h1 => by omega)

/-- Whether one of the first k steps has the moment m. -/
def someB (zs : List (Int × Int)) (m : Int) (k : Nat) : Bool := (zs.take k).any fun z => z.1 * z.2 == m

theorem someB_step (zs : List (Int × Int)) (m : Int) (k : Nat) (h : k < zs.length) : someB zs m (k + 1) = (someB zs m k || (zs[k].1 * zs[k].2 == m)) := by
  rw [someB, ← List.take_append_getElem h, List.any_append, someB]
  simp

theorem mom_ge (zs : List (Int × Int)) (k : Nat) (hk : k ≤ zs.length) : (0 ≤ momU (zs.take k) ∧ ∀ i, (h : i < zs.length) → i < k → zs[i].1 * zs[i].2 ≤ momU (zs.take k)) ∧ (momU (zs.take k) = 0 ∨ someB zs (momU (zs.take k)) k = true) := by
  induction k with
  | zero => exact ⟨⟨by simp [momU], fun i h h0 => by omega⟩, Or.inl (by simp [momU])⟩
  | succ k ih =>
    obtain ⟨⟨h0, h1⟩, h2⟩ := ih (by omega)
    rw [momU_step zs k (by omega)]
    refine ⟨⟨by omega, fun i h hi => ?_⟩, ?_⟩
    · rcases Nat.lt_or_ge i k with h3 | h3
      · have := h1 i h h3
        omega
      · obtain rfl : i = k := by omega
        omega
    · rw [someB_step _ _ k (by omega)]
      by_cases h4 : zs[k].1 * zs[k].2 ≤ momU (zs.take k)
      · rw [show max (momU (zs.take k)) (zs[k].1 * zs[k].2) = momU (zs.take k) by omega]
        rcases h2 with h2 | h2
        · exact Or.inl h2
        · exact Or.inr (by rw [h2]; rfl)
      · rw [show max (momU (zs.take k)) (zs[k].1 * zs[k].2) = zs[k].1 * zs[k].2 by omega]
        exact Or.inr (by simp)

theorem mom_ok {zs : List (Int × Int)} (h : ChartP zs) : (∀ i, (hi : i < zs.length) → zs[i].1 * zs[i].2 ≤ momU zs) ∧ someB zs (momU zs) zs.length = true := by
  have h1 := mom_ge zs zs.length (Nat.le_refl _)
  rw [List.take_of_length_le (Nat.le_refl _)] at h1
  refine ⟨fun i hi => h1.1.2 i hi hi, ?_⟩
  rcases h1.2 with h2 | h2
  · have h3 := h.1 0 (by have := h.2.1; omega) (by have := h.2.1; omega)
    have h4 := h1.1.2 0 (by have := h.2.1; omega) (by have := h.2.1; omega)
    have h31 := h3.1
    have h5 : 0 ≤ (zs[0]'(by have := h.2.1; omega)).1 * (zs[0]'(by have := h.2.1; omega)).2 := Int.mul_nonneg (by omega) (by omega)
    rw [someB, List.take_of_length_le (Nat.le_refl _), List.any_eq_true]
    exact ⟨zs[0]'(by have := h.2.1; omega), List.getElem_mem _, by simp only [beq_iff_eq]; omega⟩
  · exact h2

theorem loadAt_ok {zs : List (Int × Int)} (h : ChartP zs) {r : Int} (h0 : 0 ≤ r) (h1 : r ≤ lastL zs) : loadAtL zs r = (loadL zs r, 0) := by
  have hl := last_mem h
  rw [loadAtL, if_pos (by simp [codeL, chartB_true h, inB]; omega), if_pos ((find_last h r).2 h1)]

theorem lesser_ok {zs us : List (Int × Int)} (hz : ChartP zs) (hu : ChartP us) (h : (lesserL zs us).2 = 0) : ChartP (lesserL zs us).1 ∧
    ∀ i, (hi : i < (lesserL zs us).1.length) → loadAtL zs (lesserL zs us).1[i].1 = (loadL zs (lesserL zs us).1[i].1, 0) ∧ loadAtL us (lesserL zs us).1[i].1 = (loadL us (lesserL zs us).1[i].1, 0) ∧ (lesserL zs us).1[i].2 = min (loadL zs (lesserL zs us).1[i].1) (loadL us (lesserL zs us).1[i].1) := by
  have hlz := last_mem hz
  have hlu := last_mem hu
  by_cases hc : 20 < (specR zs us (min (lastL zs) (lastL us)).toNat).length
  · rw [lesserL, if_pos (by rw [chartB_true hz, chartB_true hu]; rfl), if_pos hc] at h
    simp at h
  have e : lesserL zs us = ((specR zs us (min (lastL zs) (lastL us)).toNat).map (pairR zs us), 0) := by
    rw [lesserL, if_pos (by rw [chartB_true hz, chartB_true hu]; rfl), if_neg hc]
  have hp := specR_pos hz hu
  have hr := specR_rise zs us (min (lastL zs) (lastL us)).toNat
  have hm := fun z => (specR_mem zs us (min (lastL zs) (lastL us)).toNat z).1
  rw [e]
  clear e h
  generalize specR zs us (min (lastL zs) (lastL us)).toNat = R at *
  have hin : ∀ i, (hi : i < R.length) → (1 ≤ R[i] ∧ R[i] ≤ 1000) ∧ R[i] ≤ lastL zs ∧ R[i] ≤ lastL us := fun i hi => by
    have := (hm R[i] (List.getElem_mem hi)).1
    omega
  have hld : ∀ i, (hi : i < R.length) → (0 ≤ loadL zs R[i] ∧ loadL zs R[i] ≤ 50000) ∧ 0 ≤ loadL us R[i] ∧ loadL us R[i] ≤ 50000 := fun i hi => by
    have h1 := hin i hi
    exact ⟨loadL_bd hz ((find_last hz _).2 h1.2.1), loadL_bd hu ((find_last hu _).2 h1.2.2)⟩
  refine ⟨⟨fun i hi _ => ?_, by simp; omega, by simp; omega⟩, fun i hi => ?_⟩
  · have hi' : i < R.length := by simpa using hi
    have h1 := hin i hi'
    have h2 := hld i hi'
    refine ⟨?_, fun h0 => ?_⟩
    · simp only [List.getElem_map, pairR]
      omega
    · have h3 : R[i - 1] < R[i] := List.pairwise_iff_getElem.1 hr (i - 1) i (by omega) hi' (by omega)
      have h4 := loadL_mono hz _ _ (Int.le_of_lt h3) ((find_last hz _).2 h1.2.1)
      have h5 := loadL_mono hu _ _ (Int.le_of_lt h3) ((find_last hu _).2 h1.2.2)
      simp only [List.getElem_map, pairR]
      omega
  · have hi' : i < R.length := by simpa using hi
    have h1 := hin i hi'
    simp only [List.getElem_map, pairR]
    exact ⟨loadAt_ok hz (by omega) h1.2.1, loadAt_ok hu (by omega) h1.2.2, trivial⟩

theorem a2Long_any (A : Option Addr) (n c : Nat) (B : Option Addr) (m d : Nat) (w : World) : Calls Try.prog 4 #[.slice A n c, .slice B m d] w fun e w' => e = .returned (.bool (decide (3000 < n) || decide (3000 < m))) ∧ w = w' := by
  by_cases h : 3000 < n
  · have h1 : decide (3000 < n) = true := by simpa using h
    go_enter Try.func4, Try.ntmps4
    go_wp2
    go_ret
    exact ⟨by simp [*], rfl⟩
  · have h1 : decide (3000 < n) = false := by simpa using h
    go_enter Try.func4, Try.ntmps4
    go_wp2
    go_ret
    exact ⟨by rw [show decide ((3000 : Int) < (n : Int)) = decide (3000 < n) by rw [decide_eq_decide]; omega, show decide ((3000 : Int) < (m : Int)) = decide (3000 < m) by rw [decide_eq_decide]; omega] <;> rfl, rfl⟩

theorem a2At_any (A : Option Addr) (n c : Nat) (k : Nat) (m : Int) (w : World) (h : RdC w A n) (hk : k ≤ 1000) (hm : 1 ≤ m ∧ m ≤ 256) : Calls Try.prog 6 #[.slice A n c, .int .i64 (k : Nat), .int .i64 m] w fun e w' => ∃ x : Int, e = .returned (.int .i64 x) ∧ (0 ≤ x ∧ x < m) ∧ w = w' := by
  have hm1 : decide (m < 1) = false := by simp; omega
  have hm0 : (m == 0) = false := by simp; omega
  have hm2 : ¬ m = 0 := by omega
  have hm3 : ¬ m = -1 := by omega
  by_cases hkn : k < n
  · obtain ⟨b, off, z, rfl, hlt, hc, z0, z1⟩ := h k hkn
    have hd : decide (n ≤ k) = false := by simp; omega
    have hd2 : decide ((n : Int) ≤ (k : Int)) = false := by simp; omega
    have hr : z.tmod m = z % m := Int.tmod_eq_emod_of_nonneg z0
    have hr1 := Int.emod_nonneg z (show m ≠ 0 by omega)
    have hr2 := Int.emod_lt_of_pos z (show 0 < m by omega)
    have hq1 := hr1
    have hq2 := hr2
    rw [← hr] at hr1 hr2
    have hw : IntKind.i64.wrap z = z := IntWalk.i64_in _ (by omega)
    have hw1 : IntKind.i64.wrap (z.tmod m) = z.tmod m := IntWalk.i64_in _ (by omega)
    clear h hr
    go_enter Try.func6, Try.ntmps6
    go_wp2
    go_ret
    exact ⟨_, rfl, by first | exact ⟨hr1, hr2⟩ | exact ⟨hq1, hq2⟩, rfl⟩
  · have hd : decide (n ≤ k) = true := by simp; omega
    have hd2 : decide ((n : Int) ≤ (k : Int)) = true := by simp; omega
    clear h
    go_enter Try.func6, Try.ntmps6
    go_wp2
    go_ret
    exact ⟨0, rfl, by omega, rfl⟩

set_option maxHeartbeats 4000000 in
theorem drawA2_any (A : Option Addr) (n cp : Nat) (w : World) (h : RdC w A n) (hn : n ≤ 1000000) :
    Calls Try.prog 5 #[.slice A n cp] w fun e w' => ∃ (v1 : Value) (zs : List (Int × Int)) (v2 : Value) (us : List (Int × Int)), e = .returned (.tuple #[v1, v2]) ∧ ChartP zs ∧ ChartP us ∧ RdP w' v1 zs ∧ RdP w' v2 us ∧ Below w.heap.size w w' := by
  go_enter Try.func5, Try.ntmps5
  go_wp2_with fail
  refine (from_any _ _ A n cp rfl).mono ?_
  rintro e w1 ⟨rfl, h1⟩
  have hs1 := Src_from (c := cp) h hn
  have hb1 : Below w.heap.size w w1 := by rw [← h1]; go_grown
  rw [h1] at hs1
  have S1 := Lib.hid hs1; clear hs1 h1 h
  have hB1 := Src_lt S1.out
  go_wp2_with fail
  refine (drawC_any w.heap.size w.heap.size 0 600 _ S1.out (by omega) (by omega)).mono ?_
  rintro e w2 ⟨v1, zs, rfl, hz, hr2, hs2, hg2⟩
  have hz2 := hg2.size
  have B2 := Lib.hid (grown_below hb1 hg2 (fun g hg => by injection hg with hg; omega))
  have S2 := Lib.hid hs2; clear hs2 hg2
  go_wp2_with fail
  refine (drawC_any w.heap.size w.heap.size 24 600 _ S2.out (by omega) (by omega)).mono ?_
  rintro e w3 ⟨v2, us, rfl, hu, hr3, hs3, hg3⟩
  have hr2' := RowF_far hr2 hg3 (fun g hg => by injection hg with hg; omega)
  have B3 := Lib.hid (grown_below B2.out hg3 (fun g hg => by injection hg with hg; omega))
  have R2 := Lib.hid (RowF_rd hr2')
  have R3 := Lib.hid (RowF_rd hr3)
  clear hr2 hr2' hr3 hs3 hg3
  go_wp2
  go_ret2
  exact ⟨_, zs, _, us, rfl, hz, hu, R2.out, R3.out, B3.out⟩

theorem reduceOk_any (v : Value) (zs : List (Int × Int)) (p : Int) (w : World) (hz : ChartP zs) (hp : 1 ≤ p ∧ p ≤ 100) (h : RdP w v zs) :
    Calls Try.prog 8 #[v, .int .i64 p] w fun e w' => ∃ A c, e = .returned (.tuple #[.slice A zs.length c, .int .i64 0]) ∧ RdP w' (.slice A zs.length c) (zs.map (reduceZ p)) ∧ Below w.heap.size w w' := by
  have e : reduceL zs p = (zs.map (reduceZ p), 0) := by rw [reduceL, if_pos (by simp [codeL, chartB_true hz, inB]; omega)]
  have h1 := implReduce_any v zs p w h
  rw [e] at h1
  refine h1.mono ?_
  rintro e w' ⟨v', rfl, hrow, hb⟩
  have hx : RdP w' v' (zs.map (reduceZ p)) := RowF_rd hrow
  obtain ⟨A, c, e4, _, _⟩ := RdP_slice hx
  rw [List.length_map] at e4
  subst e4
  exact ⟨A, c, rfl, hx, hb⟩

theorem lessOk_any (v : Value) (zs : List (Int × Int)) (p : Int) (w : World) (hz : ChartP zs) (hp : 0 ≤ p ∧ p ≤ 50000) (h : RdP w v zs) :
    Calls Try.prog 9 #[v, .int .i64 p] w fun e w' => ∃ A c, e = .returned (.tuple #[.slice A zs.length c, .int .i64 0]) ∧ RdP w' (.slice A zs.length c) (zs.map (lessZ p)) ∧ Below w.heap.size w w' := by
  have e : lessL zs p = (zs.map (lessZ p), 0) := by rw [lessL, if_pos (by simp [codeL, chartB_true hz, inB]; omega)]
  have h1 := implLess_any v zs p w h
  rw [e] at h1
  refine h1.mono ?_
  rintro e w' ⟨v', rfl, hrow, hb⟩
  have hx : RdP w' v' (zs.map (lessZ p)) := RowF_rd hrow
  obtain ⟨A, c, e4, _, _⟩ := RdP_slice hx
  rw [List.length_map] at e4
  subst e4
  exact ⟨A, c, rfl, hx, hb⟩

theorem lesserS_any (v1 : Value) (zs : List (Int × Int)) (v2 : Value) (us : List (Int × Int)) (w : World) (h1 : RdP w v1 zs) (h2 : RdP w v2 us) :
    Calls Try.prog 7 #[v1, v2] w fun e w' => ∃ A c, e = .returned (.tuple #[.slice A (lesserL zs us).1.length c, .int .i64 (lesserL zs us).2]) ∧ RdP w' (.slice A (lesserL zs us).1.length c) (lesserL zs us).1 ∧ Below w.heap.size w w' := by
  refine (specLesser_any v1 zs v2 us w h1 h2).mono ?_
  rintro e w' ⟨v', rfl, hrow, hb⟩
  have hx : RdP w' v' (lesserL zs us).1 := RowF_rd hrow
  obtain ⟨A, c, e4, _, _⟩ := RdP_slice hx
  subst e4
  exact ⟨A, c, rfl, hx, hb⟩

theorem lesserI_any (v1 : Value) (zs : List (Int × Int)) (v2 : Value) (us : List (Int × Int)) (w : World) (h1 : RdP w v1 zs) (h2 : RdP w v2 us) :
    Calls Try.prog 10 #[v1, v2] w fun e w' => ∃ A c, e = .returned (.tuple #[.slice A (lesserL zs us).1.length c, .int .i64 (lesserL zs us).2]) ∧ RdP w' (.slice A (lesserL zs us).1.length c) (lesserL zs us).1 ∧ Below w.heap.size w w' := by
  refine (implLesser_any v1 zs v2 us w h1 h2).mono ?_
  rintro e w' ⟨v', rfl, hrow, hb⟩
  have hx : RdP w' v' (lesserL zs us).1 := RowF_rd hrow
  obtain ⟨A, c, e4, _, _⟩ := RdP_slice hx
  subst e4
  exact ⟨A, c, rfl, hx, hb⟩

theorem RdP_get {w : World} {A : Option Addr} {n c : Nat} {zs : List (Int × Int)} (h : RdP w (.slice A n c) zs) (k : Nat) (hk : k < zs.length) :
    ∃ b off, A = some ⟨b, off, none⟩ ∧ b < w.heap.size ∧ w.cell? ⟨b, off + k * 2, none⟩ = some (.int .i64 zs[k].1) ∧ w.cell? ⟨b, off + k * 2 + 1, none⟩ = some (.int .i64 zs[k].2) := by
  obtain ⟨A', c', e, _, r⟩ := RdP_slice h
  injection e with e1 e2 e3
  subst e1
  exact r k hk

end Go.Proofs.Ytedmpjgpgbmolab
