/- Proved: for every input the law FnChosenSlings returns true, and each argument reads afterwards as it read before; no condition beside those of the given row. -/
import Derived.Test.YtedmpjgpgbmolaaRows
import Derived.WalkKit
import Derived.ProofKit
import Derived.OpenShut
import Derived.Lib.Hide
import Derived.Handy
import Derived.BigQuiet
import Derived.Carry
import Derived.ChangeSlices
import Derived.Deep.Cut
import Derived.Deep.DeepCutAuto
import Derived.Deep.Draws
import Derived.Deep.QuietTactic
import Derived.Deep.RegionHeld3
import Derived.Laws.ResultCell
import Derived.Lib.SmallJoins
import Derived.Maps.AppendAt
import Derived.OwnWalk
import Derived.Shelf.Abstract
import Derived.Lib.SmallJoins
import Derived.ChangeMaps5
namespace Go.Proofs.Ytedmpjgpgbmolaa
open Go.ChangeShapes Go.WideShapes Go.ChangeAt Go.RowKit
set_option linter.unusedVariables false
set_option linter.unusedSimpArgs false

theorem tmod_pos (n k : Int) (h : 0 ≤ n) : n.tmod k = n % k := Int.tmod_eq_emod_of_nonneg h

theorem trodAll_stay {H : Type} {enc : TypeId × Value → H} {P : Program} (hl : laidOutB P = true) {W W' : World} (hb : Below W.heap.size W W') :
    ∀ (ts : List TypeId) (vs : List Value) (ds : List (DataW H)) (ps : List MemPlace), ts.all (fun t => P.readableRec t && decide (t < P.types.size)) = true →
      DataW.TrodAll enc P W 0 (fun _ => true) true ts vs ds ps → (∀ x ∈ ps, x.block < W.heap.size) →
      DataW.TrodAll enc P W' 0 (fun b => decide (b < W.heap.size)) true ts vs ds ps := by
  intro ts
  induction ts with
  | nil => intro vs ds ps _ h _; obtain ⟨rfl, rfl, rfl⟩ := trodAll_nil h; exact rfl
  | cons t ts ih =>
    intro vs ds ps hr h hlt
    simp only [List.all_cons, Bool.and_eq_true, decide_eq_true_eq] at hr
    obtain ⟨v, vs', d, ds', p, q, rfl, rfl, rfl, h0, h1⟩ := trodAll_cons h
    exact ⟨p, q, Below.trod hl hr.1.1 hr.1.2 h0 hb (fun x hx => hlt x (by simp [hx])), ih _ _ _ hr.2 h1 (fun x hx => hlt x (by simp [hx])), rfl⟩

/-- A law's row at its end: it returned true, and of what was there nothing has turned. -/
theorem law_post {H : Type} {enc : TypeId × Value → H} {P : Program} {f : Func} {s : ChangeSpec} {W W' : World} {args : Array Value} {ds gs : List (DataW H)} {before : List MemPlace} {B : TypeId}
    (hl : laidOutB P = true) (hr : f.params.toList.all (fun t => P.readableRec t && decide (t < P.types.size)) = true)
    (hres : f.resultTypes = #[B]) (hB : P.underlying B = some .bool) (hv : s.vars = [])
    (hW : DataW.Whole enc P f.params.toList s.vars false W args.toList ds gs before)
    (hfn : s.fn H (ds ++ gs) = { results := [.lit (.bool true)], args := ds }) (hb : Below W.heap.size W W') :
    s.post enc P f false true false false W args (.bool true) W' := by
  have hlt : ∀ p ∈ before, p.block < W.heap.size := fun p hp => hW.lt p hp
  have hW' := hW
  obtain ⟨p, q, hA, hV, rfl, _, _⟩ := hW'
  rw [hv] at hV
  obtain ⟨rfl, rfl⟩ := trodVars_none hV
  refine ⟨ds, [], p ++ [], [], p, [], hW, ?_, ?_, ?_, hb.frame _, fun h => by cases h⟩
  · rw [hfn, hres]
    exact trodAll_cons_mk (shut_bool hB _) trodAll_mk0
  · rw [hfn]
    exact trodAll_stay hl hb _ _ _ _ hr hA (fun x hx => hlt x (by simp [hx]))
  · rw [hfn, hv]
    exact rfl

theorem kept_cell {W w1 : World} (hb : Below W.heap.size W w1) (b o : Nat) (h : b < W.heap.size) : w1.cell? ⟨b, o, none⟩ = W.cell? ⟨b, o, none⟩ := hb.cell (p := ⟨b, o, none⟩) h

theorem kept_frozen {W w1 : World} (hb : Below W.heap.size W w1) (b o : Nat) (h : b < W.heap.size) : w1.frozen? ⟨b, o, none⟩ = W.frozen? ⟨b, o, none⟩ := hb.frozen (p := ⟨b, o, none⟩) h

theorem kept {W w1 : World} (hb : Below W.heap.size W w1) :
    (∀ b o, b < W.heap.size → w1.cell? ⟨b, o, none⟩ = W.cell? ⟨b, o, none⟩) ∧ (∀ b o, b < W.heap.size → w1.frozen? ⟨b, o, none⟩ = W.frozen? ⟨b, o, none⟩) ∧ W.heap.size ≤ w1.heap.size :=
  ⟨kept_cell hb, kept_frozen hb, hb.size⟩

theorem kept_trans {a b c : World} (h : Below a.heap.size a b) (k : Below b.heap.size b c) : Below a.heap.size a c := h.trans (k.mono h.size)

theorem kept_at {W w1 : World} (hb : Below W.heap.size W w1) (b : Nat) {G : Prop} (h : b < W.heap.size)
    (k : (∀ o, w1.cell? ⟨b, o, none⟩ = W.cell? ⟨b, o, none⟩) → (∀ o, w1.frozen? ⟨b, o, none⟩ = W.frozen? ⟨b, o, none⟩) → b < w1.heap.size → G) : G :=
  k (fun o => kept_cell hb b o h) (fun o => kept_frozen hb b o h) (Nat.lt_of_lt_of_le h hb.size)

theorem kept_drewN {B : Nat} {a w : World} (h : Below B a w) (n : Nat) : Below B a (w.drewN n) := { os := h.os, tape := h.tape, output := h.output, size := h.size, block := h.block }

theorem grown_step {a b c : World} {row : Option Nat} (h : a.grownBy b row) (k : b.grownBy c row) : a.grownBy c row :=
  ⟨k.os.trans h.os, k.tape.trans h.tape, k.output.trans h.output, Nat.le_trans h.size k.size, fun i hi hne => (k.block i (Nat.lt_of_lt_of_le hi h.size) hne).trans (h.block i hi hne)⟩

theorem grown_below {a b c : World} {row : Option Nat} (h : Below a.heap.size a b) (k : b.grownBy c row) (hr : ∀ g, row = some g → a.heap.size ≤ g) : Below a.heap.size a c := h.grown k h.size hr

theorem results_cell1 {fn : Func} {p : Tmp} {ty : TypeId} (h : fn.results = #[.cell p ty]) (tmps : Array Value) (P : Program) (w : World) :
    (results fn tmps).run P w = ((asAddr (tmps.getD p undef)).run P w).andThen fun a w₁ => (loadVar ty a).run P w₁ := by
  simp only [results, h]
  simp [Sem.run_bind, Result.andThen]

theorem grown_set (w : World) (a : Addr) (u : Value) : w.grownBy (w.setCell a u) (some a.block) :=
  ⟨rfl, rfl, rfl, by simp, fun k _ hk => heap_setCell_other w a k u (fun e => hk (by rw [e]))⟩

def inB (n low high : Int) : Bool := decide (low ≤ n) && decide (n ≤ high)

theorem in_any (n low high : Int) (w : World) :
    Calls Try.prog 48 #[.int .i64 n, .int .i64 low, .int .i64 high] w fun e w' => e = .returned (.bool (inB n low high)) ∧ w = w' := by
  unfold inB
  by_cases h1 : low ≤ n <;> by_cases h2 : n ≤ high <;>
  · go_enter Try.func48, Try.ntmps48
    go_wp2
    go_ret
    exact ⟨by simp [*], rfl⟩

theorem inB_true {n a b : Int} (h : inB n a b = true) : a ≤ n ∧ n ≤ b := by simpa [inB] using h

theorem sq_bd (a k : Int) (h1 : -k ≤ a) (h2 : a ≤ k) : 0 ≤ a * a ∧ a * a ≤ k * k := by
  refine ⟨by rcases Int.le_total 0 a with h | h; exact Int.mul_nonneg h h; exact Int.mul_nonneg_of_nonpos_of_nonpos h h, ?_⟩
  rcases Int.le_total 0 a with h | h
  · exact Int.mul_le_mul h2 h2 h (by omega)
  · have := Int.mul_le_mul (show -a ≤ k by omega) (show -a ≤ k by omega) (by omega) (by omega)
    rwa [Int.neg_mul_neg] at this

def IsRoot (n r : Int) : Prop := 0 ≤ r ∧ n ≤ r * r ∧ ∀ q, 0 ≤ q → q < r → q * q < n

open Classical in
noncomputable def rootL (n : Int) : Int := if h : ∃ r, IsRoot n r then Classical.choose h else 0

theorem rootL_eq {n r : Int} (h : IsRoot n r) : rootL n = r := by
  have hex : ∃ r, IsRoot n r := ⟨r, h⟩
  unfold rootL
  rw [dif_pos hex]
  obtain ⟨a1, a2, a3⟩ := Classical.choose_spec hex
  obtain ⟨b1, b2, b3⟩ := h
  rcases Int.lt_trichotomy (Classical.choose hex) r with h | h | h
  · have := b3 _ a1 h; omega
  · exact h
  · have := a3 _ b1 h; omega

theorem sq_lt {q m n : Int} (h0 : 0 ≤ q) (h1 : q ≤ m) (h2 : m * m < n) : q * q < n := by
  have := Int.mul_le_mul h1 h1 h0 (by omega)
  omega

theorem l02Root_any (n : Int) (w : World) (h0 : 0 ≤ n) (h1 : n ≤ 1000000000000) :
    Calls Try.prog 83 #[.int .i64 n] w fun e w' => e = .returned (.int .i64 (rootL n)) ∧ w = w' := by
  go_enter Try.func83, Try.ntmps83
  go_wp2_with fail
  go_loop [3, 4] (fun i j => ∃ lo hi : Int, 0 ≤ lo ∧ lo ≤ hi ∧ hi ≤ 2000000 ∧ i = .int .i64 lo ∧ j = .int .i64 hi ∧ (∀ q, 0 ≤ q → q < lo → q * q < n) ∧ n ≤ hi * hi) (fun i j => (intOf j - intOf i).toNat)
  case atStart => exact ⟨0, 2000000, by omega, by omega, by omega, rfl, rfl, fun q h1 h2 => by omega, by omega⟩
  case round =>
    obtain ⟨lo, hi, h2, h3, h4, rfl, rfl, h5, h6⟩ := hrel
    have H5 := Lib.hid h5; clear h5
    by_cases hlt : lo < hi
    · have g1 : lo ≤ (lo + hi) / 2 := by omega
      have g2 : (lo + hi) / 2 < hi := by omega
      have hs := sq_bd ((lo + hi) / 2) 2000000 (by omega) (by omega)
      by_cases hp : n ≤ (lo + hi) / 2 * ((lo + hi) / 2)
      all_goals
        go_wp2
        go_round
        case rel => first
          | exact ⟨(lo + hi) / 2 + 1, hi, by omega, by omega, h4, rfl, rfl, fun q a c => sq_lt a (by omega) (Int.not_le.mp hp), h6⟩
          | exact ⟨lo, (lo + hi) / 2, h2, g1, by omega, rfl, rfl, H5.out, hp⟩
        case measure => simp [intOf]; omega
    · have : lo = hi := by omega
      subst this
      have e := rootL_eq (n := n) ⟨h2, h6, H5.out⟩
      go_wp2
      go_ret
      exact ⟨by simp [e], rfl⟩

theorem info_int64 : (Try.prog.info? 2).map (fun i => (i.zero, i.size, i.bytes)) = some (some (.int .i64 0), 1, 8) := by kernel_rfl

theorem own_kept {W w1 : World} {base : Nat} {e : TypeId} {size : Nat} {v : Value} {n : Nat} {xs : List Value} (h : W.ownsRow base e size v n xs) (hb : Below W.heap.size W w1) : w1.ownsRow base e size v n xs := by
  refine ⟨h.1, ?_⟩
  rcases h.2 with h2 | ⟨g, cap, cur, hv, hg, hh, r⟩
  · exact Or.inl h2
  · refine Or.inr ⟨g, cap, cur, hv, hg, ?_, r⟩
    rw [hb.block g (h.lt g (by rw [hv]; rfl)).2]
    exact hh

/-- The slice value reads as a list of numbers. -/
def RdI (w : World) (v : Value) (zs : List Int) : Prop :=
  zs.length ≤ 9223372036854775807 ∧ ∃ A c, v = .slice A zs.length c ∧ ∀ k, (hk : k < zs.length) → ∃ b off, A = some ⟨b, off, none⟩ ∧ b < w.heap.size ∧ w.cell? ⟨b, off + k, none⟩ = some (.int .i64 zs[k])

theorem RdI_kept {W w1 : World} {v : Value} {zs : List Int} (h : RdI W v zs) (hb : Below W.heap.size W w1) : RdI w1 v zs := by
  obtain ⟨hl, A, c, rfl, hr⟩ := h
  refine ⟨hl, A, c, rfl, fun k hk => ?_⟩
  obtain ⟨b, off, e, hlt, hc⟩ := hr k hk
  exact ⟨b, off, e, Nat.lt_of_lt_of_le hlt hb.size, by rw [kept_cell hb b _ hlt]; exact hc⟩

/-- A row of numbers of the call's own, in a block from lo on and below hi. -/
def RowI (w : World) (lo hi : Nat) (v : Value) (zs : List Int) : Prop :=
  w.ownsRow lo 2 1 v zs.length (zs.map (Value.int .i64)) ∧ ∀ g, v.ownBlock = some g → lo ≤ g ∧ g < hi

theorem RowI_form {w : World} {lo hi : Nat} {v : Value} {zs : List Int} (h : RowI w lo hi v zs) :
    (zs = [] ∧ v = .slice none 0 0) ∨ ∃ g cap, v = .slice (some ⟨g, 0, none⟩) zs.length cap ∧ lo ≤ g ∧ g < hi ∧ g < w.heap.size ∧ zs.length ≤ cap ∧ cap ≤ maxLen := by
  rcases h.1.2 with ⟨h1, h2⟩ | ⟨g, cap, cur, rfl, hg, hh, h3, h4, _⟩
  · exact Or.inl ⟨List.eq_nil_of_length_eq_zero h2, h1⟩
  · exact Or.inr ⟨g, cap, rfl, hg, (h.2 g rfl).2, (h.1.lt g rfl).2, h3, h4⟩

theorem RowI_rd {w : World} {lo hi : Nat} {v : Value} {zs : List Int} (h : RowI w lo hi v zs) : RdI w v zs := by
  rcases RowI_form h with ⟨rfl, rfl⟩ | ⟨g, cap, rfl, _, _, hlt, h3, h4⟩
  · exact ⟨by simp, none, 0, rfl, fun k hk => by simp at hk⟩
  · unfold maxLen at h4
    refine ⟨by omega, some ⟨g, 0, none⟩, cap, rfl, fun k hk => ⟨g, 0, rfl, hlt, ?_⟩⟩
    rw [Nat.zero_add, h.1.cellAt k (by simpa using hk)]
    simp [hk]

theorem RowI_far {W w1 : World} {lo hi : Nat} {v : Value} {zs : List Int} {row : Option Nat} (h : RowI W lo hi v zs) (hg : W.grownBy w1 row) (hr : ∀ g, row = some g → g < lo ∨ hi ≤ g) : RowI w1 lo hi v zs := by
  refine ⟨h.1.kept hg ?_, h.2⟩
  rcases hv : v.ownBlock with _ | g
  · exact Or.inl rfl
  · refine Or.inr (fun e => ?_)
    have h1 := h.2 g hv
    have h2 := hr g e.symm
    omega

/-- The slice reads as bytes, none of them in block x. -/
def RdB (w : World) (A : Option Addr) (n x : Nat) : Prop := ∀ k, k < n → ∃ b off z, A = some ⟨b, off, none⟩ ∧ b < w.heap.size ∧ b ≠ x ∧ w.cell? ⟨b, off + k, none⟩ = some (.int .u8 z) ∧ 0 ≤ z ∧ z ≤ 255

/-- A source of choices in block b: its bytes, how far it has come, its seed. -/
def SrcAt (w : World) (b : Nat) (v : Value) (N : Nat) : Prop := ∃ seed : Int, 0 ≤ seed ∧ seed ≤ 18446744073709551615 ∧ w.heap[b]? = some (.cells #[v, .int .i64 N, .int .u64 seed] 89 (0, 0))

/-- What a step of the source comes to. -/
def NextR (b : Nat) (v : Value) (N : Nat) (lo hi : Int) (w : World) (e : Ending) (w' : World) : Prop := ∃ x : Int, lo ≤ x ∧ x ≤ hi ∧ e = .returned (.int .i64 x) ∧ SrcAt w' b v N ∧ w.grownBy w' (some b)

theorem wrap_u64_bd (x : Int) : 0 ≤ IntKind.u64.wrap x ∧ IntKind.u64.wrap x ≤ 18446744073709551615 := by
  rw [IntKind.wrap_u64]
  omega

theorem and255_bd (a : Int) (h0 : 0 ≤ a) (h1 : a ≤ 18446744073709551615) : 0 ≤ bits .and .u64 a 255 ∧ bits .and .u64 a 255 ≤ 255 := by
  rw [u64_and a 255 h0 (by omega) (by omega) (by omega)]
  have : a.toNat &&& (255 : Int).toNat ≤ (255 : Int).toNat := Nat.and_le_right
  have e : (255 : Int).toNat = 255 := rfl
  omega

theorem src_after {w : World} {b : Nat} {v i s : Value} (hb : w.heap[b]? = some (.cells #[v, i, s] 89 (0, 0))) (k1 k2 : Nat) (i' s' : Value) :
    ((((w.drewN k1).setCell ⟨b, 1, none⟩ i').setCell ⟨b, 2, none⟩ s').drewN k2).heap[b]? = some (.cells #[v, i', s'] 89 (0, 0)) ∧
    w.grownBy ((((w.drewN k1).setCell ⟨b, 1, none⟩ i').setCell ⟨b, 2, none⟩ s').drewN k2) (some b) := by
  have h0 : (w.drewN k1).heap[b]? = some (.cells #[v, i, s] 89 (0, 0)) := hb
  have h1 := heap_setCell_same (w.drewN k1) b 1 _ _ i' h0
  have h2 := heap_setCell_same _ b 2 _ _ s' h1
  refine ⟨h2, ⟨rfl, rfl, rfl, ?_, fun k hk hne => ?_⟩⟩
  · show w.heap.size ≤ ((((w.drewN k1).setCell ⟨b, 1, none⟩ i').setCell ⟨b, 2, none⟩ s')).heap.size
    simp [World.setCell]
  · have hne' : k ≠ b := fun e => hne (by rw [e])
    show ((((w.drewN k1).setCell ⟨b, 1, none⟩ i').setCell ⟨b, 2, none⟩ s')).heap[k]? = _
    rw [heap_setCell_other _ _ _ _ hne', heap_setCell_other _ _ _ _ hne']
    rfl

theorem next_any (b : Nat) (A : Option Addr) (n c N : Nat) (w : World) (hs : SrcAt w b (.slice A n c) N) (hr : RdB w A n b) (hN : N < 1000000000) (hn : n ≤ 1000000) :
    Calls Try.prog 75 #[.pointer (some ⟨b, 0, none⟩)] w (NextR b (.slice A n c) (N + 1) 0 255 w) := by
  obtain ⟨seed, s0, s1, hb⟩ := hs
  have c0 : w.cell? ⟨b, 0, none⟩ = some (.slice A n c) := by rw [cell_of_row w b 0 _ _ _ hb]; rfl
  have c1 : w.cell? ⟨b, 1, none⟩ = some (.int .i64 N) := by rw [cell_of_row w b 1 _ _ _ hb]; rfl
  have c2 : w.cell? ⟨b, 2, none⟩ = some (.int .u64 seed) := by rw [cell_of_row w b 2 _ _ _ hb]; rfl
  have f1 := frozen_of_row w b 1 _ _ hb
  have f2 := frozen_of_row w b 2 _ _ hb
  have HB := Lib.hid hb; clear hb
  by_cases hlt : N < n
  · obtain ⟨g, off, z, rfl, hg, hgb, hz, z0, z1⟩ := hr N hlt
    clear hr
    go_enter Try.func75, Try.ntmps75
    go_wp2_with fail
    go_quiet (fail)
    go_wp2_with fail
    go_quiet (fail)
    go_wp2_with fail
    go_quiet (fail)
    go_wp2
    go_ret
    have h := src_after HB.out
    exact ⟨z, z0, z1, rfl, ⟨_, (wrap_u64_bd _).1, (wrap_u64_bd _).2, (h _ _ _ _).1⟩, (h _ _ _ _).2⟩
  · clear hr
    go_enter Try.func75, Try.ntmps75
    go_wp2_with fail
    go_quiet (fail)
    go_wp2_with fail
    go_quiet (fail)
    have hw := wrap_u64_bd (IntKind.u64.wrap (IntKind.u64.wrap (seed * 6364136223846793005)) + 1442695040888963407)
    go_wp2
    go_ret
    have h := src_after HB.out
    generalize hS : IntKind.u64.wrap (IntKind.u64.wrap (IntKind.u64.wrap (seed * 6364136223846793005)) + 1442695040888963407) = S at *
    have ha := and255_bd (S / 1099511627776) (by omega) (by omega)
    refine ⟨bits .and .u64 (S / 1099511627776) 255, ha.1, ha.2, ?_, ⟨S, hw.1, hw.2, (h _ _ _ _).1⟩, (h _ _ _ _).2⟩
    show Ending.returned (Value.int IntKind.i64 (wrap64 _)) = _
    rw [IntWalk.wrap64_in _ (by omega)]

/-- The slice reads as bytes. -/
def RdC (w : World) (A : Option Addr) (n : Nat) : Prop := ∀ k, k < n → ∃ b off z, A = some ⟨b, off, none⟩ ∧ b < w.heap.size ∧ w.cell? ⟨b, off + k, none⟩ = some (.int .u8 z) ∧ 0 ≤ z ∧ z ≤ 255

theorem from_any (v : Value) (w : World) (A : Option Addr) (n c : Nat) (hv : v = .slice A n c) :
    Calls Try.prog 42 #[v] w fun e w' => e = .returned (.pointer (some ⟨w.heap.size, 0, none⟩)) ∧ w.alloc (.cells #[v, .int .i64 0, .int .u64 0] 89) = w' := by
  subst hv
  go_enter Try.func42, Try.ntmps42
  go_wp2
  go_ret
  exact ⟨rfl, rfl⟩

theorem blk_grown {w w4 : World} {b B : Nat} {o : Obj} (h : w.heap[b]? = some o) (hg : w.grownBy w4 (some B)) (hne : b ≠ B) : w4.heap[b]? = some o := by
  have hlt : b < w.heap.size := by
    rcases Nat.lt_or_ge b w.heap.size with h' | h'
    · exact h'
    · rw [Array.getElem?_eq_none h'] at h; cases h
  rw [hg.block b hlt (fun e => hne (by injection e))]
  exact h

theorem undrew {w w1 : World} {row : Option Nat} (h : w.drew.grownBy w1 row) : w.grownBy w1 row := { os := h.os, tape := h.tape, output := h.output, size := h.size, block := h.block }

/-- A slice of bytes that came in, opened. -/
theorem open_bytes {H : Type} {enc : TypeId × Value → H} {P : Program} {W : World} {r : Reach} {b0 base : Nat} {sp : Nat → Bool} {held : Bool} {t e : TypeId} {v : Value} {d : DataW H} {p : List MemPlace}
    (ht : P.underlying t = some (.slice e)) (he : P.underlying e = some (.int .u8)) (hc : P.cellsOf e = 1) (hv : Value.okWide P W r b0 t v) (hd : DataW.Trod enc P W base sp held t v d p) :
    ∃ A n c, v = .slice A n c ∧ RdC W A n ∧ n ≤ maxLen := by
  obtain ⟨A, n, c, rfl⟩ := okWide_slice ht hv
  obtain ⟨fuel, hf⟩ := hd
  rcases open_ints ht he hc hf with ⟨hcs, _⟩ | ⟨a, l, cap, zs, hcs, _, hl, hm, hz, _, hcell, hwf⟩
  · simp [Value.cells] at hcs
    obtain ⟨rfl, rfl, rfl⟩ := hcs
    exact ⟨_, _, _, rfl, fun k hk => by omega, by omega⟩
  · simp [Value.cells] at hcs
    obtain ⟨rfl, rfl, rfl⟩ := hcs
    refine ⟨_, _, _, rfl, fun k hk => ?_, by omega⟩
    have hlen : n ≤ zs.length := by rw [hz]; split <;> omega
    obtain ⟨b, off, rfl, hc2⟩ := ints_at hcell (by omega)
    have hk2 := hc2 k (by omega)
    have hz2 := bounds_u8 (hwf (zs.getD k 0) (by simp [List.getD, show k < zs.length by omega]))
    exact ⟨b, off, zs.getD k 0, rfl, block_lt_of_cell hk2, hk2, hz2.1, hz2.2⟩

theorem RdC_kept {w w1 : World} {A : Option Addr} {n : Nat} (h : RdC w A n) (hb : Below w.heap.size w w1) : RdC w1 A n := by
  intro k hk
  obtain ⟨b, off, z, e, hlt, hc, z0, z1⟩ := h k hk
  exact ⟨b, off, z, e, Nat.lt_of_lt_of_le hlt hb.size, by rw [kept_cell hb b _ hlt]; exact hc, z0, z1⟩

theorem flat_at {α : Type} {enc : α → List Value} {sz : Nat} (h : ∀ z, (enc z).length = sz) (zs : List α) (k j : Nat) (hk : k < zs.length) (hj : j < sz) : (zs.flatMap enc)[k * sz + j]? = (enc zs[k])[j]? := by
  induction zs generalizing k with
  | nil => simp at hk
  | cons z zs ih =>
    cases k with
    | zero => rw [List.flatMap_cons, List.getElem?_append_left (by rw [h]; omega)]; simp
    | succ k =>
      have e : (k + 1) * sz + j - (enc z).length = k * sz + j := by rw [h, Nat.add_mul]; omega
      rw [List.flatMap_cons, List.getElem?_append_right (by rw [h, Nat.add_mul]; omega), e, ih k (by simpa using hk)]
      simp

/-- The slice value reads as n elements of sz cells each, cell for cell. -/
def RdF (w : World) (v : Value) (n sz : Nat) (xs : List Value) : Prop :=
  n ≤ 9223372036854775807 ∧ xs.length = n * sz ∧ ∃ A c, v = .slice A n c ∧ ∀ i, i < n * sz → ∃ b off, A = some ⟨b, off, none⟩ ∧ b < w.heap.size ∧ w.cell? ⟨b, off + i, none⟩ = xs[i]?

theorem RdF_kept {W w1 : World} {v : Value} {n sz : Nat} {xs : List Value} (h : RdF W v n sz xs) (hb : Below W.heap.size W w1) : RdF w1 v n sz xs := by
  obtain ⟨hl, hx, A, c, rfl, hr⟩ := h
  refine ⟨hl, hx, A, c, rfl, fun k hk => ?_⟩
  obtain ⟨b, off, e, hlt, hc⟩ := hr k hk
  exact ⟨b, off, e, Nat.lt_of_lt_of_le hlt hb.size, by rw [kept_cell hb b _ hlt]; exact hc⟩

/-- A row of elements of the call's own (type e, sz cells each), in a block from lo on and below hi. -/
def RowF (e sz : Nat) (w : World) (lo hi : Nat) (v : Value) (n : Nat) (xs : List Value) : Prop :=
  w.ownsRow lo e sz v n xs ∧ ∀ g, v.ownBlock = some g → lo ≤ g ∧ g < hi

theorem RowF_form {e sz : Nat} {w : World} {lo hi : Nat} {v : Value} {n : Nat} {xs : List Value} (h : RowF e sz w lo hi v n xs) :
    (n = 0 ∧ xs = [] ∧ v = .slice none 0 0) ∨ ∃ g cap, v = .slice (some ⟨g, 0, none⟩) n cap ∧ lo ≤ g ∧ g < hi ∧ g < w.heap.size ∧ n ≤ cap ∧ cap ≤ maxLen := by
  rcases h.1.2 with ⟨h1, h2⟩ | ⟨g, cap, cur, rfl, hg, hh, h3, h4, _⟩
  · exact Or.inl ⟨h2, List.eq_nil_of_length_eq_zero (by rw [h.1.1, h2, Nat.zero_mul]), h1⟩
  · exact Or.inr ⟨g, cap, rfl, hg, (h.2 g rfl).2, (h.1.lt g rfl).2, h3, h4⟩

theorem RowF_rd {e sz : Nat} {w : World} {lo hi : Nat} {v : Value} {n : Nat} {xs : List Value} (h : RowF e sz w lo hi v n xs) : RdF w v n sz xs := by
  rcases RowF_form h with ⟨rfl, rfl, rfl⟩ | ⟨g, cap, rfl, _, _, hlt, h3, h4⟩
  · exact ⟨by simp, by simp, none, 0, rfl, fun k hk => by simp at hk⟩
  · unfold maxLen at h4
    refine ⟨by omega, h.1.1, some ⟨g, 0, none⟩, cap, rfl, fun k hk => ⟨g, 0, rfl, hlt, ?_⟩⟩
    rw [Nat.zero_add, h.1.cellAt k hk]

theorem RowF_kept {e sz : Nat} {W w1 : World} {lo hi : Nat} {v : Value} {n : Nat} {xs : List Value} (h : RowF e sz W lo hi v n xs) (hb : Below W.heap.size W w1) : RowF e sz w1 lo hi v n xs := ⟨own_kept h.1 hb, h.2⟩

theorem RowF_far {e sz : Nat} {W w1 : World} {lo hi : Nat} {v : Value} {n : Nat} {xs : List Value} {row : Option Nat} (h : RowF e sz W lo hi v n xs) (hg : W.grownBy w1 row) (hr : ∀ g, row = some g → g < lo ∨ hi ≤ g) : RowF e sz w1 lo hi v n xs := by
  refine ⟨h.1.kept hg ?_, h.2⟩
  rcases hv : v.ownBlock with _ | g
  · exact Or.inl rfl
  · refine Or.inr (fun e => ?_)
    have h1 := h.2 g hv
    have h2 := hr g e.symm
    omega

theorem RowF_lo {e sz : Nat} {w : World} {lo lo' hi hi' : Nat} {v : Value} {n : Nat} {xs : List Value} (h : RowF e sz w lo hi v n xs) (hl : lo' ≤ lo) (hh : hi ≤ hi') : RowF e sz w lo' hi' v n xs :=
  ⟨Joins.ownsRow_le h.1 hl, fun g hg => ⟨by have := (h.2 g hg).1; omega, by have := (h.2 g hg).2; omega⟩⟩

/-- A quotient, rounded up. -/
def upL (n d : Int) : Int := (n + d - 1) / d

theorem mul_bd (a b p q : Int) (h1 : 0 ≤ a ∧ a ≤ p) (h2 : 0 ≤ b ∧ b ≤ q) : 0 ≤ a * b ∧ a * b ≤ p * q :=
  ⟨Int.mul_nonneg h1.1 h2.1, Int.mul_le_mul h1.2 h2.2 h2.1 (by omega)⟩

theorem specUp_any (n d : Int) (h1 : 0 ≤ n ∧ n ≤ 1000000000) (h2 : 1 ≤ d ∧ d ≤ 1000000) (w : World) :
    Calls Try.prog 82 #[.int .i64 n, .int .i64 d] w fun e w' => e = .returned (.int .i64 (upL n d)) ∧ w = w' := by
  have e : (n + d - 1).tdiv d = upL n d := by rw [upL, Int.tdiv_eq_ediv_of_nonneg (by omega)]
  have hd : (d == 0) = false := by simp; omega
  have hd2 : ¬ d = 0 := by omega
  have hd3 : ¬ d = -1 := by omega
  have hb : 0 ≤ upL n d ∧ upL n d ≤ 2000000000 := by
    rw [upL]
    refine ⟨Int.ediv_nonneg (by omega) (by omega), ?_⟩
    have := Int.ediv_le_self (a := n + d - 1) d (by omega)
    omega
  generalize upL n d = q at *
  go_enter Try.func82, Try.ntmps82
  go_wp2
  go_ret
  exact ⟨by first | rfl | rw [e], rfl⟩

theorem implUp_any (n d : Int) (h1 : 0 ≤ n ∧ n ≤ 1000000000) (h2 : 1 ≤ d ∧ d ≤ 1000000) (w : World) :
    Calls Try.prog 67 #[.int .i64 n, .int .i64 d] w fun e w' => e = .returned (.int .i64 (upL n d)) ∧ w = w' := by
  have e : (n + d - 1).tdiv d = upL n d := by rw [upL, Int.tdiv_eq_ediv_of_nonneg (by omega)]
  have hd : (d == 0) = false := by simp; omega
  have hd2 : ¬ d = 0 := by omega
  have hd3 : ¬ d = -1 := by omega
  have hb : 0 ≤ upL n d ∧ upL n d ≤ 2000000000 := by
    rw [upL]
    refine ⟨Int.ediv_nonneg (by omega) (by omega), ?_⟩
    have := Int.ediv_le_self (a := n + d - 1) d (by omega)
    omega
  generalize upL n d = q at *
  go_enter Try.func67, Try.ntmps67
  go_wp2
  go_ret
  exact ⟨by first | rfl | rw [e], rfl⟩

theorem max_any (a b : Int) (w : World) :
    Calls Try.prog 93 #[.int .i64 a, .int .i64 b] w fun e w' => e = .returned (.int .i64 (max a b)) ∧ w = w' := by
  by_cases h : b < a
  · rw [show max a b = a by omega]
    go_enter Try.func93, Try.ntmps93
    go_wp2
    go_ret
    exact ⟨rfl, rfl⟩
  · rw [show max a b = b by omega]
    go_enter Try.func93, Try.ntmps93
    go_wp2
    go_ret
    exact ⟨rfl, rfl⟩

theorem isNaN_any (x : Int) (w : World) : Calls Try.prog 81 #[.int .i64 x] w fun e w' => e = .returned (.bool false) ∧ w = w' := by
  go_enter Try.func81, Try.ntmps81
  go_wp2
  go_ret
  exact ⟨by simp, rfl⟩

/-- cmp.Compare at whole numbers. -/
theorem compare_any (x y : Int) (w : World) :
    Calls Try.prog 58 #[.int .i64 x, .int .i64 y] w fun e w' => e = .returned (.int .i64 (if x < y then -1 else if y < x then 1 else 0)) ∧ w = w' := by
  by_cases h1 : x < y
  · rw [if_pos h1]
    go_enter Try.func58, Try.ntmps58
    go_wp2_with fail
    refine (isNaN_any x w).mono ?_
    rintro e w' ⟨rfl, rfl⟩
    go_wp2_with fail
    refine (isNaN_any y w).mono ?_
    rintro e w' ⟨rfl, rfl⟩
    go_wp2
    go_ret
    exact ⟨rfl, rfl⟩
  · by_cases h2 : y < x
    · rw [if_neg h1, if_pos h2]
      go_enter Try.func58, Try.ntmps58
      go_wp2_with fail
      refine (isNaN_any x w).mono ?_
      rintro e w' ⟨rfl, rfl⟩
      go_wp2_with fail
      refine (isNaN_any y w).mono ?_
      rintro e w' ⟨rfl, rfl⟩
      go_wp2
      go_ret
      exact ⟨rfl, rfl⟩
    · rw [if_neg h1, if_neg h2]
      go_enter Try.func58, Try.ntmps58
      go_wp2_with fail
      refine (isNaN_any x w).mono ?_
      rintro e w' ⟨rfl, rfl⟩
      go_wp2_with fail
      refine (isNaN_any y w).mono ?_
      rintro e w' ⟨rfl, rfl⟩
      go_wp2
      go_ret
      exact ⟨rfl, rfl⟩

theorem min_any (x y : Int) (w : World) :
    Calls Try.prog 92 #[.int .i64 x, .int .i64 y] w fun e w' => e = .returned (.int .i64 (min x y)) ∧ w = w' := by
  by_cases h : x < y
  · rw [show min x y = x by omega]
    go_enter Try.func92, Try.ntmps92
    go_wp2
    go_ret
    exact ⟨rfl, rfl⟩
  · rw [show min x y = y by omega]
    go_enter Try.func92, Try.ntmps92
    go_wp2
    go_ret
    exact ⟨rfl, rfl⟩

/-- The first place at which p holds; -1 if there is none. -/
def idxL {α : Type} (p : α → Bool) (zs : List α) : Int := if zs.findIdx p < zs.length then (zs.findIdx p : Int) else -1

theorem idxL_is {α : Type} {p : α → Bool} {zs : List α} {k : Nat} (h : k < zs.length) (hk : p zs[k] = true) (hb : ∀ j (hj : j < zs.length), j < k → p zs[j] = false) : idxL p zs = (k : Int) := by
  unfold idxL
  have e : zs.findIdx p = k := by
    rw [List.findIdx_eq h]
    exact ⟨hk, fun j hj => hb j (by omega) hj⟩
  rw [e, if_pos h]

theorem idxL_none {α : Type} {p : α → Bool} {zs : List α} (hb : ∀ j (hj : j < zs.length), p zs[j] = false) : idxL p zs = -1 := by
  unfold idxL
  have e : zs.findIdx p = zs.length := by
    rw [List.findIdx_eq_length]
    intro x hx
    obtain ⟨i, hi, rfl⟩ := List.mem_iff_getElem.1 hx
    exact hb i hi
  rw [e, if_neg (by omega)]

theorem idxL_any {α : Type} (p : α → Bool) (zs : List α) : decide (0 ≤ idxL p zs) = zs.any p := by
  unfold idxL
  by_cases h : zs.findIdx p < zs.length
  · rw [if_pos h]
    have := List.findIdx_lt_length.1 h
    simp
    obtain ⟨x, hx, hp⟩ := this
    exact ⟨x, hx, hp⟩
  · rw [if_neg h]
    have : ¬ ∃ x ∈ zs, p x = true := fun hx => h (List.findIdx_lt_length.2 hx)
    simp at this ⊢
    exact this

theorem idxL_bd {α : Type} (p : α → Bool) (zs : List α) : -1 ≤ idxL p zs ∧ idxL p zs ≤ zs.length := by
  unfold idxL
  split <;> omega

/-- The indices below n that are wanted. -/
def idxsL (p : Nat → Bool) : Nat → List Int
  | 0 => []
  | n + 1 => if p n then idxsL p n ++ [(n : Int)] else idxsL p n

theorem idxsL_len (p : Nat → Bool) (n : Nat) : (idxsL p n).length ≤ n := by
  induction n with
  | zero => simp [idxsL]
  | succ n ih =>
    unfold idxsL
    split
    · simp; omega
    · omega

theorem RowI_lo {w : World} {lo lo' hi hi' : Nat} {v : Value} {zs : List Int} (h : RowI w lo hi v zs) (hl : lo' ≤ lo) (hh : hi ≤ hi') : RowI w lo' hi' v zs :=
  ⟨Joins.ownsRow_le h.1 hl, fun g hg => ⟨by have := (h.2 g hg).1; omega, by have := (h.2 g hg).2; omega⟩⟩

theorem RowI_new (w : World) : RowI (w.alloc (.cells #[] 2)) w.heap.size (w.alloc (.cells #[] 2)).heap.size (.slice (some ⟨w.heap.size, 0, none⟩) 0 0) [] :=
  ⟨World.ownsRow_lit w #[] 0 (Nat.le_refl _) (by decide) (by rfl), fun g hg => by simp [Value.ownBlock] at hg; subst hg; simp⟩

theorem info_intJ : (Try.prog.info? 3).map (fun i => (i.zero, i.size, i.bytes)) = some (some (.int .i64 0), 1, 8) := by kernel_rfl

/-- A row of numbers of the call's own, in a block from lo on and below hi. -/
def RowJ (w : World) (lo hi : Nat) (v : Value) (zs : List Int) : Prop :=
  w.ownsRow lo 3 1 v zs.length (zs.map (Value.int .i64)) ∧ ∀ g, v.ownBlock = some g → lo ≤ g ∧ g < hi

theorem RowJ_form {w : World} {lo hi : Nat} {v : Value} {zs : List Int} (h : RowJ w lo hi v zs) :
    (zs = [] ∧ v = .slice none 0 0) ∨ ∃ g cap, v = .slice (some ⟨g, 0, none⟩) zs.length cap ∧ lo ≤ g ∧ g < hi ∧ g < w.heap.size ∧ zs.length ≤ cap ∧ cap ≤ maxLen := by
  rcases h.1.2 with ⟨h1, h2⟩ | ⟨g, cap, cur, rfl, hg, hh, h3, h4, _⟩
  · exact Or.inl ⟨List.eq_nil_of_length_eq_zero h2, h1⟩
  · exact Or.inr ⟨g, cap, rfl, hg, (h.2 g rfl).2, (h.1.lt g rfl).2, h3, h4⟩

theorem RowJ_rd {w : World} {lo hi : Nat} {v : Value} {zs : List Int} (h : RowJ w lo hi v zs) : RdI w v zs := by
  rcases RowJ_form h with ⟨rfl, rfl⟩ | ⟨g, cap, rfl, _, _, hlt, h3, h4⟩
  · exact ⟨by simp, none, 0, rfl, fun k hk => by simp at hk⟩
  · unfold maxLen at h4
    refine ⟨by omega, some ⟨g, 0, none⟩, cap, rfl, fun k hk => ⟨g, 0, rfl, hlt, ?_⟩⟩
    rw [Nat.zero_add, h.1.cellAt k (by simpa using hk)]
    simp [hk]

theorem RowJ_kept {W w1 : World} {lo hi : Nat} {v : Value} {zs : List Int} (h : RowJ W lo hi v zs) (hb : Below W.heap.size W w1) : RowJ w1 lo hi v zs := ⟨own_kept h.1 hb, h.2⟩

/-- append of one number to a row of the call's own. -/
theorem wp_appendJ {ops : Array Oper} {rest : List Oper} {o : Oper} {a : Act} {Q : Exit → Act → World → Prop} {W wr : World} (hgd : o.guard = none) (s x : Operand)
    (ho : o.op = .call { callee := .builtin .append, args := #[s, x], argTypes := #[67, 67] })
    (lo : Nat) (v : Value) (zs : List Int) (z : Int) (hs : a.eval s = v) (hrow : RowJ wr lo wr.heap.size v zs) (hx : a.eval x = .slice (some ⟨wr.heap.size, 0, none⟩) 1 1)
    (hW : Below W.heap.size W wr) (hlo : W.heap.size ≤ lo) (hlo2 : lo ≤ wr.heap.size) (hn : zs.length < 17592186044416)
    (h : ∀ v' w', RowJ w' lo w'.heap.size v' (zs ++ [z]) → Below W.heap.size W w' → wr.heap.size ≤ w'.heap.size → wpList Try.prog ops Q rest (a.put o.dst v') w') :
    wpList Try.prog ops Q (o :: rest) a (wr.alloc (.cells #[.int .i64 z] 3)) := by
  obtain ⟨i0, hi, hz0, hz1, hz2⟩ := info_parts info_intJ
  refine wpList_append_own _ hgd s x _ ho lo 3 i0 (.int .i64 0) 1 8 Try.underlying67 hi hz0 hz1 hz2 rfl (by decide) v zs.length _ hs (hrow.1.alloc _) ⟨wr.heap.size, 0, none⟩ 1 1 [.int .i64 z] hx rfl ?_ ?_ ?_ ?_ ?_ ?_
  · intro j u hj
    cases j with
    | zero => simp at hj; subst hj; simp [Addr.add]
    | succ j => simp at hj
  · intro u hu; simp at hu; subst hu; rfl
  · unfold maxLen; omega
  · omega
  · simp; omega
  · intro v' w' hown hg _
    have e : (zs.map (Value.int .i64) ++ [.int .i64 z]) = (zs ++ [z]).map (Value.int .i64) := by simp
    rw [e] at hown
    have hrow' : RowJ w' lo w'.heap.size v' (zs ++ [z]) := ⟨by simpa using hown, hown.lt⟩
    refine h v' w' hrow' ?_ (Nat.le_trans (by simp) hg.size)
    refine grown_below (hW.alloc hW.size _) hg (fun g hg2 => ?_)
    have := (hrow.2 g hg2).1
    omega

theorem RowJ_lo {w : World} {lo lo' hi hi' : Nat} {v : Value} {zs : List Int} (h : RowJ w lo hi v zs) (hl : lo' ≤ lo) (hh : hi ≤ hi') : RowJ w lo' hi' v zs :=
  ⟨Joins.ownsRow_le h.1 hl, fun g hg => ⟨by have := (h.2 g hg).1; omega, by have := (h.2 g hg).2; omega⟩⟩

theorem RowJ_new (w : World) : RowJ (w.alloc (.cells #[] 3)) w.heap.size (w.alloc (.cells #[] 3)).heap.size (.slice (some ⟨w.heap.size, 0, none⟩) 0 0) [] :=
  ⟨World.ownsRow_lit w #[] 0 (Nat.le_refl _) (by decide) (by rfl), fun g hg => by simp [Value.ownBlock] at hg; subst hg; simp⟩

/-- A moment without its sign. -/
def tiltL (n : Int) : Int := max n (-n)

/-- The code of a base and of what is told about the other arguments. -/
def codeL3 (B : Bool) (bs : List Bool) : Int := if B then (if bs.all id then 0 else 2) else 1

theorem codeL3_ok {B : Bool} {bs : List Bool} (h : codeL3 B bs = 0) : B = true ∧ ∀ x ∈ bs, x = true := by
  unfold codeL3 at h
  cases B
  · simp at h
  · cases hb : bs.all id
    · rw [hb] at h; simp at h
    · exact ⟨rfl, fun x hx => by have := List.all_eq_true.1 hb x hx; simpa using this⟩

theorem specSize_any (n : Int) (h : -1000000000000000000 ≤ n ∧ n ≤ 1000000000000000000) (w : World) :
    Calls Try.prog 91 #[.int .i64 n] w fun e w' => e = .returned (.int .i64 (tiltL n)) ∧ w = w' := by
  unfold tiltL
  go_enter Try.func91, Try.ntmps91
  go_wp2_with (go_at_call 93; refine (max_any _ _ _).mono ?_; rintro e w1 ⟨rfl, rfl⟩)
  go_ret
  exact ⟨rfl, rfl⟩

theorem tilt_abs (n : Int) : tiltL n = (n.natAbs : Int) := by unfold tiltL; omega

/-- A fraction in lowest terms. -/
def lowL (n d : Int) : Int × Int := (n.tdiv (Nat.gcd n.natAbs d.natAbs : Nat), d.tdiv (Nat.gcd n.natAbs d.natAbs : Nat))

theorem tdiv_bd (n : Int) (g : Nat) (k : Int) (h : -k ≤ n ∧ n ≤ k) : -k ≤ n.tdiv g ∧ n.tdiv g ≤ k := by
  have := Int.natAbs_tdiv n g
  have h2 := Nat.div_le_self n.natAbs (g : Int).natAbs
  have h3 : (n.tdiv g).natAbs ≤ n.natAbs := by rw [this]; exact h2
  omega

theorem gcd_pos' (n d : Int) (hd : 0 < d) : 0 < Nat.gcd n.natAbs d.natAbs := Nat.gcd_pos_of_pos_right _ (by omega)

theorem gcd_step (x y : Nat) : Nat.gcd y (x % y) = Nat.gcd x y := by rw [Nat.gcd_comm x y, Nat.gcd_rec y x, Nat.gcd_comm]

theorem specGcd_any (x y : Nat) (hx : x ≤ 9000000000000000000) (hy : y ≤ 9000000000000000000) (w : World) :
    Calls Try.prog 90 #[.int .i64 x, .int .i64 y] w fun e w' => e = .returned (.int .i64 (Nat.gcd x y : Nat)) ∧ Below w.heap.size w w' := by
  have HE := Lib.hid (rfl : Nat.gcd x y = Nat.gcd x y)
  generalize hG : Nat.gcd x y = G at *
  have HG := Lib.hid hG; clear hG HE
  go_enter Try.func90, Try.ntmps90
  go_wp2_with fail
  go_loopw [0, 1] (fun u v wr => ∃ a b : Nat, a ≤ 9000000000000000000 ∧ b ≤ 9000000000000000000 ∧ u = .int .i64 a ∧ v = .int .i64 b ∧ Nat.gcd a b = G ∧ Below w.heap.size w wr) (fun _ v _ => (intOf v).toNat)
  case atStart => exact ⟨x, y, hx, hy, rfl, rfl, HG.out, Below.refl _ _⟩
  case round =>
    obtain ⟨a, b, ha, hb0, rfl, rfl, hgab, hb⟩ := hrel
    by_cases hz : b = 0
    · subst hz
      rw [Nat.gcd_zero_right] at hgab
      subst hgab
      go_wp2
      go_ret
      exact ⟨rfl, hb⟩
    · have b0 : ((b : Int) == 0) = false := by simp; omega
      have b1 : ¬ (b : Int) = 0 := by omega
      have b2 : ¬ (b : Int) = -1 := by omega
      have b3 : ((b : Int) != 0) = true := by simp; omega
      have b4 : decide (0 < b) = true := by simp; omega
      have e1 : (a : Int).tmod (b : Int) = ((a % b : Nat) : Int) := by rw [Int.tmod_eq_emod_of_nonneg (by omega)]; rfl
      have hlt := Nat.mod_lt a (show 0 < b by omega)
      have hgs := gcd_step a b
      rw [hgab] at hgs
      have HGS := Lib.hid hgs; clear hgs
      have hw1 : IntKind.i64.wrap ((a % b : Nat) : Int) = ((a % b : Nat) : Int) := IntWalk.i64_in _ (by omega)
      generalize a % b = t at *
      go_wp2_with fail
      go_quiet (fail)
      go_wp2
      go_roundw
      case rel => exact ⟨b, t, hb0, by omega, by go_num, by simp [e1], HGS.out, kept_drewN hb _⟩
      case measure => simp [intOf, e1]; omega

theorem RdI_of (w : World) (g c : Nat) (zs : List Int) (hl : zs.length ≤ 9223372036854775807) (hg : g < w.heap.size) (hc : ∀ k, (hk : k < zs.length) → w.cell? ⟨g, k, none⟩ = some (.int .i64 zs[k])) : RdI w (.slice (some ⟨g, 0, none⟩) zs.length c) zs :=
  ⟨hl, _, _, rfl, fun k hk => ⟨g, 0, rfl, hg, by rw [Nat.zero_add]; exact hc k hk⟩⟩

theorem rdI1 {w : World} {g c : Nat} {x : Int} (hg : g < w.heap.size) (h0 : w.cell? ⟨g, 0, none⟩ = some (.int .i64 x)) : RdI w (.slice (some ⟨g, 0, none⟩) 1 c) [x] :=
  RdI_of w g c [x] (by simp) hg (fun k hk => by simp at hk; subst hk; exact h0)

set_option maxRecDepth 100000 in
theorem indexFuncI_any (v : Value) (zs : List Int) (g : FuncId) (he : Enters Try.prog g) (cap : Array Value) (p : Int → Bool) (w : World) (h : RdI w v zs)
    (hf : ∀ k (hk : k < zs.length) w1, Below w.heap.size w w1 → Calls Try.prog g (#[.int .i64 zs[k]] ++ cap) w1 fun e w2 => e = .returned (.bool (p zs[k])) ∧ Below w1.heap.size w1 w2) :
    Calls Try.prog 89 #[v, .func (.func g) #[] cap] w fun e w' => e = .returned (.int .i64 (idxL p zs)) ∧ Below w.heap.size w w' := by
  obtain ⟨hl, A, c, rfl, r1⟩ := h
  have R := Lib.hid r1; clear r1
  have Hf := Lib.hid hf; clear hf
  have HIS := Lib.hid (fun k (h : k < zs.length) => @idxL_is _ p zs k h)
  have HNO := Lib.hid (@idxL_none _ p zs)
  generalize idxL p zs = G at *
  go_enter Try.func89, Try.ntmps89
  go_wp2_with fail
  go_loopw [8] (fun i wr => ∃ k : Nat, k ≤ zs.length ∧ i = .int .i64 k ∧ (∀ j (hj : j < zs.length), j < k → p zs[j] = false) ∧ Below w.heap.size w wr) (fun i _ => zs.length - (intOf i).toNat)
  case atStart => exact ⟨0, by omega, rfl, fun j _ h => by omega, Below.refl _ _⟩
  case round =>
    obtain ⟨k, hk, rfl, hall, hb⟩ := hrel
    by_cases hlt : k < zs.length
    · obtain ⟨b, off, rfl, hbl, hc0⟩ := R.out k hlt
      rw [← kept_cell hb b _ hbl] at hc0
      have hc := Hf.out k hlt wr hb
      cases hp : p zs[k]
      · have hnx : ∀ j (hj : j < zs.length), j < k + 1 → p zs[j] = false := fun j hj hjk => by
          rcases Nat.lt_or_ge j k with h1 | h1
          · exact hall j hj h1
          · obtain rfl : j = k := by omega
            exact hp
        rw [hp] at hc
        have HNX := Lib.hid hnx; clear hnx hall hp
        have Hc := Lib.hid hc; clear hc
        generalize zs[k] = x at *
        go_wp2_with fail
        rw [he, Oper.upon_enter]
        refine Hc.out.mono ?_
        rintro e w1 ⟨rfl, hb1⟩
        go_wp2
        go_roundw
        case rel => exact ⟨k + 1, by omega, by go_num, HNX.out, kept_trans hb hb1⟩
        case measure => simp [intOf]; omega
      · have hE := HIS.out k hlt hp hall
        subst hE
        rw [hp] at hc
        have Hc := Lib.hid hc; clear hc hall hp
        generalize zs[k] = x at *
        go_wp2_with fail
        rw [he, Oper.upon_enter]
        refine Hc.out.mono ?_
        rintro e w1 ⟨rfl, hb1⟩
        go_wp2
        go_ret
        exact ⟨rfl, kept_trans hb hb1⟩
    · have : k = zs.length := by omega
      subst this
      have hE := HNO.out (fun j hj => hall j hj hj)
      clear hall
      subst hE
      go_wp2
      go_ret
      exact ⟨rfl, hb⟩

theorem containsFuncI_any (v : Value) (zs : List Int) (g : FuncId) (he : Enters Try.prog g) (cap : Array Value) (p : Int → Bool) (w : World) (h : RdI w v zs)
    (hf : ∀ k (hk : k < zs.length) w1, Below w.heap.size w w1 → Calls Try.prog g (#[.int .i64 zs[k]] ++ cap) w1 fun e w2 => e = .returned (.bool (p zs[k])) ∧ Below w1.heap.size w1 w2) :
    Calls Try.prog 79 #[v, .func (.func g) #[] cap] w fun e w' => e = .returned (.bool (zs.any p)) ∧ Below w.heap.size w w' := by
  have H := Lib.hid (indexFuncI_any v zs g he cap p w h hf)
  obtain ⟨hl, A, c, rfl, r1⟩ := h
  clear hf r1
  have hbd := idxL_bd p zs
  rw [← idxL_any]
  generalize idxL p zs = G at *
  go_enter Try.func79, Try.ntmps79
  go_wp2_with fail
  refine H.out.mono ?_
  rintro e w1 ⟨rfl, hb1⟩
  go_wp2
  go_ret
  exact ⟨rfl, hb1⟩

theorem outside_any (n lo hi : Int) (b1 b2 : Nat) (w : World) (h1 : w.cell? ⟨b1, 0, none⟩ = some (.int .i64 lo)) (h2 : w.cell? ⟨b2, 0, none⟩ = some (.int .i64 hi)) :
    Calls Try.prog 80 #[.int .i64 n, .pointer (some ⟨b1, 0, none⟩), .pointer (some ⟨b2, 0, none⟩)] w fun e w' => e = .returned (.bool (!inB n lo hi)) ∧ Below w.heap.size w w' := by
  unfold inB
  by_cases g1 : lo ≤ n <;> by_cases g2 : n ≤ hi
  all_goals
    go_enter Try.func80, Try.ntmps80
    go_wp2
    go_ret
    exact ⟨by simp [*], Below.refl _ _⟩

theorem within_any (lo hi : Int) (v : Value) (zs : List Int) (w : World) (h : RdI w v zs) :
    Calls Try.prog 53 #[.int .i64 lo, .int .i64 hi, v] w fun e w' => e = .returned (.bool (zs.all fun n => inB n lo hi)) ∧ Below w.heap.size w w' := by
  have hall : (zs.all fun n => inB n lo hi) = !(zs.any fun n => !inB n lo hi) := by simp [List.any_eq_not_all_not]
  rw [hall]
  clear hall
  have HC := Lib.hid (fun u (q : RdI u v zs) b1 b2 (l1 : b1 < u.heap.size) (l2 : b2 < u.heap.size) (c1 : u.cell? ⟨b1, 0, none⟩ = some (.int .i64 lo)) (c2 : u.cell? ⟨b2, 0, none⟩ = some (.int .i64 hi)) =>
    containsFuncI_any v zs 80 (enters_of Try.func80 (by kernel_rfl) rfl) #[.pointer (some ⟨b1, 0, none⟩), .pointer (some ⟨b2, 0, none⟩)] (fun n => !inB n lo hi) u q
      (fun k hk w1 hb => outside_any zs[k] lo hi b1 b2 w1 (by rw [kept_cell hb b1 0 l1]; exact c1) (by rw [kept_cell hb b2 0 l2]; exact c2)))
  obtain ⟨hl, A, c, rfl, r1⟩ := h
  have H := Lib.hid (show RdI w (.slice A zs.length c) zs from ⟨hl, A, c, rfl, r1⟩); clear r1
  generalize (zs.any fun n => !inB n lo hi) = X at *
  have hmf : ∀ (fn : Fn) (first cap : Array Value) (w : World), (Instr.makeFunc fn first cap).run Try.prog w = .ok (.func fn first cap) w := fun _ _ _ _ => rfl
  go_enter Try.func53, Try.ntmps53
  go_wp2_with fail
  refine (HC.out _ (RdI_kept H.out (by go_grown)) w.heap.size (w.heap.size + 1) (by simp; try omega) (by simp) (by simp) (by simp)).mono ?_
  rintro e w1 ⟨rfl, hb1⟩
  have b1 := kept_trans (a := w) (by go_grown) hb1
  go_wp2
  go_ret
  exact ⟨rfl, b1⟩

theorem specMake_any (n d : Int) (hn : -1000000000000000000 ≤ n ∧ n ≤ 1000000000000000000) (hd : 1 ≤ d ∧ d ≤ 1000000000000000000) (w : World) :
    Calls Try.prog 85 #[.int .i64 n, .int .i64 d] w fun e w' => e = .returned (.agg #[.int .i64 (lowL n d).1, .int .i64 (lowL n d).2]) ∧ Below w.heap.size w w' := by
  have hp := gcd_pos' n d (by omega)
  have hle := Nat.gcd_le_right n.natAbs (show 0 < d.natAbs by omega)
  have hq1 := tdiv_bd n (Nat.gcd n.natAbs d.natAbs) 1000000000000000000 hn
  have hq2 := tdiv_bd d (Nat.gcd n.natAbs d.natAbs) 1000000000000000000 (by omega)
  have HA := Lib.hid (fun u => specSize_any n (by omega) u)
  have HG := specGcd_any n.natAbs d.natAbs (by omega) (by omega)
  rw [tilt_abs, show ((d.natAbs : Nat) : Int) = d by omega] at *
  unfold lowL
  generalize Nat.gcd n.natAbs d.natAbs = g at *
  have HG := Lib.hid HG
  have g0 : ((g : Int) == 0) = false := by simp; omega
  have g1 : ¬ (g : Int) = 0 := by omega
  have g2 : ¬ (g : Int) = -1 := by omega
  have w1 : IntKind.i64.wrap (n.tdiv g) = n.tdiv g := IntWalk.i64_in _ (by omega)
  have w2 : IntKind.i64.wrap (d.tdiv g) = d.tdiv g := IntWalk.i64_in _ (by omega)
  generalize hX : n.tdiv g = X at *
  generalize hY : d.tdiv g = Y at *
  have HX := Lib.hid hX; clear hX
  have HY := Lib.hid (show d / (g : Int) = Y by rw [← hY, Int.tdiv_eq_ediv_of_nonneg (by omega)]); clear hY
  go_enter Try.func85, Try.ntmps85
  go_wp2_with fail
  refine (HA.out _).mono ?_
  rintro e w1 ⟨rfl, rfl⟩
  go_wp2_with fail
  refine (HG.out _).mono ?_
  rintro e w2 ⟨rfl, hb2⟩
  refine kept_at hb2 w.heap.size (by go_size) fun c2_0 z2_0 s2_0 => ?_
  have b2 := kept_trans (a := w) (by go_grown) hb2
  go_wp2_with fail
  go_region
  all_goals
    go_wp2
    (try simp only [Exit.inBlock, Exit.then])
    refine bodyPost_ret (v := .agg #[.int .i64 X, .int .i64 Y]) ?_ rfl ⟨rfl, ?_⟩
    · rw [results_cell1 rfl]
      go_simp
      exact ⟨HX.out, HY.out⟩
    · go_grown

theorem mul_ge (a b p q : Int) (h1 : 0 ≤ p ∧ p ≤ a) (h2 : 0 ≤ q ∧ q ≤ b) : p * q ≤ a * b := Int.mul_le_mul h1.2 h2.2 h2.1 (by omega)

theorem four (p0 p1 p2 p3 : Bool) : p0 = false ∨ (p0 = true ∧ p1 = false) ∨ (p0 = true ∧ p1 = true ∧ p2 = false) ∨ (p0 = true ∧ p1 = true ∧ p2 = true ∧ p3 = false) ∨ (p0 = true ∧ p1 = true ∧ p2 = true ∧ p3 = true) := by
  cases p0 <;> cases p1 <;> cases p2 <;> cases p3 <;> simp

theorem validLoad_any (n : Int) (w : World) :
    Calls Try.prog 52 #[.int .i64 n] w fun e w' => e = .returned (.bool (inB n 0 50000)) ∧ Below w.heap.size w w' := by
  have H := fun v u q => within_any 0 50000 v [n] u q
  rw [show ([n].all fun n => inB n 0 50000) = inB n 0 50000 by simp] at H
  have H := Lib.hid H
  generalize inB n 0 50000 = p at *
  go_enter Try.func52, Try.ntmps52
  go_wp2_with fail
  refine (H.out _ _ (rdI1 (by go_size) (by go_simp))).mono ?_
  rintro e w1 ⟨rfl, hb1⟩
  have b1 := kept_trans (a := w) (by go_grown) hb1
  go_wp2
  go_ret
  exact ⟨rfl, b1⟩

theorem below_grown {u v : World} (h : Below u.heap.size u v) (row : Option Nat) : u.grownBy v row := ⟨h.os, h.tape, h.output, h.size, fun i hi _ => h.block i hi⟩

/-- A source of choices in block B, its bytes in a block before L, at most N bytes on. -/
def Src (w : World) (L B N : Nat) : Prop := L ≤ B ∧ ∃ A n c, (∀ k, k < n → ∃ b off z, A = some ⟨b, off, none⟩ ∧ b < L ∧ b < w.heap.size ∧ w.cell? ⟨b, off + k, none⟩ = some (.int .u8 z) ∧ 0 ≤ z ∧ z ≤ 255) ∧ n ≤ 1000000 ∧ ∃ M, M ≤ N ∧ SrcAt w B (.slice A n c) M

theorem Src_lt {w : World} {L B N : Nat} (h : Src w L B N) : B < w.heap.size := by
  obtain ⟨_, A, n, c, _, _, M, _, s, _, _, hb⟩ := h
  exact World.block_lt_of_cell? _ _ (cell_of_row w B 1 _ _ _ hb)

theorem Src_grown {w w1 : World} {L B N : Nat} {row : Option Nat} (h : Src w L B N) (hg : w.grownBy w1 row) (hr : ∀ g, row = some g → L ≤ g ∧ g ≠ B) : Src w1 L B N := by
  have hB := Src_lt h
  obtain ⟨hL, A, n, c, hr0, hn, M, hM, s, s0, s1, hb⟩ := h
  refine ⟨hL, A, n, c, fun k hk => ?_, hn, M, hM, s, s0, s1, ?_⟩
  · obtain ⟨b, off, z, e, hlt, hlw, hc, z0, z1⟩ := hr0 k hk
    exact ⟨b, off, z, e, hlt, Nat.lt_of_lt_of_le hlw hg.size, hg.cell hc (fun e => by have := hr b e.symm; omega), z0, z1⟩
  · rw [hg.block B hB (fun e => (hr B e.symm).2 rfl)]
    exact hb

theorem Src_below {w w1 : World} {L B N : Nat} (h : Src w L B N) (hb : Below w.heap.size w w1) : Src w1 L B N := Src_grown h (below_grown hb none) (fun g hg => by cases hg)

theorem Src_set {w : World} {L B N p o : Nat} {v : Value} (h : Src w L B N) (h1 : L ≤ p) (h2 : p ≠ B) : Src (w.setCell ⟨p, o, none⟩ v) L B N := Src_grown h (grown_set _ _ _) (fun g hg => by injection hg with hg; subst hg; exact ⟨h1, h2⟩)

theorem Src_more {w : World} {L B N K : Nat} (h : Src w L B N) (hk : N ≤ K) : Src w L B K := by
  obtain ⟨hL, A, n, c, hr0, hn, M, hM, r⟩ := h
  exact ⟨hL, A, n, c, hr0, hn, M, by omega, r⟩

theorem nextS_any (L B N : Nat) (w : World) (h : Src w L B N) (hN : N < 900000000) :
    Calls Try.prog 75 #[.pointer (some ⟨B, 0, none⟩)] w fun e w' => ∃ x : Int, (0 ≤ x ∧ x ≤ 255) ∧ e = .returned (.int .i64 x) ∧ Src w' L B (N + 1) ∧ w.grownBy w' (some B) := by
  obtain ⟨hL, A, n, c, hr0, hn, M, hM, hs⟩ := h
  have hrb : RdB w A n B := fun k hk => by
    obtain ⟨b, off, z, e, hlt, hlw, hc, z0, z1⟩ := hr0 k hk
    exact ⟨b, off, z, e, hlw, by omega, hc, z0, z1⟩
  refine (next_any B A n c M w hs hrb (by omega) hn).mono ?_
  rintro e w' ⟨x, x0, x1, rfl, hs', hg⟩
  refine ⟨x, ⟨x0, x1⟩, rfl, ⟨hL, A, n, c, fun k hk => ?_, hn, M + 1, by omega, hs'⟩, hg⟩
  obtain ⟨b, off, z, e, hlt, hlw, hc, z0, z1⟩ := hr0 k hk
  exact ⟨b, off, z, e, hlt, Nat.lt_of_lt_of_le hlw hg.size, hg.cell hc (fun e => (show b ≠ B by omega) (by injection e)), z0, z1⟩

theorem pickS_any (L B N : Nat) (m : Int) (w : World) (h : Src w L B N) (hN : N < 800000000) (hm : -1000000 ≤ m ∧ m ≤ 1000000) :
    Calls Try.prog 43 #[.pointer (some ⟨B, 0, none⟩), .int .i64 m] w fun e w' => ∃ x : Int, (0 ≤ x ∧ x ≤ 1000000 ∧ (1 ≤ m → x < m)) ∧ e = .returned (.int .i64 x) ∧ Src w' L B (N + 2) ∧ w.grownBy w' (some B) := by
  by_cases h1 : m ≤ 1
  · go_enter Try.func43, Try.ntmps43
    go_wp2
    go_ret
    exact ⟨0, by omega, rfl, Src_more h (by omega), World.grownBy.refl _ _⟩
  have hne : (m == 0) = false := by simp; omega
  have hm0 : ¬ m = 0 := by omega
  have hm1 : ¬ m = -1 := by omega
  by_cases h2 : 200 < m
  · have H := Lib.hid h; clear h
    go_enter Try.func43, Try.ntmps43
    go_wp2_with fail
    refine (nextS_any L B N _ H.out (by omega)).mono ?_
    rintro e w1 ⟨x, hx, rfl, hs1, hg1⟩
    have HS1 := Lib.hid hs1; clear hs1
    go_wp2_with fail
    refine (nextS_any L B (N + 1) _ HS1.out (by omega)).mono ?_
    rintro e w2 ⟨y, hy, rfl, hs2, hg2⟩
    have hrem : (x * 256 + y).tmod m = (x * 256 + y) % m := tmod_pos _ _ (by omega)
    have h0 := Int.emod_nonneg (x * 256 + y) hm0
    have h1' := Int.emod_lt_of_pos (x * 256 + y) (show 0 < m by omega)
    have HREM := Lib.hid hrem; clear hrem
    have HS2 := Lib.hid hs2; clear hs2
    go_wp2
    go_ret
    refine ⟨(x * 256 + y) % m, ⟨h0, by omega, fun _ => h1'⟩, ?_, HS2.out, grown_step hg1 hg2⟩
    first | rfl | (show Ending.returned _ = _; simp [HREM.out])
  · have H := Lib.hid h; clear h
    go_enter Try.func43, Try.ntmps43
    go_wp2_with fail
    refine (nextS_any L B N _ H.out (by omega)).mono ?_
    rintro e w1 ⟨x, hx, rfl, hs1, hg1⟩
    have hrem : x.tmod m = x % m := tmod_pos _ _ (by omega)
    have h0 := Int.emod_nonneg x hm0
    have h1' := Int.emod_lt_of_pos x (show 0 < m by omega)
    have HREM := Lib.hid hrem; clear hrem
    have HS1 := Lib.hid hs1; clear hs1
    go_wp2
    go_ret
    refine ⟨x % m, ⟨h0, by omega, fun _ => h1'⟩, ?_, Src_more HS1.out (by omega), hg1⟩
    first | rfl | (show Ending.returned _ = _; simp [HREM.out])

theorem oneS_any (L B N : Nat) (m : Int) (w : World) (h : Src w L B N) (hN : N < 800000000) (hm : -1000000 ≤ m ∧ m ≤ 1000000) :
    Calls Try.prog 46 #[.pointer (some ⟨B, 0, none⟩), .int .i64 m] w fun e w' => ∃ x : Bool, e = .returned (.bool x) ∧ Src w' L B (N + 2) ∧ w.grownBy w' (some B) := by
  have H := Lib.hid h; clear h
  go_enter Try.func46, Try.ntmps46
  go_wp2_with fail
  refine (pickS_any L B N m _ H.out (by omega) hm).mono ?_
  rintro e w1 ⟨x, hx, rfl, hs1, hg1⟩
  have HS1 := Lib.hid hs1; clear hs1
  go_wp2
  go_ret
  exact ⟨_, rfl, HS1.out, hg1⟩

theorem amongS_any (L B N : Nat) (v : Value) (zs : List Int) (w : World) (h : Src w L B N) (hN : N < 800000000) (hr : RdI w v zs) (h0 : 1 ≤ zs.length) (h1 : zs.length ≤ 1000) (hv : ∀ A n c, v = .slice A n c → ∀ b off, A = some ⟨b, off, none⟩ → b ≠ B) :
    Calls Try.prog 77 #[.pointer (some ⟨B, 0, none⟩), v] w fun e w' => ∃ x : Int, x ∈ zs ∧ e = .returned (.int .i64 x) ∧ Src w' L B (N + 2) ∧ w.grownBy w' (some B) := by
  obtain ⟨hl, A, c, rfl, r1⟩ := hr
  have H := Lib.hid h; clear h
  have R := Lib.hid r1; clear r1
  have HV := Lib.hid (hv A zs.length c rfl); clear hv
  go_enter Try.func77, Try.ntmps77
  go_wp2_with fail
  refine (pickS_any L B N _ _ H.out (by omega) (by omega)).mono ?_
  rintro e w1 ⟨x, hx, rfl, hs1, hg1⟩
  obtain ⟨k, rfl⟩ : ∃ k : Nat, x = (k : Int) := ⟨x.toNat, by omega⟩
  have hk : k < zs.length := by have := hx.2.2 (by omega); omega
  obtain ⟨b, off, rfl, hbl, hc⟩ := R.out k hk
  have hc1 := hg1.cell hc (fun e => by injection e with e; exact HV.out b off rfl e)
  have HS1 := Lib.hid hs1; clear hs1 hc
  have hmem : zs[k] ∈ zs := List.getElem_mem hk
  generalize zs[k] = z at *
  go_wp2
  go_ret
  exact ⟨z, hmem, rfl, HS1.out, hg1⟩

theorem grown_new {w w1 : World} {row : Option Nat} (hg : w.grownBy w1 row) {p o : Nat} (hp : w.heap.size ≤ p) (v : Value) : w.grownBy (w1.setCell ⟨p, o, none⟩ v) row :=
  ⟨hg.os, hg.tape, hg.output, by simp [World.setCell]; exact hg.size, fun k hk hne => by rw [heap_setCell_other _ _ _ _ (show k ≠ p by omega)]; exact hg.block k hk hne⟩

theorem RdI_lit (u : World) (t : TypeId) (zs : List Int) (hl : zs.length ≤ 9223372036854775807) : RdI (u.alloc (.cells (zs.map (Value.int .i64)).toArray t)) (.slice (some ⟨u.heap.size, 0, none⟩) zs.length zs.length) zs :=
  RdI_of _ _ _ zs hl (by simp) (fun k hk => by
    rw [cell_of_row _ _ k _ _ _ (heap_alloc_new u _)]
    simp [hk])

set_option maxHeartbeats 1000000 in
theorem drawLoad_any (L B N : Nat) (w : World) (h : Src w L B N) (hN : N < 700000000) :
    Calls Try.prog 45 #[.pointer (some ⟨B, 0, none⟩)] w fun e w' => ∃ x : Int, e = .returned (.int .i64 x) ∧ Src w' L B (N + 4) ∧ w.grownBy w' (some B) := by
  have H := Lib.hid h; clear h
  go_enter Try.func45, Try.ntmps45
  go_wp2_with fail
  refine (oneS_any L B N _ _ H.out (by omega) (by omega)).mono ?_
  rintro e w1 ⟨x, rfl, hs1, hg1⟩
  have S1 := Lib.hid hs1; clear hs1
  have hB := Src_lt S1.out
  cases x
  · go_wp2_with fail
    refine (pickS_any L B (N + 2) _ _ S1.out (by omega) (by omega)).mono ?_
    rintro e w2 ⟨y, hy, rfl, hs2, hg2⟩
    have S2 := Lib.hid hs2; clear hs2
    go_wp2
    go_ret
    exact ⟨_, rfl, S2.out, grown_step hg1 hg2⟩
  · have hr : RdI (w1.alloc (.cells #[.int .i64 (-1), .int .i64 0, .int .i64 50000, .int .i64 50001, .int .i64 9223372036854775807] 2)) (.slice (some ⟨w1.heap.size, 0, none⟩) 5 5) [-1, 0, 50000, 50001, 9223372036854775807] := RdI_lit w1 2 [-1, 0, 50000, 50001, 9223372036854775807] (by simp)
    have hb : Below w1.heap.size w1 (w1.alloc (.cells #[.int .i64 (-1), .int .i64 0, .int .i64 50000, .int .i64 50001, .int .i64 9223372036854775807] 2)) := by go_grown
    go_wp2_with fail
    refine (amongS_any L B (N + 2) _ [-1, 0, 50000, 50001, 9223372036854775807] _ (Src_below S1.out hb) (by omega) hr (by simp) (by simp) (fun A n c e b off e2 => by injection e with e; rw [e2] at e; injection e with e; injection e with e; omega)).mono ?_
    rintro e w2 ⟨y, hy, rfl, hs2, hg2⟩
    have S2 := Lib.hid hs2; clear hs2
    go_wp2
    go_ret
    exact ⟨_, rfl, S2.out, grown_step hg1 (grown_step (below_grown hb _) hg2)⟩

theorem Src_from {w : World} {A : Option Addr} {n c : Nat} (h : RdC w A n) (hn : n ≤ 1000000) : Src (w.alloc (.cells #[.slice A n c, .int .i64 0, .int .u64 0] 89)) w.heap.size w.heap.size 0 :=
  ⟨Nat.le_refl _, A, n, c, fun k hk => by
    obtain ⟨b, off, z, e, hlt, hc, z0, z1⟩ := h k hk
    exact ⟨b, off, z, e, hlt, by simp; omega, by rw [World.cell?_alloc_past _ _ _ hlt]; exact hc, z0, z1⟩, hn, 0, Nat.le_refl _, 0, by omega, by omega, heap_alloc_new w _⟩

theorem low_mul (n d : Int) (hd : 0 < d) : ∃ g : Int, 0 < g ∧ n = (lowL n d).1 * g ∧ d = (lowL n d).2 * g := by
  have hp := gcd_pos' n d hd
  refine ⟨(Nat.gcd n.natAbs d.natAbs : Nat), by omega, ?_, ?_⟩
  · unfold lowL
    rw [Int.tdiv_mul_cancel (Int.ofNat_dvd_left.2 (Nat.gcd_dvd_left _ _))]
  · unfold lowL
    rw [Int.tdiv_mul_cancel (Int.ofNat_dvd_left.2 (Nat.gcd_dvd_right _ _))]

theorem f6big_any (A : Option Addr) (n c : Nat) (w : World) : Calls Try.prog 13 #[.slice A n c] w fun e w' => e = .returned (.bool (decide (4096 < n))) ∧ w = w' := by
  by_cases h : 4096 < n
  all_goals
    go_enter Try.func13, Try.ntmps13
    go_wp2
    go_ret
    exact ⟨by simp; omega, rfl⟩

/-- A world in which all that was there in W stands as it was. -/
structure BelowBy (W : World) where
  w : World
  h : Below W.heap.size W w
instance belowBy_some (W : World) : Inhabited (BelowBy W) := ⟨⟨W, Below.refl _ _⟩⟩

/-- A region that draws its order, whose operations only read and whose callees only make memory: walked once. -/
theorem wp_region_below {P : Program} {id : Nat} {Q : Exit → Act → World → Prop} {a : Act} {w : World} {l : List Oper} (hm : P.follows .mixedOrders = true) (hB : Region.lexB .any l.toArray = true)
    (h : wpQuiet P l.toArray (fun w' => ∃ p : BelowBy w, w' = p.w) (fun a' => ∀ w', (∃ p : BelowBy w, w' = p.w) → Q .normal a' w') l a) : (Code.region id l.toArray true).wp P Q a w :=
  wp_region_quiet (C := fun w' => ∃ p : BelowBy w, w' = p.w) hm hB ⟨⟨{ w with drawn := w.drawn + 1 }, ⟨rfl, rfl, rfl, Nat.le_refl _, fun _ _ => rfl⟩⟩, rfl⟩ (by simpa using h)

theorem below_call {P : Program} {f : FuncId} {args : Array Value} {W : World} {x : BelowBy W} {v : Value}
    (h : Below W.heap.size W x.w → Calls P f args x.w fun e w' => e = .returned v ∧ Below x.w.heap.size x.w w') : Calls P f args x.w fun e w'' => e = .returned v ∧ ∃ p : BelowBy W, w'' = p.w :=
  (h x.h).mono fun _ w' ⟨he, hb⟩ => ⟨he, ⟨w', kept_trans x.h hb⟩, rfl⟩

/-- The numbers of a sling (legs, span, rise, mass) are as asked. -/
def slB (g p r m : Int) : Bool := inB g 1 4 && inB p 0 400 && inB r 1 400 && inB m 0 1000 && (decide (1 < g) || decide (p = 0))

theorem slB_bd {g p r m : Int} (h : slB g p r m = true) : (1 ≤ g ∧ g ≤ 4) ∧ (0 ≤ p ∧ p ≤ 400) ∧ (1 ≤ r ∧ r ≤ 400) ∧ (0 ≤ m ∧ m ≤ 1000) := by
  simp only [slB, Bool.and_eq_true] at h
  obtain ⟨⟨⟨⟨h0, h1⟩, h2⟩, h3⟩, _⟩ := h
  exact ⟨inB_true h0, inB_true h1, inB_true h2, inB_true h3⟩

def slSq (p r : Int) : Int := p * p + 4 * r * r

/-- Twice the length of a leg, rounded up. -/
noncomputable def slD (p r : Int) : Int := rootL (slSq p r)

theorem root_ex (n : Nat) : ∃ r : Int, IsRoot n r := by
  induction n with
  | zero => exact ⟨0, by omega, by simp, fun q h1 h2 => by omega⟩
  | succ n ih =>
    obtain ⟨r, h1, h2, h3⟩ := ih
    by_cases h : (n : Int) + 1 ≤ r * r
    · exact ⟨r, h1, by omega, fun q a b => by have := h3 q a b; omega⟩
    · have e : (r + 1) * (r + 1) = r * r + 2 * r + 1 := by grind
      refine ⟨r + 1, by omega, by omega, fun q a b => ?_⟩
      have : q * q ≤ r * r := Int.mul_le_mul (by omega) (by omega) a h1
      omega

theorem root_is (n : Int) (h : 0 ≤ n) : IsRoot n (rootL n) := by
  obtain ⟨r, hr⟩ := root_ex n.toNat
  rw [show ((n.toNat : Nat) : Int) = n by omega] at hr
  rw [rootL_eq hr]
  exact hr

theorem slSq_bd (p r : Int) (hp : 0 ≤ p ∧ p ≤ 400) (hr : 1 ≤ r ∧ r ≤ 400) : 4 ≤ slSq p r ∧ slSq p r ≤ 800000 := by
  have h1 := sq_bd p 400 (by omega) (by omega)
  have h2 := sq_bd r 400 (by omega) (by omega)
  have h3 : 1 * 1 ≤ r * r := Int.mul_le_mul hr.1 hr.1 (by omega) (by omega)
  have e : 4 * r * r = 4 * (r * r) := by grind
  unfold slSq
  omega

theorem slD_bd (p r : Int) (hp : 0 ≤ p ∧ p ≤ 400) (hr : 1 ≤ r ∧ r ≤ 400) : 2 ≤ slD p r ∧ slD p r ≤ p + 2 * r := by
  have hb := slSq_bd p r hp hr
  have h := root_is (slSq p r) (by omega)
  unfold slD
  obtain ⟨h1, h2, h3⟩ := h
  generalize hR : rootL (slSq p r) = R at *
  constructor
  · rcases Int.lt_or_le R 2 with h | h
    · have : R = 0 ∨ R = 1 := by omega
      rcases this with rfl | rfl <;> omega
    · exact h
  · rcases Int.lt_or_le (p + 2 * r) R with h | h
    · have h4 := h3 (p + 2 * r) (by omega) h
      have h5 : (p + 2 * r) * (p + 2 * r) = slSq p r + 4 * (p * r) := by unfold slSq; grind
      have h6 := Int.mul_nonneg hp.1 (show 0 ≤ r by omega)
      omega
    · exact h

/-- A step of Newton's never passes the root, rounded down. -/
theorem newton_step (n x : Int) (hn : 0 ≤ n) (hx : 0 < x) : n < ((x + n / x) / 2 + 1) * ((x + n / x) / 2 + 1) := by
  have h1 : n < x * (n / x + 1) := by
    have := Int.lt_ediv_add_one_mul_self n hx
    rw [Int.mul_comm]; exact this
  have h0 : 0 ≤ n / x := Int.ediv_nonneg hn (by omega)
  generalize n / x = q at *
  have h2 : x + q + 1 ≤ 2 * ((x + q) / 2 + 1) := by omega
  generalize (x + q) / 2 + 1 = y at *
  have h3 : (x + q + 1) * (x + q + 1) ≤ (2 * y) * (2 * y) := Int.mul_le_mul h2 h2 (by omega) (by omega)
  have h4 : 0 ≤ (x - (q + 1)) * (x - (q + 1)) := by
    rcases Int.le_total 0 (x - (q + 1)) with h | h
    · exact Int.mul_nonneg h h
    · exact Int.mul_nonneg_of_nonpos_of_nonpos h h
  have e1 : (x + q + 1) * (x + q + 1) = (x - (q + 1)) * (x - (q + 1)) + 4 * (x * (q + 1)) := by grind
  have e2 : (2 * y) * (2 * y) = 4 * (y * y) := by grind
  omega

theorem newton_down (n x : Int) (hn : 0 ≤ n) (hx : 0 < x) (h : n < x * x) : (x + n / x) / 2 < x := by
  have : n / x < x := Int.ediv_lt_of_lt_mul hx h
  omega

/-- Where Newton's steps end, the root is there or one less than it. -/
theorem newton_end (n x : Int) (hx : 0 ≤ x) (h1 : n < (x + 1) * (x + 1)) (h2 : x * x ≤ n) : rootL n = if x * x < n then x + 1 else x := by
  apply rootL_eq
  split
  · refine ⟨by omega, by omega, fun q a b => ?_⟩
    have : q * q ≤ x * x := Int.mul_le_mul (by omega) (by omega) a hx
    omega
  · refine ⟨by omega, by omega, fun q a b => ?_⟩
    have e : x * x = (x - 1) * (x - 1) + 2 * x - 1 := by grind
    have : q * q ≤ (x - 1) * (x - 1) := Int.mul_le_mul (by omega) (by omega) a (by omega)
    omega

/-- The legs that bear. -/
def bearL (g : Int) : Int := if 3 < g then 3 else g

theorem bearL_bd {g : Int} (h : 1 ≤ g ∧ g ≤ 4) : 1 ≤ bearL g ∧ bearL g ≤ 3 := by unfold bearL; split <;> omega

/-- What a force is divided by. -/
def slE (g r : Int) : Int := 2 * bearL g * r

theorem slE_bd (g r : Int) (hg : 1 ≤ g ∧ g ≤ 4) (hr : 1 ≤ r ∧ r ≤ 400) : 2 ≤ slE g r ∧ slE g r ≤ 2400 := by
  have h := bearL_bd hg
  unfold slE
  have h1 := mul_bd (2 * bearL g) r 6 400 (by omega) (by omega)
  have h2 := mul_ge (2 * bearL g) r 2 1 (by omega) (by omega)
  omega

theorem up_iff (n d k : Int) (hd : 0 < d) : upL n d ≤ k ↔ n ≤ k * d := by
  unfold upL
  have e : (k + 1) * d = k * d + d := by grind
  rw [← Int.lt_add_one_iff, Int.ediv_lt_iff_lt_mul hd, e]
  omega

theorem up_scale (c x y : Int) (hc : 0 < c) (hy : 0 < y) : upL (c * x) (c * y) = upL x y := by
  have h : ∀ k, upL (c * x) (c * y) ≤ k ↔ upL x y ≤ k := fun k => by
    rw [up_iff _ _ _ (Int.mul_pos hc hy), up_iff _ _ _ hy, show k * (c * y) = c * (k * y) by grind]
    exact Int.mul_le_mul_left hc
  exact Int.le_antisymm ((h _).2 (Int.le_refl _)) ((h _).1 (Int.le_refl _))

theorem up_low (n d : Int) (hd : 0 < d) : upL (lowL n d).1 (lowL n d).2 = upL n d := by
  have hp := gcd_pos' n d hd
  have d1 : ((Nat.gcd n.natAbs d.natAbs : Nat) : Int) ∣ n := Int.ofNat_dvd_left.2 (Nat.gcd_dvd_left _ _)
  have d2 : ((Nat.gcd n.natAbs d.natAbs : Nat) : Int) ∣ d := Int.ofNat_dvd_left.2 (Nat.gcd_dvd_right _ _)
  unfold lowL
  dsimp only
  generalize Nat.gcd n.natAbs d.natAbs = c at *
  have e1 := Int.mul_tdiv_cancel' d1
  have e2 := Int.mul_tdiv_cancel' d2
  generalize n.tdiv c = x at *
  generalize d.tdiv c = y at *
  rw [← e1, ← e2]
  refine (up_scale _ _ _ (by omega) ?_).symm
  have hc : (0 : Int) < c := by omega
  rcases Int.lt_or_le 0 y with h | h
  · exact h
  · have := Int.mul_nonpos_of_nonneg_of_nonpos (show (0 : Int) ≤ c by omega) h
    omega

/-- The force in a leg, rounded up. -/
noncomputable def slUp (g p r w : Int) : Int := upL (w * slD p r) (slE g r)

/-- How far the legs are spread. -/
def slK (g p r : Int) : Int := if g = 1 then 0 else if p ≤ 2 * r then 1 else if p * p ≤ 12 * r * r then 2 else 3

noncomputable def slHolds (g p r w k : Int) : Bool := decide (slK g p r < 3) && decide (slUp g p r w ≤ k)

/-- The greatest weight that is held. -/
noncomputable def gwL (g p r k : Int) : Int := min 50000 (k * slE g r / slD p r)

theorem up_le {g p r : Int} (hg : 1 ≤ g ∧ g ≤ 4) (hp : 0 ≤ p ∧ p ≤ 400) (hr : 1 ≤ r ∧ r ≤ 400) (w k : Int) : slUp g p r w ≤ k ↔ w ≤ k * slE g r / slD p r := by
  have h1 := slE_bd g r hg hr
  have h2 := slD_bd p r hp hr
  unfold slUp
  rw [up_iff _ _ _ (by omega), Int.le_ediv_iff_mul_le (by omega)]

/-- Where the search between a weight that is held and one that is not ends. -/
theorem gw_found {g p r k lo : Int} (hg : 1 ≤ g ∧ g ≤ 4) (hp : 0 ≤ p ∧ p ≤ 400) (hr : 1 ≤ r ∧ r ≤ 400) (h0 : 0 ≤ lo ∧ lo ≤ 50000) (h1 : slUp g p r lo ≤ k) (h2 : lo + 1 = 50001 ∨ k < slUp g p r (lo + 1)) : lo = gwL g p r k := by
  rw [up_le hg hp hr] at h1
  have hle := up_le hg hp hr (lo + 1) k
  unfold gwL
  omega

theorem up_zero {g p r : Int} (hg : 1 ≤ g ∧ g ≤ 4) (hp : 0 ≤ p ∧ p ≤ 400) (hr : 1 ≤ r ∧ r ≤ 400) (k : Int) (hk : 0 ≤ k) : slUp g p r 0 ≤ k := by
  have h1 := slE_bd g r hg hr
  have h2 := slD_bd p r hp hr
  rw [up_le hg hp hr]
  exact Int.ediv_nonneg (Int.mul_nonneg hk (by omega)) (by omega)

/-- The fields of a sling. -/
structure Sl where
  g : Int
  p : Int
  r : Int
  m : Int

def okSl (z : Sl) : Bool := slB z.g z.p z.r z.m

noncomputable def holdsSl (z : Sl) (w k : Int) : Bool := slHolds z.g z.p z.r w k

/-- What ForceUp returns. -/
noncomputable def fuL (g p r m : Int) (k : Int) : Int × Int := if codeL3 (slB g p r m) [inB k 0 50000] = 0 then (slUp g p r k, 0) else (0, codeL3 (slB g p r m) [inB k 0 50000])

/-- What GreatestWeight returns. -/
noncomputable def gwAll (g p r m : Int) (k : Int) : Int × Int := if codeL3 (slB g p r m) [inB k 0 50000] = 0 then (if slK g p r = 3 then (0, 10) else (gwL g p r k, 0)) else (0, codeL3 (slB g p r m) [inB k 0 50000])

/-- What HookMass returns. -/
def hmL (g p r m : Int) (k : Int) : Int × Int := if codeL3 (slB g p r m) [inB k 0 50000] = 0 then (k + m, 0) else (0, codeL3 (slB g p r m) [inB k 0 50000])

theorem slK_le (g p r : Int) : slK g p r ≤ 3 := by unfold slK; split <;> (try split) <;> (try split) <;> omega

/-- A sling, cell by cell. -/
def encSl (z : Sl) : List Value := [.int .i64 z.g, .int .i64 z.p, .int .i64 z.r, .int .i64 z.m]

def flatSl (zs : List Sl) : List Value := zs.flatMap encSl

theorem flatSl_at (zs : List Sl) (k j : Nat) (h : k < zs.length) (hj : j < 4) : (flatSl zs)[k * 4 + j]? = (encSl zs[k])[j]? := flat_at (enc := encSl) (sz := 4) (fun _ => rfl) zs k j h hj

/-- The slice value reads as a list of slings. -/
def RdSl (w : World) (v : Value) (zs : List Sl) : Prop := RdF w v zs.length 4 (flatSl zs)

theorem RdSl_kept {W w1 : World} {v : Value} {zs : List Sl} (h : RdSl W v zs) (hb : Below W.heap.size W w1) : RdSl w1 v zs := RdF_kept h hb

/-- A sling at a place of a block. -/
def SlAt (w : World) (b o : Nat) (z : Sl) : Prop :=
  b < w.heap.size ∧ w.cell? ⟨b, o, none⟩ = some (.int .i64 z.g) ∧ w.cell? ⟨b, o + 1, none⟩ = some (.int .i64 z.p) ∧ w.cell? ⟨b, o + 2, none⟩ = some (.int .i64 z.r) ∧ w.cell? ⟨b, o + 3, none⟩ = some (.int .i64 z.m)

theorem SlAt_kept {W w1 : World} {b o : Nat} {z : Sl} (h : SlAt W b o z) (hb : Below W.heap.size W w1) : SlAt w1 b o z := by
  obtain ⟨hl, h0, h1, h2, h3⟩ := h
  refine ⟨Nat.lt_of_lt_of_le hl hb.size, ?_, ?_, ?_, ?_⟩ <;> (rw [kept_cell hb b _ hl]; assumption)

theorem RdSl_at {w : World} {v : Value} {zs : List Sl} (h : RdSl w v zs) : ∃ A c, v = .slice A zs.length c ∧ zs.length ≤ 9223372036854775807 ∧
    ∀ i, (hi : i < zs.length) → ∃ b off, A = some ⟨b, off, none⟩ ∧ SlAt w b (off + i * 4) zs[i] := by
  obtain ⟨hl, hx, A, c, rfl, hr⟩ := h
  refine ⟨A, c, rfl, hl, fun i hi => ?_⟩
  obtain ⟨b, off, rfl, hlt, h0⟩ := hr (i * 4) (by omega)
  have at_ : ∀ j, j < 4 → w.cell? ⟨b, off + (i * 4 + j), none⟩ = (encSl zs[i])[j]? := by
    intro j hj
    obtain ⟨b', off', e, _, h1⟩ := hr (i * 4 + j) (by omega)
    simp only [Option.some.injEq, Addr.mk.injEq, and_true] at e
    obtain ⟨rfl, rfl⟩ := e
    rw [h1, flatSl_at zs i j hi hj]
  exact ⟨b, off, rfl, hlt, at_ 0 (by omega), at_ 1 (by omega), at_ 2 (by omega), at_ 3 (by omega)⟩

theorem info_sling : (Try.prog.info? 31).map (fun i => (i.zero, i.size, i.bytes)) = some (some (.agg #[.int .i64 0, .int .i64 0, .int .i64 0, .int .i64 0]), 4, 32) := by kernel_rfl

/-- Whether the sling with an index holds a weight with its force. -/
noncomputable def heldAt (zs : List Sl) (qs : List Int) (w : Int) (i : Nat) : Bool := match zs[i]?, qs[i]? with
  | some z, some q => holdsSl z w q
  | _, _ => false

def massAt (zs : List Sl) (i : Int) : Int := ((zs[i.toNat]?).map Sl.m).getD 0

/-- The first one of the lightest, of an index and further ones. -/
def pickL (ms : Int → Int) (b : Int) : List Int → Int
  | [] => b
  | i :: t => pickL ms (if ms i < ms b then i else b) t

def bestL (ms : Int → Int) : List Int → Int
  | [] => -1
  | i :: t => pickL ms i t

theorem pickL_snoc (ms : Int → Int) (k : Int) : ∀ (l : List Int) (b : Int), pickL ms b (l ++ [k]) = if ms k < ms (pickL ms b l) then k else pickL ms b l := by
  intro l
  induction l with
  | nil => intro b; rfl
  | cons i l ih => intro b; exact ih _

theorem bestL_snoc (ms : Int → Int) (l : List Int) (k : Int) : bestL ms (l ++ [k]) = if l = [] then k else if ms k < ms (bestL ms l) then k else bestL ms l := by
  cases l with
  | nil => rfl
  | cons i l =>
    rw [if_neg (by simp)]
    exact pickL_snoc ms k l i

theorem pickL_mem (ms : Int → Int) : ∀ (l : List Int) (b : Int), pickL ms b l = b ∨ pickL ms b l ∈ l := by
  intro l
  induction l with
  | nil => intro b; exact Or.inl rfl
  | cons i l ih =>
    intro b
    rcases ih (if ms i < ms b then i else b) with h | h
    · have e : pickL ms b (i :: l) = (if ms i < ms b then i else b) := h
      rw [e]
      split
      · exact Or.inr (by simp)
      · exact Or.inl rfl
    · exact Or.inr (List.mem_cons_of_mem _ h)

theorem bestL_mem (ms : Int → Int) (l : List Int) (h : l ≠ []) : bestL ms l ∈ l := by
  cases l with
  | nil => exact absurd rfl h
  | cons i l =>
    rcases pickL_mem ms l i with e | e
    · rw [show bestL ms (i :: l) = i from e]; simp
    · exact List.mem_cons_of_mem _ e

theorem idxsL_mem (p : Nat → Bool) (n : Nat) : ∀ i ∈ idxsL p n, ∃ k : Nat, i = (k : Int) ∧ k < n ∧ p k = true := by
  induction n with
  | zero => intro i hi; simp [idxsL] at hi
  | succ n ih =>
    intro i hi
    unfold idxsL at hi
    cases hp : p n
    · rw [hp] at hi
      obtain ⟨k, e, hk, hpk⟩ := ih i (by simpa using hi)
      exact ⟨k, e, by omega, hpk⟩
    · rw [hp] at hi
      simp only [if_true, List.mem_append, List.mem_singleton] at hi
      rcases hi with hi | hi
      · obtain ⟨k, e, hk, hpk⟩ := ih i hi
        exact ⟨k, e, by omega, hpk⟩
      · exact ⟨n, hi, by omega, hp⟩

/-- What ChooseSling returns. -/
noncomputable def chL (zs : List Sl) (qs : List Int) (w : Int) : Int × Int :=
  if zs.all okSl then (if inB w 0 50000 && qs.all (fun n => inB n 0 50000) && decide (qs.length = zs.length) then (if idxsL (heldAt zs qs w) zs.length = [] then (0, 3) else (bestL (massAt zs) (idxsL (heldAt zs qs w) zs.length), 0)) else (0, 2)) else (0, 1)

/-- A sling that fills a block. -/
def SlBox (w : World) (b : Nat) (g p r m : Int) : Prop := w.heap[b]? = some (.cells #[.int .i64 g, .int .i64 p, .int .i64 r, .int .i64 m] 31 (0, 0))

theorem SlBox_at {w : World} {b : Nat} {g p r m : Int} (h : SlBox w b g p r m) : SlAt w b 0 ⟨g, p, r, m⟩ := by
  have h0 : w.cell? ⟨b, 0, none⟩ = some (.int .i64 g) := by rw [cell_of_row w b 0 _ _ _ h]; rfl
  exact ⟨World.block_lt_of_cell? _ _ h0, h0, by rw [cell_of_row w b 1 _ _ _ h]; rfl, by rw [cell_of_row w b 2 _ _ _ h]; rfl, by rw [cell_of_row w b 3 _ _ _ h]; rfl⟩

theorem SlBox_lt {w : World} {b : Nat} {g p r m : Int} (h : SlBox w b g p r m) : b < w.heap.size := (SlBox_at h).1

theorem SlBox_kept {W w1 : World} {b : Nat} {g p r m : Int} (h : SlBox W b g p r m) (hb : Below W.heap.size W w1) : SlBox w1 b g p r m := by
  unfold SlBox
  rw [hb.block b (SlBox_lt h)]
  exact h

theorem SlBox_grown {w w1 : World} {b B : Nat} {g p r m : Int} (h : SlBox w b g p r m) (hg : w.grownBy w1 (some B)) (hne : b ≠ B) : SlBox w1 b g p r m := blk_grown h hg hne

theorem SlBox_far {w : World} {b q o : Nat} {v : Value} {g p r m : Int} (h : SlBox w b g p r m) (hne : b ≠ q) : SlBox (w.setCell ⟨q, o, none⟩ v) b g p r m := SlBox_grown h (grown_set _ _ _) hne

theorem SlBox_frozen {w : World} {b : Nat} {g p r m : Int} (h : SlBox w b g p r m) (o : Nat) : w.frozen? ⟨b, o, none⟩ = false := frozen_of_row w b o _ _ h

/-- One number of a sling is stored. -/
theorem SlBox_put {w : World} {b : Nat} {g p r m : Int} (h : SlBox w b g p r m) (v : Int) : SlBox (w.setCell ⟨b, 0, none⟩ (.int .i64 v)) b v p r m ∧ SlBox (w.setCell ⟨b, 1, none⟩ (.int .i64 v)) b g v r m ∧ SlBox (w.setCell ⟨b, 2, none⟩ (.int .i64 v)) b g p v m ∧ SlBox (w.setCell ⟨b, 3, none⟩ (.int .i64 v)) b g p r v :=
  ⟨heap_setCell_same w b 0 _ _ _ h, heap_setCell_same w b 1 _ _ _ h, heap_setCell_same w b 2 _ _ _ h, heap_setCell_same w b 3 _ _ _ h⟩

theorem SlBox_facts {w : World} {b : Nat} {g p r m : Int} (h : SlBox w b g p r m) : (w.cell? ⟨b, 0, none⟩ = some (.int .i64 g) ∧ w.cell? ⟨b, 1, none⟩ = some (.int .i64 p) ∧ w.cell? ⟨b, 2, none⟩ = some (.int .i64 r) ∧ w.cell? ⟨b, 3, none⟩ = some (.int .i64 m)) ∧ ∀ o, w.frozen? ⟨b, o, none⟩ = false := by
  obtain ⟨_, h0, h1, h2, h3⟩ := SlBox_at h
  exact ⟨⟨h0, h1, h2, h3⟩, SlBox_frozen h⟩

theorem src_end4 {u : World} {L B N p : Nat} (h : Src u L B N) (h1 : L ≤ p) (h2 : p ≠ B) (v0 v1 v2 v3 : Value) :
    Src ((((u.setCell ⟨p, 0, none⟩ v0).setCell ⟨p, 1, none⟩ v1).setCell ⟨p, 2, none⟩ v2).setCell ⟨p, 3, none⟩ v3) L B N :=
  Src_set (Src_set (Src_set (Src_set h h1 h2) h1 h2) h1 h2) h1 h2

theorem grown_end4 {w u : World} {row : Option Nat} (hg : w.grownBy u row) {p : Nat} (hp : w.heap.size ≤ p) (v0 v1 v2 v3 : Value) :
    w.grownBy ((((u.setCell ⟨p, 0, none⟩ v0).setCell ⟨p, 1, none⟩ v1).setCell ⟨p, 2, none⟩ v2).setCell ⟨p, 3, none⟩ v3) row :=
  grown_new (grown_new (grown_new (grown_new hg hp _) hp _) hp _) hp _

theorem specSlOk_any (b o : Nat) (z : Sl) (w : World) (h : SlAt w b o z) :
    Calls Try.prog 47 #[.pointer (some ⟨b, o, none⟩)] w fun e w' => e = .returned (.bool (okSl z)) ∧ w = w' := by
  obtain ⟨g, p, r, m⟩ := z
  obtain ⟨_, h0, h1, h2, h3⟩ := h
  unfold okSl slB
  dsimp only at *
  rcases four (inB g 1 4) (inB p 0 400) (inB r 1 400) (inB m 0 1000) with e | ⟨e0, e⟩ | ⟨e0, e1, e⟩ | ⟨e0, e1, e2, e⟩ | ⟨e0, e1, e2, e⟩
  case inr.inr.inr.inr =>
    by_cases hg : 1 < g
    · go_enter Try.func47, Try.ntmps47
      go_wp2_with (go_at_call 48; refine (in_any _ _ _ _).mono ?_; rintro e w1 ⟨rfl, rfl⟩)
      go_ret
      exact ⟨by simp [*], rfl⟩
    · by_cases hp : p = 0
      · go_enter Try.func47, Try.ntmps47
        go_wp2_with (go_at_call 48; refine (in_any _ _ _ _).mono ?_; rintro e w1 ⟨rfl, rfl⟩)
        go_ret
        exact ⟨by simp [*], rfl⟩
      · have hp1 : (p == 0) = false := by simpa using hp
        go_enter Try.func47, Try.ntmps47
        go_wp2_with (go_at_call 48; refine (in_any _ _ _ _).mono ?_; rintro e w1 ⟨rfl, rfl⟩)
        go_ret
        exact ⟨by simp [*], rfl⟩
  all_goals
    go_enter Try.func47, Try.ntmps47
    go_wp2_with (go_at_call 48; refine (in_any _ _ _ _).mono ?_; rintro e w1 ⟨rfl, rfl⟩)
    go_ret
    exact ⟨by simp [*], rfl⟩

theorem SlAt_new (g p r m : Int) (w : World) : SlAt (w.alloc (.cells #[.int .i64 g, .int .i64 p, .int .i64 r, .int .i64 m] 31)) w.heap.size 0 ⟨g, p, r, m⟩ := ⟨by simp, by simp, by simp, by simp, by simp⟩

theorem specSlSq_any (b o : Nat) (z : Sl) (w : World) (h : SlAt w b o z) (hv : okSl z = true) :
    Calls Try.prog 84 #[.pointer (some ⟨b, o, none⟩)] w fun e w' => e = .returned (.int .i64 (slSq z.p z.r)) ∧ ∃ n, w' = w.drewN n := by
  obtain ⟨hg, hp, hr, _⟩ := slB_bd hv
  obtain ⟨g, p, r, m⟩ := z
  obtain ⟨_, h0, h1, h2, h3⟩ := h
  dsimp only at *
  have hb := slSq_bd p r hp hr
  have q1 := mul_bd p p 400 400 hp hp
  have q2 := mul_bd (4 * r) r 1600 400 (by omega) (by omega)
  unfold slSq at *
  have w1 : IntKind.i64.wrap (p * p) = p * p := IntWalk.i64_in _ (by omega)
  have w2 : IntKind.i64.wrap (4 * r) = 4 * r := IntWalk.i64_in _ (by omega)
  have w3 : IntKind.i64.wrap (4 * r * r) = 4 * r * r := IntWalk.i64_in _ (by omega)
  have w4 : IntKind.i64.wrap (p * p + 4 * r * r) = p * p + 4 * r * r := IntWalk.i64_in _ (by omega)
  go_enter Try.func84, Try.ntmps84
  go_wp2_with fail
  go_quiet (fail)
  go_wp2
  go_ret
  exact ⟨rfl, _, rfl⟩

theorem specSlD_any (b o : Nat) (z : Sl) (w : World) (h : SlAt w b o z) (hv : okSl z = true) :
    Calls Try.prog 66 #[.pointer (some ⟨b, o, none⟩)] w fun e w' => e = .returned (.int .i64 (slD z.p z.r)) ∧ Below w.heap.size w w' := by
  have HQ := Lib.hid (specSlSq_any b o z w h hv)
  obtain ⟨hg, hp, hr, _⟩ := slB_bd hv
  have hb := slSq_bd z.p z.r hp hr
  unfold slD
  clear h hv
  generalize slSq z.p z.r = N at *
  have HR := Lib.hid (fun u => l02Root_any N u (by omega) (by omega))
  generalize rootL N = R at *
  go_enter Try.func66, Try.ntmps66
  go_wp2_with fail
  refine HQ.out.mono ?_
  rintro e w1 ⟨rfl, n1, rfl⟩
  go_wp2_with fail
  refine (HR.out _).mono ?_
  rintro e w2 ⟨rfl, rfl⟩
  go_wp2
  go_ret
  exact ⟨rfl, kept_drewN (Below.refl _ _) _⟩

theorem specBear_any (b o : Nat) (z : Sl) (w : World) (h : SlAt w b o z) :
    Calls Try.prog 86 #[.pointer (some ⟨b, o, none⟩)] w fun e w' => e = .returned (.int .i64 (bearL z.g)) ∧ w = w' := by
  obtain ⟨g, p, r, m⟩ := z
  obtain ⟨_, h0, h1, h2, h3⟩ := h
  unfold bearL
  dsimp only at *
  have HM := Lib.hid (fun u => min_any 3 g u)
  by_cases hg : 3 < g
  all_goals
    go_enter Try.func86, Try.ntmps86
    go_wp2_with fail
    refine (HM.out _).mono ?_
    rintro e w1 ⟨rfl, rfl⟩
    go_wp2
    go_ret
    exact ⟨by simp <;> omega, rfl⟩

set_option maxHeartbeats 1000000 in
theorem specSlF_any (b o : Nat) (z : Sl) (k : Int) (w : World) (h : SlAt w b o z) (hv : okSl z = true) (hk : 0 ≤ k ∧ k ≤ 50000) :
    Calls Try.prog 69 #[.pointer (some ⟨b, o, none⟩), .int .i64 k] w fun e w' => e = .returned (.agg #[.int .i64 (lowL (k * slD z.p z.r) (slE z.g z.r)).1, .int .i64 (lowL (k * slD z.p z.r) (slE z.g z.r)).2]) ∧ Below w.heap.size w w' := by
  have HD := Lib.hid (fun u (q : SlAt u b o z) => specSlD_any b o z u q hv)
  have HB := Lib.hid (fun u (q : SlAt u b o z) => specBear_any b o z u q)
  obtain ⟨hg, hp, hr, _⟩ := slB_bd hv
  have hD := slD_bd z.p z.r hp hr
  have hE := slE_bd z.g z.r hg hr
  have hBe := bearL_bd hg
  have hN := mul_bd k (slD z.p z.r) 50000 1200 hk (by omega)
  unfold slE at *
  generalize slD z.p z.r = D at *
  generalize bearL z.g = Be at *
  have HM := Lib.hid (fun u => specMake_any (k * D) (2 * Be * z.r) (by omega) (by omega) u)
  generalize lowL (k * D) (2 * Be * z.r) = Z at *
  obtain ⟨z0, z1⟩ := Z
  have w1 : IntKind.i64.wrap (k * D) = k * D := IntWalk.i64_in _ (by omega)
  have w2 : IntKind.i64.wrap (2 * Be) = 2 * Be := IntWalk.i64_in _ (by omega)
  have w3 : IntKind.i64.wrap (2 * Be * z.r) = 2 * Be * z.r := IntWalk.i64_in _ (by omega)
  have w4 : wrap64 (k * D) = k * D := IntWalk.wrap64_in _ (by omega)
  have w5 : wrap64 (2 * Be) = 2 * Be := IntWalk.wrap64_in _ (by omega)
  have w6 : wrap64 (2 * Be * z.r) = 2 * Be * z.r := IntWalk.wrap64_in _ (by omega)
  have H := Lib.hid h
  obtain ⟨hlt, h0, h1, h2, h3⟩ := h
  have hne : ¬ b = w.heap.size := by omega
  clear hv hp hg hE
  obtain ⟨g, p, r, m⟩ := z
  dsimp only at *
  go_enter Try.func69, Try.ntmps69
  go_wp2_with fail
  go_region_with (first
        | (go_at_call 66; refine (HD.out _ (SlAt_kept H.out (by first | (go_grown; done) | (refine kept_drewN ?_ _; go_grown; done) | (go_grown; refine kept_drewN ?_ _; go_grown)))).mono ?_; rintro e w1 ⟨rfl, hb1⟩; refine kept_at hb1 (w.heap.size) (by go_size) fun c1_0 z1_0 s1_0 => ?_; have b1 := kept_trans (a := w) (by first | (go_grown; done) | (refine kept_drewN ?_ _; go_grown; done) | (go_grown; refine kept_drewN ?_ _; go_grown)) hb1; have hcl := (kept_cell b1 b (o + 2) hlt).trans h2)
        | (go_at_call 86; refine (HB.out _ (SlAt_kept H.out (by first | (go_grown; done) | (refine kept_drewN ?_ _; go_grown; done) | (go_grown; refine kept_drewN ?_ _; go_grown)))).mono ?_; rintro e w2 ⟨rfl, rfl⟩)
        | (go_at_call 85; refine (HM.out _).mono ?_; rintro e w3 ⟨rfl, hb3⟩; refine kept_at hb3 (w.heap.size) (by go_size) fun c3_0 z3_0 s3_0 => ?_; have b3 := kept_trans (a := w) (by first | (go_grown; done) | (refine kept_drewN ?_ _; go_grown; done) | (go_grown; refine kept_drewN ?_ _; go_grown)) hb3))
  all_goals
    go_wp2
    (try simp only [Exit.inBlock, Exit.then])
    refine bodyPost_ret (v := .agg #[.int .i64 z0, .int .i64 z1]) ?_ rfl ⟨rfl, ?_⟩
    · rw [results_cell1 rfl]
      go_simp
    · exact (by first | (go_grown; done) | (refine kept_drewN ?_ _; go_grown; done) | (go_grown; refine kept_drewN ?_ _; go_grown))

theorem low_fr (n d : Int) (hn : 0 ≤ n ∧ n ≤ 60000000) (hd : 1 ≤ d ∧ d ≤ 2400) : (0 ≤ (lowL n d).1 ∧ (lowL n d).1 ≤ 60000000) ∧ (1 ≤ (lowL n d).2 ∧ (lowL n d).2 ≤ 2400) ∧ upL (lowL n d).1 (lowL n d).2 = upL n d := by
  have hu := up_low n d (by omega)
  have hN1 := tdiv_bd n (Nat.gcd n.natAbs d.natAbs) 60000000 (by omega)
  have hE1 := tdiv_bd d (Nat.gcd n.natAbs d.natAbs) 2400 (by omega)
  obtain ⟨c, hc, e1, e2⟩ := low_mul n d (by omega)
  have hpos : 0 < (lowL n d).2 := by
    rcases Int.lt_or_le 0 (lowL n d).2 with h | h
    · exact h
    · have := Int.mul_nonpos_of_nonpos_of_nonneg h (show (0 : Int) ≤ c by omega)
      omega
  have hnn : 0 ≤ (lowL n d).1 := by
    rcases Int.lt_or_le (lowL n d).1 0 with h | h
    · have := Int.mul_neg_of_neg_of_pos h hc
      omega
    · exact h
  exact ⟨⟨hnn, hN1.2⟩, ⟨by omega, hE1.2⟩, hu⟩

theorem specSlUp_any (b o : Nat) (z : Sl) (k : Int) (w : World) (h : SlAt w b o z) (hv : okSl z = true) (hk : 0 ≤ k ∧ k ≤ 50000) :
    Calls Try.prog 62 #[.pointer (some ⟨b, o, none⟩), .int .i64 k] w fun e w' => e = .returned (.int .i64 (slUp z.g z.p z.r k)) ∧ Below w.heap.size w w' := by
  have HF := fun u (q : SlAt u b o z) => specSlF_any b o z k u q hv hk
  obtain ⟨hg, hp, hr, _⟩ := slB_bd hv
  have hD := slD_bd z.p z.r hp hr
  have hE := slE_bd z.g z.r hg hr
  have hN := mul_bd k (slD z.p z.r) 50000 1200 hk (by omega)
  have hl := low_fr (k * slD z.p z.r) (slE z.g z.r) (by omega) (by omega)
  unfold slUp
  generalize upL (k * slD z.p z.r) (slE z.g z.r) = U at *
  generalize lowL (k * slD z.p z.r) (slE z.g z.r) = Z at *
  obtain ⟨z0, z1⟩ := Z
  dsimp only at *
  have HU := Lib.hid (fun u => specUp_any z0 z1 (by omega) (by omega) u)
  rw [hl.2.2] at HU
  have HF := Lib.hid HF
  have H := Lib.hid h; clear h hl hN hE hD hp hg hr hv
  go_enter Try.func62, Try.ntmps62
  go_wp2_with fail
  refine (HF.out _ (SlAt_kept H.out (by go_grown))).mono ?_
  rintro e w1 ⟨rfl, hb1⟩
  go_wp2_with fail
  refine (HU.out _).mono ?_
  rintro e w2 ⟨rfl, rfl⟩
  go_wp2
  go_ret
  exact ⟨rfl, kept_trans hb1 (by go_grown)⟩

theorem specSlCode_any (b o : Nat) (z : Sl) (k : Int) (w : World) (h : SlAt w b o z) :
    Calls Try.prog 60 #[.pointer (some ⟨b, o, none⟩), .int .i64 k] w fun e w' => e = .returned (.int .i64 (codeL3 (okSl z) [inB k 0 50000])) ∧ w = w' := by
  have HO := Lib.hid (specSlOk_any b o z w h); clear h
  generalize okSl z = B at *
  cases B <;> cases hk : inB k 0 50000
  all_goals
    go_enter Try.func60, Try.ntmps60
    go_wp2_with fail
    refine HO.out.mono ?_
    rintro e w1 ⟨rfl, rfl⟩
    go_wp2_with (go_at_call 48; refine (in_any _ _ _ _).mono ?_; rintro e w1 ⟨rfl, rfl⟩)
    go_ret
    exact ⟨by simp [codeL3], rfl⟩

theorem specSlK_any (b o : Nat) (z : Sl) (w : World) (h : SlAt w b o z) (hv : okSl z = true) :
    Calls Try.prog 61 #[.pointer (some ⟨b, o, none⟩)] w fun e w' => e = .returned (.int .i64 (slK z.g z.p z.r)) ∧ Below w.heap.size w w' := by
  obtain ⟨hg, hp, hr, _⟩ := slB_bd hv
  obtain ⟨g, p, r, m⟩ := z
  obtain ⟨_, h0, h1, h2, h3⟩ := h
  dsimp only at *
  clear hv
  have q1 := mul_bd p p 400 400 hp hp
  have q2 := mul_bd (12 * r) r 4800 400 (by omega) (by omega)
  have w1 : IntKind.i64.wrap (p * p) = p * p := IntWalk.i64_in _ (by omega)
  have w2 : IntKind.i64.wrap (12 * r) = 12 * r := IntWalk.i64_in _ (by omega)
  have w3 : IntKind.i64.wrap (12 * r * r) = 12 * r * r := IntWalk.i64_in _ (by omega)
  have w4 : IntKind.i64.wrap (2 * r) = 2 * r := IntWalk.i64_in _ (by omega)
  unfold slK
  by_cases h1g : g = 1
  · subst h1g
    go_enter Try.func61, Try.ntmps61
    go_wp2
    go_ret
    exact ⟨rfl, Below.refl _ _⟩
  have h1b : (g == 1) = false := by simpa using h1g
  rw [if_neg h1g]
  by_cases h2r : p ≤ 2 * r
  · have d2 : decide (p ≤ 2 * r) = true := by simpa using h2r
    rw [if_pos h2r]
    go_enter Try.func61, Try.ntmps61
    go_wp2_with fail
    go_quiet (fail)
    go_wp2
    go_ret
    exact ⟨rfl, kept_drewN (Below.refl _ _) _⟩
  have d2 : decide (p ≤ 2 * r) = false := by simpa using h2r
  rw [if_neg h2r]
  by_cases h3r : p * p ≤ 12 * r * r
  · have d3 : decide (p * p ≤ 12 * r * r) = true := by simpa using h3r
    rw [if_pos h3r]
    go_enter Try.func61, Try.ntmps61
    go_wp2_with fail
    go_quiet (fail)
    go_wp2_with fail
    go_quiet (fail)
    go_wp2
    go_ret
    exact ⟨rfl, kept_drewN (kept_drewN (Below.refl _ _) _) _⟩
  · have d3 : decide (p * p ≤ 12 * r * r) = false := by simpa using h3r
    rw [if_neg h3r]
    go_enter Try.func61, Try.ntmps61
    go_wp2_with fail
    go_quiet (fail)
    go_wp2_with fail
    go_quiet (fail)
    go_wp2
    go_ret
    exact ⟨rfl, kept_drewN (kept_drewN (Below.refl _ _) _) _⟩

theorem specSlH_any (b o : Nat) (z : Sl) (k q : Int) (w : World) (h : SlAt w b o z) (hv : okSl z = true) (hk : 0 ≤ k ∧ k ≤ 50000) :
    Calls Try.prog 49 #[.pointer (some ⟨b, o, none⟩), .int .i64 k, .int .i64 q] w fun e w' => e = .returned (.bool (holdsSl z k q)) ∧ Below w.heap.size w w' := by
  have HK := Lib.hid (specSlK_any b o z w h hv)
  have HU := Lib.hid (fun u (x : SlAt u b o z) => specSlUp_any b o z k u x hv hk)
  have H := Lib.hid h; clear h hv hk
  unfold holdsSl slHolds
  generalize slK z.g z.p z.r = K at *
  generalize slUp z.g z.p z.r k = U at *
  by_cases hK : K < 3
  · have d1 : decide (K < 3) = true := by simpa using hK
    go_enter Try.func49, Try.ntmps49
    go_wp2_with fail
    refine HK.out.mono ?_
    rintro e w1 ⟨rfl, hb1⟩
    go_wp2_with fail
    refine (HU.out _ (SlAt_kept H.out hb1)).mono ?_
    rintro e w2 ⟨rfl, hb2⟩
    go_wp2
    go_ret
    exact ⟨by simp [d1], kept_trans hb1 hb2⟩
  · have d1 : decide (K < 3) = false := by simpa using hK
    go_enter Try.func49, Try.ntmps49
    go_wp2_with fail
    refine HK.out.mono ?_
    rintro e w1 ⟨rfl, hb1⟩
    go_wp2
    go_ret
    exact ⟨by simp [d1], hb1⟩

theorem specHM_any (g p r m : Int) (k : Int) (w : World) :
    Calls Try.prog 21 #[.agg #[.int .i64 g, .int .i64 p, .int .i64 r, .int .i64 m], .int .i64 k] w fun e w' => e = .returned (.tuple #[.int .i64 (hmL g p r m k).1, .int .i64 (hmL g p r m k).2]) ∧ Below w.heap.size w w' := by
  have HA := Lib.hid (SlAt_new g p r m w)
  have HC := fun u (x : SlAt u w.heap.size 0 ⟨g, p, r, m⟩) => specSlCode_any w.heap.size 0 ⟨g, p, r, m⟩ k u x
  have hE : okSl ⟨g, p, r, m⟩ = slB g p r m := rfl
  rw [hE] at HC
  unfold hmL
  by_cases hK : codeL3 (slB g p r m) [inB k 0 50000] = 0
  · rw [hK] at HC
    rw [if_pos hK]
    obtain ⟨hv, hbs⟩ := codeL3_ok hK
    have hk := inB_true (hbs _ (List.mem_singleton.2 rfl))
    have hm := (slB_bd hv).2.2.2
    have HC := Lib.hid HC
    clear hK hbs
    have w1 : IntKind.i64.wrap (k + m) = k + m := IntWalk.i64_in _ (by omega)
    have w2 : wrap64 (k + m) = k + m := IntWalk.wrap64_in _ (by omega)
    go_enter Try.func21, Try.ntmps21
    go_wp2_with fail
    refine (HC.out _ (SlAt_kept HA.out (by go_grown))).mono ?_
    rintro e w1 ⟨rfl, rfl⟩
    go_wp2
    go_ret2
    exact ⟨rfl, by go_grown⟩
  · rw [if_neg hK]
    have hK1 : (codeL3 (slB g p r m) [inB k 0 50000] == 0) = false := by simpa using hK
    have hK2 : (codeL3 (slB g p r m) [inB k 0 50000] != 0) = true := by simpa using hK
    generalize codeL3 (slB g p r m) [inB k 0 50000] = K at *
    have HC := Lib.hid HC
    go_enter Try.func21, Try.ntmps21
    go_wp2_with fail
    refine (HC.out _ (SlAt_kept HA.out (by go_grown))).mono ?_
    rintro e w1 ⟨rfl, rfl⟩
    go_wp2
    go_ret2
    exact ⟨rfl, by go_grown⟩

set_option maxHeartbeats 1000000 in
theorem specGW_any (g p r m : Int) (k : Int) (w : World) :
    Calls Try.prog 18 #[.agg #[.int .i64 g, .int .i64 p, .int .i64 r, .int .i64 m], .int .i64 k] w fun e w' => e = .returned (.tuple #[.int .i64 (gwAll g p r m k).1, .int .i64 (gwAll g p r m k).2]) ∧ Below w.heap.size w w' := by
  have HA := Lib.hid (SlAt_new g p r m w)
  have HC := fun u (x : SlAt u w.heap.size 0 ⟨g, p, r, m⟩) => specSlCode_any w.heap.size 0 ⟨g, p, r, m⟩ k u x
  have hE : okSl ⟨g, p, r, m⟩ = slB g p r m := rfl
  rw [hE] at HC
  unfold gwAll
  by_cases hK : codeL3 (slB g p r m) [inB k 0 50000] = 0
  · rw [hK] at HC
    rw [if_pos hK]
    obtain ⟨hv, hbs⟩ := codeL3_ok hK
    have hk := inB_true (hbs _ (List.mem_singleton.2 rfl))
    obtain ⟨hg, hp, hr, _⟩ := slB_bd hv
    have HC := Lib.hid HC
    have HD := fun u (x : SlAt u w.heap.size 0 ⟨g, p, r, m⟩) => specSlK_any w.heap.size 0 ⟨g, p, r, m⟩ u x (by rw [hE]; exact hv)
    dsimp only at HD
    have HU := fun n (hn : 0 ≤ n ∧ n ≤ 50000) u (x : SlAt u w.heap.size 0 ⟨g, p, r, m⟩) => specSlUp_any w.heap.size 0 ⟨g, p, r, m⟩ n u x (by rw [hE]; exact hv) hn
    dsimp only at HU
    have HG := Lib.hid (fun lo => @gw_found g p r k lo hg hp hr)
    have h00 := up_zero hg hp hr k hk.1
    generalize gwL g p r k = G at *
    have hfn : ∃ F : Int → Int, ∀ n, slUp g p r n = F n := ⟨_, fun _ => rfl⟩
    obtain ⟨F, hF⟩ := hfn
    simp only [hF] at HU HG h00
    clear hF hK hbs hE hg hp hr hv
    generalize slK g p r = K at *
    have HD := Lib.hid HD
    have HU := Lib.hid HU
    by_cases h3 : K = 3
    · subst h3
      go_enter Try.func18, Try.ntmps18
      go_wp2_with fail
      refine (HC.out _ (SlAt_kept HA.out (by go_grown))).mono ?_
      rintro e w1 ⟨rfl, rfl⟩
      go_wp2_with fail
      refine (HD.out _ (SlAt_kept HA.out (by go_grown))).mono ?_
      rintro e w2 ⟨rfl, hb2⟩
      have b2 := kept_trans (a := w) (by go_grown) hb2
      go_wp2
      go_ret2
      exact ⟨rfl, b2⟩
    · rw [if_neg h3]
      have h3b : (K == 3) = false := by simpa using h3
      go_enter Try.func18, Try.ntmps18
      go_wp2_with fail
      refine (HC.out _ (SlAt_kept HA.out (by go_grown))).mono ?_
      rintro e w1 ⟨rfl, rfl⟩
      go_wp2_with fail
      refine (HD.out _ (SlAt_kept HA.out (by go_grown))).mono ?_
      rintro e w2 ⟨rfl, hb2⟩
      have A2 := Lib.hid (SlAt_kept (SlAt_kept HA.out (by go_grown)) hb2)
      have b2 := kept_trans (a := w) (by go_grown) hb2
      have B2 := Lib.hid b2; clear b2 hb2
      go_wp2_with fail
      go_loopw [7, 8] (fun i j wr => ∃ lo hi : Int, 0 ≤ lo ∧ lo < hi ∧ hi ≤ 50001 ∧ i = .int .i64 lo ∧ j = .int .i64 hi ∧ F lo ≤ k ∧ (hi = 50001 ∨ k < F hi) ∧ Below w2.heap.size w2 wr) (fun i j _ => (intOf j - intOf i).toNat)
      case atStart => exact ⟨0, 50001, by omega, by omega, by omega, rfl, rfl, h00, Or.inl rfl, Below.refl _ _⟩
      case round =>
        obtain ⟨lo, hi, h1, h2, h3, rfl, rfl, h4, h5, hb⟩ := hrel
        by_cases hlt : 1 < hi - lo
        · have g1 : lo ≤ (lo + hi) / 2 := by omega
          have g2 : (lo + hi) / 2 < hi := by omega
          have hwm : (lo + hi).tdiv 2 = (lo + hi) / 2 := Int.tdiv_eq_ediv_of_nonneg (by omega)
          have H4 := Lib.hid h4; clear h4
          have H5 := Lib.hid h5; clear h5
          have hin : 0 ≤ (lo + hi) / 2 ∧ (lo + hi) / 2 ≤ 50000 := by omega
          by_cases hf : F ((lo + hi) / 2) ≤ k
          all_goals
            have HN := Lib.hid (HU.out _ hin wr (SlAt_kept A2.out hb))
            go_wp2_with fail
            refine HN.out.mono ?_
            rintro e w3 ⟨rfl, hb3⟩
            go_wp2
            go_roundw
            case rel => first
              | exact ⟨(lo + hi) / 2, hi, by omega, by omega, h3, rfl, rfl, hf, H5.out, kept_trans hb hb3⟩
              | exact ⟨lo, (lo + hi) / 2, h1, by omega, by omega, rfl, rfl, H4.out, Or.inr (by omega), kept_trans hb hb3⟩
            case measure => simp [intOf]; omega
        · have e : hi = lo + 1 := by omega
          subst e
          have hG := HG.out lo ⟨h1, by omega⟩ h4 h5
          subst hG
          clear h4 h5
          go_wp2
          go_ret2
          exact ⟨rfl, kept_trans B2.out hb⟩
  · rw [if_neg hK]
    have hK1 : (codeL3 (slB g p r m) [inB k 0 50000] == 0) = false := by simpa using hK
    have hK2 : (codeL3 (slB g p r m) [inB k 0 50000] != 0) = true := by simpa using hK
    generalize codeL3 (slB g p r m) [inB k 0 50000] = K at *
    have HC := Lib.hid HC
    go_enter Try.func18, Try.ntmps18
    go_wp2_with fail
    refine (HC.out _ (SlAt_kept HA.out (by go_grown))).mono ?_
    rintro e w1 ⟨rfl, rfl⟩
    go_wp2
    go_ret2
    exact ⟨rfl, by go_grown⟩

set_option maxHeartbeats 1000000 in
theorem implSlV_any (g p r m : Int) (w : World) :
    Calls Try.prog 26 #[.agg #[.int .i64 g, .int .i64 p, .int .i64 r, .int .i64 m]] w fun e w' => e = .returned (.bool (slB g p r m)) ∧ Below w.heap.size w w' := by
  have e1 : slB g p r m = ([g].all (fun n => inB n 1 4) && [p].all (fun n => inB n 0 400) && (decide (1 < g) || decide (p = 0)) && [r].all (fun n => inB n 1 400) && [m].all (fun n => inB n 0 1000)) := by
    simp only [slB, List.all_cons, List.all_nil, Bool.and_true]
    cases inB g 1 4 <;> cases inB p 0 400 <;> cases inB r 1 400 <;> cases inB m 0 1000 <;> simp
  rw [e1]; clear e1
  have H0 := fun v u q => within_any 1 4 v [g] u q
  have H1 := fun v u q => within_any 0 400 v [p] u q
  have H2 := fun v u q => within_any 1 400 v [r] u q
  have H3 := fun v u q => within_any 0 1000 v [m] u q
  generalize [g].all (fun n => inB n 1 4) = p0 at *
  generalize [p].all (fun n => inB n 0 400) = p1 at *
  generalize [r].all (fun n => inB n 1 400) = p2 at *
  generalize [m].all (fun n => inB n 0 1000) = p3 at *
  cases p0
  case false =>
    have H0 := Lib.hid H0
    go_enter Try.func26, Try.ntmps26
    go_wp2_with fail
    refine (H0.out _ _ (rdI1 (by go_size) (by go_simp))).mono ?_
    rintro e w1 ⟨rfl, hb1⟩
    have b1 := kept_trans (a := w) (by go_grown) hb1
    go_wp2
    go_ret
    exact ⟨rfl, b1⟩
  cases p1
  case false =>
    have H0 := Lib.hid H0
    have H1 := Lib.hid H1
    go_enter Try.func26, Try.ntmps26
    go_wp2_with fail
    refine (H0.out _ _ (rdI1 (by go_size) (by go_simp))).mono ?_
    rintro e w1 ⟨rfl, hb1⟩
    refine kept_at hb1 w.heap.size (by go_size) fun c1_0 z1_0 s1_0 => ?_
    have b1 := kept_trans (a := w) (by go_grown) hb1
    go_wp2_with fail
    refine (H1.out _ _ (rdI1 (by go_size) (by go_simp))).mono ?_
    rintro e w2 ⟨rfl, hb2⟩
    have b2 := kept_trans (a := w) (by go_grown) hb2
    go_wp2
    go_ret
    exact ⟨rfl, b2⟩
  by_cases hc : 1 < g ∨ p = 0
  case neg =>
    have d0 : decide (1 < g) = false := by simp; omega
    have d1 : (p == 0) = false := by simp; omega
    have d2 : (decide (1 < g) || decide (p = 0)) = false := by simp; omega
    have d3 : ¬ 1 < g := by omega
    have d4 : ¬ p = 0 := by omega
    rw [d2]
    clear hc d2
    have H0 := Lib.hid H0
    have H1 := Lib.hid H1
    go_enter Try.func26, Try.ntmps26
    go_wp2_with fail
    refine (H0.out _ _ (rdI1 (by go_size) (by go_simp))).mono ?_
    rintro e w1 ⟨rfl, hb1⟩
    refine kept_at hb1 w.heap.size (by go_size) fun c1_0 z1_0 s1_0 => ?_
    have b1 := kept_trans (a := w) (by go_grown) hb1
    go_wp2_with fail
    refine (H1.out _ _ (rdI1 (by go_size) (by go_simp))).mono ?_
    rintro e w2 ⟨rfl, hb2⟩
    refine kept_at hb2 w.heap.size (by go_size) fun c2_0 z2_0 s2_0 => ?_
    have b2 := kept_trans (a := w) (by go_grown) hb2
    go_wp2
    go_ret
    exact ⟨by simp, b2⟩
  have d2 : (decide (1 < g) || decide (p = 0)) = true := by simp; omega
  rw [d2]
  clear d2
  have hc2 : (1 < g) ∨ (¬ 1 < g ∧ p = 0) := by omega
  clear hc
  cases p2
  case false =>
    rcases hc2 with hg | ⟨hg, hp⟩
    all_goals
      (try subst hp)
      have H0 := Lib.hid H0
      have H1 := Lib.hid H1
      have H2 := Lib.hid H2
      go_enter Try.func26, Try.ntmps26
      go_wp2_with fail
      refine (H0.out _ _ (rdI1 (by go_size) (by go_simp))).mono ?_
      rintro e w1 ⟨rfl, hb1⟩
      refine kept_at hb1 w.heap.size (by go_size) fun c1_0 z1_0 s1_0 => ?_
      have b1 := kept_trans (a := w) (by go_grown) hb1
      go_wp2_with fail
      refine (H1.out _ _ (rdI1 (by go_size) (by go_simp))).mono ?_
      rintro e w2 ⟨rfl, hb2⟩
      refine kept_at hb2 w.heap.size (by go_size) fun c2_0 z2_0 s2_0 => ?_
      have b2 := kept_trans (a := w) (by go_grown) hb2
      go_wp2_with fail
      refine (H2.out _ _ (rdI1 (by go_size) (by go_simp))).mono ?_
      rintro e w3 ⟨rfl, hb3⟩
      have b3 := kept_trans (a := w) (by go_grown) hb3
      go_wp2
      go_ret
      exact ⟨by simp, b3⟩
  case true =>
    rcases hc2 with hg | ⟨hg, hp⟩
    all_goals
      (try subst hp)
      have H0 := Lib.hid H0
      have H1 := Lib.hid H1
      have H2 := Lib.hid H2
      have H3 := Lib.hid H3
      go_enter Try.func26, Try.ntmps26
      go_wp2_with fail
      refine (H0.out _ _ (rdI1 (by go_size) (by go_simp))).mono ?_
      rintro e w1 ⟨rfl, hb1⟩
      refine kept_at hb1 w.heap.size (by go_size) fun c1_0 z1_0 s1_0 => ?_
      have b1 := kept_trans (a := w) (by go_grown) hb1
      go_wp2_with fail
      refine (H1.out _ _ (rdI1 (by go_size) (by go_simp))).mono ?_
      rintro e w2 ⟨rfl, hb2⟩
      refine kept_at hb2 w.heap.size (by go_size) fun c2_0 z2_0 s2_0 => ?_
      have b2 := kept_trans (a := w) (by go_grown) hb2
      go_wp2_with fail
      refine (H2.out _ _ (rdI1 (by go_size) (by go_simp))).mono ?_
      rintro e w3 ⟨rfl, hb3⟩
      refine kept_at hb3 w.heap.size (by go_size) fun c3_0 z3_0 s3_0 => ?_
      have b3 := kept_trans (a := w) (by go_grown) hb3
      go_wp2_with fail
      refine (H3.out _ _ (rdI1 (by go_size) (by go_simp))).mono ?_
      rintro e w4 ⟨rfl, hb4⟩
      have b4 := kept_trans (a := w) (by go_grown) hb4
      go_wp2
      go_ret
      exact ⟨by simp, b4⟩

theorem slCode_any (g p r m : Int) (v : Value) (zs : List Int) (w : World) (hz : RdI w v zs) :
    Calls Try.prog 63 #[.agg #[.int .i64 g, .int .i64 p, .int .i64 r, .int .i64 m], v] w fun e w' => e = .returned (.int .i64 (codeL3 (slB g p r m) (zs.map fun n => inB n 0 50000))) ∧ Below w.heap.size w w' := by
  have HV := Lib.hid (fun u => implSlV_any g p r m u)
  have HW := fun u (q : RdI u v zs) => within_any 0 50000 v zs u q
  have eA : (zs.all fun n => inB n 0 50000) = (zs.map fun n => inB n 0 50000).all id := by simp [List.all_map]
  rw [eA] at HW
  obtain ⟨A, n, c, hv⟩ : ∃ A n c, v = .slice A n c := by obtain ⟨_, A, c, e, _⟩ := hz; exact ⟨_, _, _, e⟩
  unfold codeL3
  have H := Lib.hid hz; clear hz eA
  generalize (zs.map fun n => inB n 0 50000).all id = P at *
  have HW := Lib.hid HW
  generalize slB g p r m = B at *
  subst hv
  cases B
  case false =>
    go_enter Try.func63, Try.ntmps63
    go_wp2_with fail
    refine (HV.out _).mono ?_
    rintro e w1 ⟨rfl, hb1⟩
    have b1 := kept_trans (a := w) (by go_grown) hb1
    go_wp2
    go_ret
    exact ⟨rfl, b1⟩
  case true =>
    cases P
    all_goals
      go_enter Try.func63, Try.ntmps63
      go_wp2_with fail
      refine (HV.out _).mono ?_
      rintro e w1 ⟨rfl, hb1⟩
      have b1 := kept_trans (a := w) (by go_grown) hb1
      go_wp2_with fail
      refine (HW.out _ (RdI_kept H.out b1)).mono ?_
      rintro e w2 ⟨rfl, hb2⟩
      go_wp2
      go_ret
      exact ⟨rfl, kept_trans b1 hb2⟩

set_option maxHeartbeats 1000000 in
theorem doubleLen_any (g p r m : Int) (hp : 0 ≤ p ∧ p ≤ 400) (hr : 1 ≤ r ∧ r ≤ 400) (w : World) :
    Calls Try.prog 68 #[.agg #[.int .i64 g, .int .i64 p, .int .i64 r, .int .i64 m]] w fun e w' => e = .returned (.int .i64 (slD p r)) ∧ Below w.heap.size w w' := by
  have hb := slSq_bd p r hp hr
  have q1 := mul_bd p p 400 400 hp hp
  have q2 := mul_bd (4 * r) r 1600 400 (by omega) (by omega)
  have hini : slSq p r < (p + 2 * r + 1) * (p + 2 * r + 1) := by
    have e : (p + 2 * r + 1) * (p + 2 * r + 1) = slSq p r + 4 * (p * r) + 2 * p + 4 * r + 1 := by unfold slSq; grind
    have := Int.mul_nonneg hp.1 (show 0 ≤ r by omega)
    omega
  have HN := Lib.hid (fun x => newton_end (slSq p r) x)
  unfold slD
  have eS : slSq p r = p * p + 4 * r * r := rfl
  have w1 : IntKind.i64.wrap (p * p) = p * p := IntWalk.i64_in _ (by omega)
  have w2 : IntKind.i64.wrap (4 * r) = 4 * r := IntWalk.i64_in _ (by omega)
  have w3 : IntKind.i64.wrap (4 * r * r) = 4 * r * r := IntWalk.i64_in _ (by omega)
  have w4 : IntKind.i64.wrap (p * p + 4 * r * r) = slSq p r := by rw [eS]; exact IntWalk.i64_in _ (by omega)
  have v1 : wrap64 (p * p) = p * p := IntWalk.wrap64_in _ (by omega)
  have v2 : wrap64 (4 * r) = 4 * r := IntWalk.wrap64_in _ (by omega)
  have v3 : wrap64 (4 * r * r) = 4 * r * r := IntWalk.wrap64_in _ (by omega)
  have v4 : wrap64 (p * p + 4 * r * r) = slSq p r := by rw [eS]; exact IntWalk.wrap64_in _ (by omega)
  clear eS
  generalize slSq p r = S at *
  generalize rootL S = D at *
  go_enter Try.func68, Try.ntmps68
  go_wp2_with fail
  clear w1 w2 w3 w4 v1 v2 v3 v4
  go_loopw [4] (fun i wr => ∃ x : Int, 0 ≤ x ∧ x ≤ 1200 ∧ i = .int .i64 x ∧ S < (x + 1) * (x + 1) ∧ Below w.heap.size w wr) (fun i _ => (intOf i).toNat)
  case atStart => exact ⟨p + 2 * r, by omega, by omega, rfl, hini, by go_grown⟩
  case round =>
    obtain ⟨x, h0, h1, rfl, h2, hb⟩ := hrel
    have hx := sq_bd x 1200 (by omega) h1
    have y1 : IntKind.i64.wrap (x * x) = x * x := IntWalk.i64_in _ (by omega)
    have y2 : wrap64 (x * x) = x * x := IntWalk.wrap64_in _ (by omega)
    by_cases hlt : S < x * x
    · have hx0 : 0 < x := by
        rcases Int.lt_or_le 0 x with h | h
        · exact h
        · have : x = 0 := by omega
          subst this
          omega
      have hne : ¬ x = 0 := by omega
      have hne1 : ¬ x = -1 := by omega
      have hneb : (x == 0) = false := by simpa using hne
      have hd1 : S.tdiv x = S / x := Int.tdiv_eq_ediv_of_nonneg (by omega)
      have hst := newton_step S x (by omega) hx0
      have hdn := newton_down S x (by omega) hx0 hlt
      have hq0 : 0 ≤ S / x := Int.ediv_nonneg (by omega) (by omega)
      have hqx : S / x < x := Int.ediv_lt_of_lt_mul hx0 hlt
      have HD1 := Lib.hid hd1; clear hd1
      have hw5 : IntKind.i64.wrap (S.tdiv x) = S / x := by rw [HD1.out]; exact IntWalk.i64_in _ (by omega)
      have hw6 : wrap64 (S.tdiv x) = S / x := by rw [HD1.out]; exact IntWalk.wrap64_in _ (by omega)
      generalize S / x = q at *
      have hd2 : (x + q).tdiv 2 = (x + q) / 2 := Int.tdiv_eq_ediv_of_nonneg (by omega)
      have HST := Lib.hid hst; clear hst
      go_wp2
      go_roundw
      case rel => exact ⟨(x + q) / 2, by omega, by omega, by simp [*, HD1.out] <;> omega, HST.out, hb⟩
      case measure => simp [intOf] <;> omega
    · have hE := HN.out x h0 h2 (by omega)
      by_cases hlt2 : x * x < S
      · rw [if_pos hlt2] at hE
        subst hE
        have y3 : IntKind.i64.wrap (x + 1) = x + 1 := IntWalk.i64_in _ (by omega)
        have y4 : wrap64 (x + 1) = x + 1 := IntWalk.wrap64_in _ (by omega)
        clear h2
        go_wp2
        go_ret
        exact ⟨rfl, hb⟩
      · rw [if_neg hlt2] at hE
        subst hE
        clear h2
        go_wp2
        go_ret
        exact ⟨rfl, hb⟩

/-- What depends on whether a sling has one leg or several. -/
def shapeL (g p r m : Int) : Value := if g = 1 then .iface 94 (.agg #[]) else .iface 96 (.agg #[.int .i64 g, .int .i64 p, .int .i64 r, .int .i64 m])

theorem rigged_any (g p r m : Int) (w : World) :
    Calls Try.prog 54 #[.agg #[.int .i64 g, .int .i64 p, .int .i64 r, .int .i64 m]] w fun e w' => e = .returned (.agg #[.int .i64 g, .int .i64 p, .int .i64 r, .int .i64 m, shapeL g p r m]) ∧ Below w.heap.size w w' := by
  unfold shapeL
  by_cases h : g = 1
  · rw [if_pos h]
    subst h
    go_enter Try.func54, Try.ntmps54
    go_wp2
    (try simp only [Exit.inBlock, Exit.then])
    refine bodyPost_ret (v := .agg #[.int .i64 1, .int .i64 p, .int .i64 r, .int .i64 m, .iface 94 (.agg #[])]) ?_ rfl ⟨rfl, ?_⟩
    · rw [results_cell1 rfl]
      go_simp
    · go_grown
  · rw [if_neg h]
    have hb : (g == 1) = false := by simpa using h
    go_enter Try.func54, Try.ntmps54
    go_wp2
    (try simp only [Exit.inBlock, Exit.then])
    refine bodyPost_ret (v := .agg #[.int .i64 g, .int .i64 p, .int .i64 r, .int .i64 m, .iface 96 (.agg #[.int .i64 g, .int .i64 p, .int .i64 r, .int .i64 m])]) ?_ rfl ⟨rfl, ?_⟩
    · rw [results_cell1 rfl]
      go_simp
    · go_grown

theorem plumbB_any (w : World) : Calls Try.prog 109 #[.agg #[]] w fun e w' => e = .returned (.int .i64 1) ∧ Below w.heap.size w w' := by
  go_enter Try.func109, Try.ntmps109
  go_wp2
  go_ret
  exact ⟨rfl, by go_grown⟩

theorem plumbK_any (w : World) : Calls Try.prog 110 #[.agg #[]] w fun e w' => e = .returned (.int .i64 0) ∧ Below w.heap.size w w' := by
  go_enter Try.func110, Try.ntmps110
  go_wp2
  go_ret
  exact ⟨rfl, by go_grown⟩

theorem spreadB_any (g p r m : Int) (w : World) : Calls Try.prog 111 #[.agg #[.int .i64 g, .int .i64 p, .int .i64 r, .int .i64 m]] w fun e w' => e = .returned (.int .i64 (bearL g)) ∧ Below w.heap.size w w' := by
  unfold bearL
  by_cases h : 3 < g
  · rw [if_pos h]
    go_enter Try.func111, Try.ntmps111
    go_wp2
    all_goals
      go_ret
      exact ⟨by simp <;> omega, by go_grown⟩
  · rw [if_neg h]
    go_enter Try.func111, Try.ntmps111
    go_wp2
    all_goals
      go_ret
      exact ⟨by simp <;> omega, by go_grown⟩

theorem spreadK_any (g p r m : Int) (hp : 0 ≤ p ∧ p ≤ 400) (hr : 1 ≤ r ∧ r ≤ 400) (hg : ¬ g = 1) (w : World) : Calls Try.prog 112 #[.agg #[.int .i64 g, .int .i64 p, .int .i64 r, .int .i64 m]] w fun e w' => e = .returned (.int .i64 (slK g p r)) ∧ Below w.heap.size w w' := by
  have q1 := mul_bd p p 400 400 hp hp
  have q2 := mul_bd (12 * r) r 4800 400 (by omega) (by omega)
  have w1 : IntKind.i64.wrap (p * p) = p * p := IntWalk.i64_in _ (by omega)
  have w2 : IntKind.i64.wrap (12 * r) = 12 * r := IntWalk.i64_in _ (by omega)
  have w3 : IntKind.i64.wrap (12 * r * r) = 12 * r * r := IntWalk.i64_in _ (by omega)
  have w4 : IntKind.i64.wrap (2 * r) = 2 * r := IntWalk.i64_in _ (by omega)
  have v1 : wrap64 (p * p) = p * p := IntWalk.wrap64_in _ (by omega)
  have v2 : wrap64 (12 * r) = 12 * r := IntWalk.wrap64_in _ (by omega)
  have v3 : wrap64 (12 * r * r) = 12 * r * r := IntWalk.wrap64_in _ (by omega)
  have v4 : wrap64 (2 * r) = 2 * r := IntWalk.wrap64_in _ (by omega)
  unfold slK
  rw [if_neg hg]
  clear hg
  by_cases h2 : p ≤ 2 * r
  · have d2 : decide (p ≤ 2 * r) = true := by simpa using h2
    rw [if_pos h2]
    go_enter Try.func112, Try.ntmps112
    go_wp2
    go_ret
    exact ⟨rfl, by go_grown⟩
  have d2 : decide (p ≤ 2 * r) = false := by simpa using h2
  rw [if_neg h2]
  by_cases h3 : p * p ≤ 12 * r * r
  · have d3 : decide (p * p ≤ 12 * r * r) = true := by simpa using h3
    rw [if_pos h3]
    go_enter Try.func112, Try.ntmps112
    go_wp2
    go_ret
    exact ⟨rfl, by go_grown⟩
  · have d3 : decide (p * p ≤ 12 * r * r) = false := by simpa using h3
    rw [if_neg h3]
    go_enter Try.func112, Try.ntmps112
    go_wp2
    go_ret
    exact ⟨rfl, by go_grown⟩

set_option maxHeartbeats 4000000 in
theorem force_any (g p r m : Int) (k : Int) (w : World) (hv : slB g p r m = true) (hk : 0 ≤ k ∧ k ≤ 50000) :
    Calls Try.prog 64 #[.agg #[.int .i64 g, .int .i64 p, .int .i64 r, .int .i64 m, shapeL g p r m], .int .i64 k] w fun e w' => e = .returned (.agg #[.int .i64 (k * slD p r), .int .i64 (slE g r)]) ∧ Below w.heap.size w w' := by
  obtain ⟨hg, hp, hr, _⟩ := slB_bd hv
  clear hv
  have HD := Lib.hid (fun u => doubleLen_any g p r m hp hr u)
  have hD := slD_bd p r hp hr
  have hN := mul_bd k (slD p r) 50000 1200 hk (by omega)
  generalize slD p r = D at *
  have w1 : IntKind.i64.wrap (k * D) = k * D := IntWalk.i64_in _ (by omega)
  have v1 : wrap64 (k * D) = k * D := IntWalk.wrap64_in _ (by omega)
  unfold slE shapeL
  by_cases h1 : g = 1
  · rw [if_pos h1]
    subst h1
    rw [show 2 * bearL 1 * r = 2 * r from rfl]
    have kw2 : IntKind.i64.wrap (2 * r) = 2 * r := IntWalk.i64_in _ (by omega)
    have v2 : wrap64 (2 * r) = 2 * r := IntWalk.wrap64_in _ (by omega)
    go_enter Try.func64, Try.ntmps64
    go_wp2_with fail
    first
      | go_region_held3 (fun w' => w'.cell? ⟨w.heap.size, 0, none⟩ = some (.int .i64 1) ∧ w'.cell? ⟨w.heap.size, 1, none⟩ = some (.int .i64 p) ∧ w'.cell? ⟨w.heap.size, 2, none⟩ = some (.int .i64 r) ∧ w'.cell? ⟨w.heap.size, 3, none⟩ = some (.int .i64 m) ∧ w'.cell? ⟨w.heap.size, 4, none⟩ = some (.iface 94 (.agg #[])))
          (first | go_keep | (simp [*]; done)) (first
          | (go_at_call 68; refine (HD.out _).mono ?_; rintro e w1 ⟨rfl, hb1⟩; refine kept_at hb1 (w.heap.size) (by go_size) fun c1_0 z1_0 s1_0 => ?_; refine kept_at hb1 (w.heap.size + 1) (by go_size) fun c1_1 z1_1 s1_1 => ?_; have b1 := kept_trans (a := w) (by first | (go_grown; done) | (refine kept_drewN ?_ _; go_grown; done) | (go_grown; refine kept_drewN ?_ _; go_grown)) hb1)
          | (go_at_call 109; refine (plumbB_any _).mono ?_; rintro e w2 ⟨rfl, hb2⟩; refine kept_at hb2 (w.heap.size) (by go_size) fun c2_0 z2_0 s2_0 => ?_; refine kept_at hb2 (w.heap.size + 1) (by go_size) fun c2_1 z2_1 s2_1 => ?_; have b2 := kept_trans (a := w) (by first | (go_grown; done) | (refine kept_drewN ?_ _; go_grown; done) | (go_grown; refine kept_drewN ?_ _; go_grown)) hb2))
      | fail
    all_goals
      go_wp2
      (try simp only [Exit.inBlock, Exit.then])
      refine bodyPost_ret (v := .agg #[.int .i64 (k * D), .int .i64 (2 * r)]) ?_ rfl ⟨rfl, ?_⟩
      · rw [results_cell1 rfl]
        go_simp
        first | done | (rw [show IntKind.i64.wrap 2 = 2 from rfl]; exact kw2)
      · exact (by first | (go_grown; done) | (refine kept_drewN ?_ _; go_grown; done) | (go_grown; refine kept_drewN ?_ _; go_grown))
  · rw [if_neg h1]
    have hB := bearL_bd hg
    have HB := Lib.hid (fun u => spreadB_any g p r m u)
    generalize bearL g = Be at *
    have q2 := mul_bd (2 * Be) r 6 400 (by omega) (by omega)
    have w2 : IntKind.i64.wrap (2 * Be) = 2 * Be := IntWalk.i64_in _ (by omega)
    have v2 : wrap64 (2 * Be) = 2 * Be := IntWalk.wrap64_in _ (by omega)
    have w3 : IntKind.i64.wrap (2 * Be * r) = 2 * Be * r := IntWalk.i64_in _ (by omega)
    have v3 : wrap64 (2 * Be * r) = 2 * Be * r := IntWalk.wrap64_in _ (by omega)
    go_enter Try.func64, Try.ntmps64
    go_wp2_with fail
    first
      | go_region_held3 (fun w' => w'.cell? ⟨w.heap.size, 0, none⟩ = some (.int .i64 g) ∧ w'.cell? ⟨w.heap.size, 1, none⟩ = some (.int .i64 p) ∧ w'.cell? ⟨w.heap.size, 2, none⟩ = some (.int .i64 r) ∧ w'.cell? ⟨w.heap.size, 3, none⟩ = some (.int .i64 m) ∧ w'.cell? ⟨w.heap.size, 4, none⟩ = some (.iface 96 (.agg #[.int .i64 g, .int .i64 p, .int .i64 r, .int .i64 m])))
          (first | go_keep | (simp [*]; done)) (first
          | (go_at_call 68; refine (HD.out _).mono ?_; rintro e w1 ⟨rfl, hb1⟩; refine kept_at hb1 (w.heap.size) (by go_size) fun c1_0 z1_0 s1_0 => ?_; refine kept_at hb1 (w.heap.size + 1) (by go_size) fun c1_1 z1_1 s1_1 => ?_; have b1 := kept_trans (a := w) (by first | (go_grown; done) | (refine kept_drewN ?_ _; go_grown; done) | (go_grown; refine kept_drewN ?_ _; go_grown)) hb1)
          | (go_at_call 111; refine (HB.out _).mono ?_; rintro e w2 ⟨rfl, hb2⟩; refine kept_at hb2 (w.heap.size) (by go_size) fun c2_0 z2_0 s2_0 => ?_; refine kept_at hb2 (w.heap.size + 1) (by go_size) fun c2_1 z2_1 s2_1 => ?_; have b2 := kept_trans (a := w) (by first | (go_grown; done) | (refine kept_drewN ?_ _; go_grown; done) | (go_grown; refine kept_drewN ?_ _; go_grown)) hb2))
      | fail
    all_goals
      go_wp2
      (try simp only [Exit.inBlock, Exit.then])
      refine bodyPost_ret (v := .agg #[.int .i64 (k * D), .int .i64 (2 * Be * r)]) ?_ rfl ⟨rfl, ?_⟩
      · rw [results_cell1 rfl]
        go_simp
      · exact (by first | (go_grown; done) | (refine kept_drewN ?_ _; go_grown; done) | (go_grown; refine kept_drewN ?_ _; go_grown))

theorem forceUp_any (g p r m : Int) (k : Int) (w : World) (hv : slB g p r m = true) (hk : 0 ≤ k ∧ k ≤ 50000) :
    Calls Try.prog 65 #[.agg #[.int .i64 g, .int .i64 p, .int .i64 r, .int .i64 m, shapeL g p r m], .int .i64 k] w fun e w' => e = .returned (.int .i64 (slUp g p r k)) ∧ Below w.heap.size w w' := by
  have HF := Lib.hid (fun u => force_any g p r m k u hv hk)
  obtain ⟨hg, hp, hr, _⟩ := slB_bd hv
  have hD := slD_bd p r hp hr
  have hE := slE_bd g r hg hr
  have hN := mul_bd k (slD p r) 50000 1200 hk (by omega)
  have HU := Lib.hid (fun u => implUp_any (k * slD p r) (slE g r) (by omega) (by omega) u)
  unfold slUp
  clear hv
  generalize upL (k * slD p r) (slE g r) = U at *
  generalize k * slD p r = X at *
  generalize slE g r = Y at *
  have hs : ∃ t v, shapeL g p r m = .iface t v := by unfold shapeL; split <;> exact ⟨_, _, rfl⟩
  obtain ⟨t, v, hs⟩ := hs
  rw [hs] at HF ⊢
  clear hs
  go_enter Try.func65, Try.ntmps65
  go_wp2_with fail
  refine (HF.out _).mono ?_
  rintro e w1 ⟨rfl, hb1⟩
  have b1 := kept_trans (a := w) (by go_grown) hb1
  go_wp2_with fail
  refine (HU.out _).mono ?_
  rintro e w2 ⟨rfl, rfl⟩
  go_wp2
  go_ret
  exact ⟨rfl, kept_trans b1 (by go_grown)⟩

theorem holds_any (g p r m : Int) (k q : Int) (w : World) (hv : slB g p r m = true) (hk : 0 ≤ k ∧ k ≤ 50000) :
    Calls Try.prog 55 #[.agg #[.int .i64 g, .int .i64 p, .int .i64 r, .int .i64 m, shapeL g p r m], .int .i64 k, .int .i64 q] w fun e w' => e = .returned (.bool (slHolds g p r k q)) ∧ Below w.heap.size w w' := by
  have hU := fun u => forceUp_any g p r m k u hv hk
  obtain ⟨hg, hp, hr, _⟩ := slB_bd hv
  clear hv hk
  unfold slHolds
  unfold shapeL at *
  by_cases h1 : g = 1
  · rw [if_pos h1] at hU ⊢
    have eK : slK g p r = 0 := by unfold slK; rw [if_pos h1]
    rw [eK]
    clear eK
    subst h1
    generalize slUp 1 p r k = U at *
    have HU := Lib.hid hU
    go_enter Try.func55, Try.ntmps55
    go_wp2_with fail
    refine (plumbK_any _).mono ?_
    rintro e w1 ⟨rfl, hb1⟩
    refine kept_at hb1 w.heap.size (by go_size) fun c1_0 z1_0 s1_0 => ?_
    have b1 := kept_trans (a := w) (by go_grown) hb1
    go_wp2_with fail
    refine (HU.out _).mono ?_
    rintro e w2 ⟨rfl, hb2⟩
    have b2 := kept_trans b1 hb2
    go_wp2
    go_ret
    exact ⟨by simp, b2⟩
  · rw [if_neg h1] at hU ⊢
    have HK := fun u => spreadK_any g p r m hp hr h1 u
    have hle := slK_le g p r
    generalize slK g p r = K at *
    generalize slUp g p r k = U at *
    have HK := Lib.hid HK
    have HU := Lib.hid hU
    by_cases hK : K = 3
    · subst hK
      go_enter Try.func55, Try.ntmps55
      go_wp2_with fail
      refine (HK.out _).mono ?_
      rintro e w1 ⟨rfl, hb1⟩
      have b1 := kept_trans (a := w) (by go_grown) hb1
      go_wp2
      go_ret
      exact ⟨by simp, b1⟩
    · have hKb : (K != 3) = true := by simpa using hK
      have hKc : (K == 3) = false := by simpa using hK
      have hlt : decide (K < 3) = true := by simp; omega
      rw [hlt]
      go_enter Try.func55, Try.ntmps55
      go_wp2_with fail
      refine (HK.out _).mono ?_
      rintro e w1 ⟨rfl, hb1⟩
      refine kept_at hb1 w.heap.size (by go_size) fun c1_0 z1_0 s1_0 => ?_
      have b1 := kept_trans (a := w) (by go_grown) hb1
      go_wp2_with fail
      refine (HU.out _).mono ?_
      rintro e w2 ⟨rfl, hb2⟩
      have b2 := kept_trans b1 hb2
      go_wp2
      go_ret
      exact ⟨by simp, b2⟩

theorem implFU_any (g p r m : Int) (k : Int) (w : World) :
    Calls Try.prog 23 #[.agg #[.int .i64 g, .int .i64 p, .int .i64 r, .int .i64 m], .int .i64 k] w fun e w' => e = .returned (.tuple #[.int .i64 (fuL g p r m k).1, .int .i64 (fuL g p r m k).2]) ∧ Below w.heap.size w w' := by
  have HC := fun u v (x : RdI u v [k]) => slCode_any g p r m v [k] u x
  rw [show ([k].map fun n => inB n 0 50000) = [inB k 0 50000] from rfl] at HC
  unfold fuL
  by_cases hK : codeL3 (slB g p r m) [inB k 0 50000] = 0
  · rw [hK] at HC
    rw [if_pos hK]
    obtain ⟨hv, hbs⟩ := codeL3_ok hK
    have hk := inB_true (hbs _ (List.mem_singleton.2 rfl))
    have HC := Lib.hid (fun u v x => HC u v x)
    have HR := Lib.hid (fun u => rigged_any g p r m u)
    have HF := Lib.hid (fun u => forceUp_any g p r m k u hv hk)
    clear hK hbs hv
    generalize slUp g p r k = U at *
    generalize shapeL g p r m = V at *
    go_enter Try.func23, Try.ntmps23
    go_wp2_with fail
    refine (HC.out _ _ (rdI1 (by go_size) (by go_simp))).mono ?_
    rintro e w1 ⟨rfl, hb1⟩
    refine kept_at hb1 w.heap.size (by go_size) fun c1_0 z1_0 s1_0 => ?_
    have b1 := kept_trans (a := w) (by go_grown) hb1
    go_wp2_with fail
    refine (HR.out _).mono ?_
    rintro e w2 ⟨rfl, hb2⟩
    have b2 := kept_trans b1 hb2
    go_wp2_with fail
    refine (HF.out _).mono ?_
    rintro e w3 ⟨rfl, hb3⟩
    have b3 := kept_trans b2 hb3
    go_wp2
    go_ret2
    exact ⟨rfl, b3⟩
  · rw [if_neg hK]
    have hK1 : (codeL3 (slB g p r m) [inB k 0 50000] == 0) = false := by simpa using hK
    have hK2 : (codeL3 (slB g p r m) [inB k 0 50000] != 0) = true := by simpa using hK
    generalize codeL3 (slB g p r m) [inB k 0 50000] = K at *
    have HC := Lib.hid (fun u v x => HC u v x)
    go_enter Try.func23, Try.ntmps23
    go_wp2_with fail
    refine (HC.out _ _ (rdI1 (by go_size) (by go_simp))).mono ?_
    rintro e w1 ⟨rfl, hb1⟩
    have b1 := kept_trans (a := w) (by go_grown) hb1
    go_wp2
    go_ret2
    exact ⟨rfl, b1⟩

theorem implHM_any (g p r m : Int) (k : Int) (w : World) :
    Calls Try.prog 22 #[.agg #[.int .i64 g, .int .i64 p, .int .i64 r, .int .i64 m], .int .i64 k] w fun e w' => e = .returned (.tuple #[.int .i64 (hmL g p r m k).1, .int .i64 (hmL g p r m k).2]) ∧ Below w.heap.size w w' := by
  have HC := fun u v (x : RdI u v [k]) => slCode_any g p r m v [k] u x
  rw [show ([k].map fun n => inB n 0 50000) = [inB k 0 50000] from rfl] at HC
  unfold hmL
  by_cases hK : codeL3 (slB g p r m) [inB k 0 50000] = 0
  · rw [hK] at HC
    rw [if_pos hK]
    obtain ⟨hv, hbs⟩ := codeL3_ok hK
    have hk := inB_true (hbs _ (List.mem_singleton.2 rfl))
    have hm := (slB_bd hv).2.2.2
    have HC := Lib.hid (fun u v x => HC u v x)
    clear hK hbs hv
    have kw1 : IntKind.i64.wrap (k + m) = k + m := IntWalk.i64_in _ (by omega)
    have kw2 : wrap64 (k + m) = k + m := IntWalk.wrap64_in _ (by omega)
    go_enter Try.func22, Try.ntmps22
    go_wp2_with fail
    refine (HC.out _ _ (rdI1 (by go_size) (by go_simp))).mono ?_
    rintro e w1 ⟨rfl, hb1⟩
    refine kept_at hb1 w.heap.size (by go_size) fun c1_0 z1_0 s1_0 => ?_
    have b1 := kept_trans (a := w) (by go_grown) hb1
    go_wp2
    go_ret2
    exact ⟨rfl, b1⟩
  · rw [if_neg hK]
    have hK1 : (codeL3 (slB g p r m) [inB k 0 50000] == 0) = false := by simpa using hK
    have hK2 : (codeL3 (slB g p r m) [inB k 0 50000] != 0) = true := by simpa using hK
    generalize codeL3 (slB g p r m) [inB k 0 50000] = K at *
    have HC := Lib.hid (fun u v x => HC u v x)
    go_enter Try.func22, Try.ntmps22
    go_wp2_with fail
    refine (HC.out _ _ (rdI1 (by go_size) (by go_simp))).mono ?_
    rintro e w1 ⟨rfl, hb1⟩
    have b1 := kept_trans (a := w) (by go_grown) hb1
    go_wp2
    go_ret2
    exact ⟨rfl, b1⟩

set_option maxHeartbeats 1000000 in
theorem implGW_any (g p r m : Int) (k : Int) (w : World) :
    Calls Try.prog 19 #[.agg #[.int .i64 g, .int .i64 p, .int .i64 r, .int .i64 m], .int .i64 k] w fun e w' => e = .returned (.tuple #[.int .i64 (gwAll g p r m k).1, .int .i64 (gwAll g p r m k).2]) ∧ Below w.heap.size w w' := by
  have HC := fun u v (x : RdI u v [k]) => slCode_any g p r m v [k] u x
  rw [show ([k].map fun n => inB n 0 50000) = [inB k 0 50000] from rfl] at HC
  unfold gwAll
  by_cases hK : codeL3 (slB g p r m) [inB k 0 50000] = 0
  · rw [hK] at HC
    rw [if_pos hK]
    obtain ⟨hv, hbs⟩ := codeL3_ok hK
    have hk := inB_true (hbs _ (List.mem_singleton.2 rfl))
    have HC := Lib.hid (fun u v x => HC u v x)
    have HR := fun u => rigged_any g p r m u
    have HF := fun u => force_any g p r m 1 u hv (by omega)
    rw [Int.one_mul] at HF
    obtain ⟨hg, hp, hr, _⟩ := slB_bd hv
    have hD := slD_bd p r hp hr
    have hE := slE_bd g r hg hr
    have hN := mul_bd k (slE g r) 50000 2400 hk (by omega)
    have hq0 : 0 ≤ k * slE g r / slD p r := Int.ediv_nonneg (by omega) (by omega)
    have hq1 : k * slE g r / slD p r ≤ k * slE g r := Int.ediv_le_self _ (by omega)
    have hQ : (k * slE g r).tdiv (slD p r) = k * slE g r / slD p r := Int.tdiv_eq_ediv_of_nonneg (by omega)
    unfold gwL
    clear hK hbs hv
    unfold shapeL at *
    have kw1 : IntKind.i64.wrap (k * slE g r) = k * slE g r := IntWalk.i64_in _ (by omega)
    have kw2 : wrap64 (k * slE g r) = k * slE g r := IntWalk.wrap64_in _ (by omega)
    have kw3 : IntKind.i64.wrap ((k * slE g r).tdiv (slD p r)) = k * slE g r / slD p r := by rw [hQ]; exact IntWalk.i64_in _ (by omega)
    have kw4 : wrap64 ((k * slE g r).tdiv (slD p r)) = k * slE g r / slD p r := by rw [hQ]; exact IntWalk.wrap64_in _ (by omega)
    have hd0 : ¬ slD p r = 0 := by omega
    have hd1 : ¬ slD p r = -1 := by omega
    have hd2 : (slD p r == 0) = false := by simpa using hd0
    clear hQ
    by_cases h1 : g = 1
    · rw [if_pos h1] at HR HF
      have eK : slK g p r = 0 := by unfold slK; rw [if_pos h1]
      rw [eK, if_neg (by omega)]
      clear eK
      subst h1
      generalize k * slE 1 r / slD p r = Q at *
      generalize slE 1 r = Y at *
      generalize slD p r = D at *
      have HR := Lib.hid HR
      have HF := Lib.hid HF
      go_enter Try.func19, Try.ntmps19
      go_wp2_with fail
      refine (HC.out _ _ (rdI1 (by go_size) (by go_simp))).mono ?_
      rintro e w1 ⟨rfl, hb1⟩
      refine kept_at hb1 w.heap.size (by go_size) fun c1_0 z1_0 s1_0 => ?_
      have b1 := kept_trans (a := w) (by go_grown) hb1
      go_wp2_with fail
      refine (HR.out _).mono ?_
      rintro e w2 ⟨rfl, hb2⟩
      have b2 := kept_trans b1 hb2
      go_wp2_with fail
      refine (plumbK_any _).mono ?_
      rintro e w3 ⟨rfl, hb3⟩
      refine kept_at hb3 w2.heap.size (by go_size) fun c3_0 z3_0 s3_0 => ?_
      have b3 := kept_trans (kept_trans b2 (by go_grown)) hb3
      go_wp2_with fail
      refine (HF.out _).mono ?_
      rintro e w4 ⟨rfl, hb4⟩
      have b4 := kept_trans b3 hb4
      go_wp2
      all_goals
        go_ret2
        exact ⟨by simp <;> omega, kept_trans b4 (by go_grown)⟩
    · rw [if_neg h1] at HR HF
      have HK := fun u => spreadK_any g p r m hp hr h1 u
      generalize slK g p r = K at *
      generalize k * slE g r / slD p r = Q at *
      generalize slE g r = Y at *
      generalize slD p r = D at *
      have HR := Lib.hid HR
      have HF := Lib.hid HF
      have HK := Lib.hid HK
      by_cases h3 : K = 3
      · subst h3
        rw [if_pos rfl]
        go_enter Try.func19, Try.ntmps19
        go_wp2_with fail
        refine (HC.out _ _ (rdI1 (by go_size) (by go_simp))).mono ?_
        rintro e w1 ⟨rfl, hb1⟩
        refine kept_at hb1 w.heap.size (by go_size) fun c1_0 z1_0 s1_0 => ?_
        have b1 := kept_trans (a := w) (by go_grown) hb1
        go_wp2_with fail
        refine (HR.out _).mono ?_
        rintro e w2 ⟨rfl, hb2⟩
        have b2 := kept_trans b1 hb2
        go_wp2_with fail
        refine (HK.out _).mono ?_
        rintro e w3 ⟨rfl, hb3⟩
        have b3 := kept_trans (kept_trans b2 (by go_grown)) hb3
        go_wp2
        go_ret2
        exact ⟨rfl, b3⟩
      · rw [if_neg h3]
        have h3b : (K == 3) = false := by simpa using h3
        go_enter Try.func19, Try.ntmps19
        go_wp2_with fail
        refine (HC.out _ _ (rdI1 (by go_size) (by go_simp))).mono ?_
        rintro e w1 ⟨rfl, hb1⟩
        refine kept_at hb1 w.heap.size (by go_size) fun c1_0 z1_0 s1_0 => ?_
        have b1 := kept_trans (a := w) (by go_grown) hb1
        go_wp2_with fail
        refine (HR.out _).mono ?_
        rintro e w2 ⟨rfl, hb2⟩
        have b2 := kept_trans b1 hb2
        go_wp2_with fail
        refine (HK.out _).mono ?_
        rintro e w3 ⟨rfl, hb3⟩
        refine kept_at hb3 w2.heap.size (by go_size) fun c3_0 z3_0 s3_0 => ?_
        have b3 := kept_trans (kept_trans b2 (by go_grown)) hb3
        go_wp2_with fail
        refine (HF.out _).mono ?_
        rintro e w4 ⟨rfl, hb4⟩
        have b4 := kept_trans b3 hb4
        go_wp2
        all_goals
          go_ret2
          exact ⟨by simp <;> omega, kept_trans b4 (by go_grown)⟩
  · rw [if_neg hK]
    have hK1 : (codeL3 (slB g p r m) [inB k 0 50000] == 0) = false := by simpa using hK
    have hK2 : (codeL3 (slB g p r m) [inB k 0 50000] != 0) = true := by simpa using hK
    generalize codeL3 (slB g p r m) [inB k 0 50000] = K at *
    have HC := Lib.hid (fun u v x => HC u v x)
    go_enter Try.func19, Try.ntmps19
    go_wp2_with fail
    refine (HC.out _ _ (rdI1 (by go_size) (by go_simp))).mono ?_
    rintro e w1 ⟨rfl, hb1⟩
    have b1 := kept_trans (a := w) (by go_grown) hb1
    go_wp2
    go_ret2
    exact ⟨rfl, b1⟩

theorem heldAt_is (zs : List Sl) (qs : List Int) (k : Int) (j : Nat) (h1 : j < zs.length) (h2 : j < qs.length) : heldAt zs qs k j = holdsSl zs[j] k qs[j] := by
  unfold heldAt
  rw [List.getElem?_eq_getElem h1, List.getElem?_eq_getElem h2]

theorem massAt_is (zs : List Sl) (j : Nat) (h : j < zs.length) : massAt zs (j : Int) = zs[j].m := by simp [massAt, h]

/-- A further index. -/
theorem best_step (ms : Int → Int) (p : Nat → Bool) (j : Nat) : bestL ms (idxsL p (j + 1)) = if p j then (if idxsL p j = [] then (j : Int) else if ms j < ms (bestL ms (idxsL p j)) then (j : Int) else bestL ms (idxsL p j)) else bestL ms (idxsL p j) := by
  rw [show idxsL p (j + 1) = if p j then idxsL p j ++ [(j : Int)] else idxsL p j from rfl]
  cases p j
  · rfl
  · simp only [if_true]
    exact bestL_snoc ms _ _

theorem best_bd (ms : Int → Int) (p : Nat → Bool) (j : Nat) : (idxsL p j = [] ∧ bestL ms (idxsL p j) = -1) ∨ (idxsL p j ≠ [] ∧ ∃ b : Nat, b < j ∧ bestL ms (idxsL p j) = (b : Int)) := by
  by_cases h : idxsL p j = []
  · exact Or.inl ⟨h, by rw [h]; rfl⟩
  · obtain ⟨b, e, hb, _⟩ := idxsL_mem _ _ _ (bestL_mem ms _ h)
    exact Or.inr ⟨h, b, hb, e⟩

theorem ch_bad {zs : List Sl} {qs : List Int} {k : Int} (j : Nat) (h : j < zs.length) (hb : okSl zs[j] = false) : chL zs qs k = (0, 1) := by
  unfold chL
  rw [if_neg]
  intro hall
  have := List.all_eq_true.1 hall _ (List.getElem_mem h)
  rw [hb] at this
  cases this

theorem ch_all {zs : List Sl} (h : ∀ i (hi : i < zs.length), okSl zs[i] = true) : zs.all okSl = true := List.all_eq_true.2 fun x hx => by
  obtain ⟨i, hi, rfl⟩ := List.mem_iff_getElem.1 hx
  exact h i hi

set_option maxHeartbeats 8000000 in
theorem specCh_any (vz vq : Value) (zs : List Sl) (qs : List Int) (k : Int) (w : World) (h : RdSl w vz zs) (hq : RdI w vq qs) (hn : zs.length ≤ 1000000) (hm : qs.length ≤ 1000000) :
    Calls Try.prog 15 #[vz, vq, .int .i64 k] w fun e w' => e = .returned (.tuple #[.int .i64 (chL zs qs k).1, .int .i64 (chL zs qs k).2]) ∧ Below w.heap.size w w' := by
  obtain ⟨A, c, rfl, _, r1⟩ := RdSl_at h
  obtain ⟨_, B, d, rfl, r2⟩ := hq
  clear h
  have R := Lib.hid r1; clear r1
  have Q := Lib.hid r2; clear r2
  have HBAD := Lib.hid (fun j hj hb => @ch_bad zs qs k j hj hb)
  have HALL := Lib.hid (@ch_all zs)
  have HCH : Hid (chL zs qs k = if zs.all okSl then (if inB k 0 50000 && qs.all (fun n => inB n 0 50000) && decide (qs.length = zs.length) then (if idxsL (heldAt zs qs k) zs.length = [] then (0, 3) else (bestL (massAt zs) (idxsL (heldAt zs qs k) zs.length), 0)) else (0, 2)) else (0, 1)) := Lib.hid rfl
  have HOK := Lib.hid (fun b o z u (x : SlAt u b o z) => specSlOk_any b o z u x)
  generalize chL zs qs k = C at *
  go_enter Try.func15, Try.ntmps15
  go_wp2_with fail
  go_loop [8] (fun i => ∃ j : Nat, j ≤ zs.length ∧ i = .int .i64 j ∧ ∀ i (hi : i < zs.length), i < j → okSl zs[i] = true) (fun i => zs.length - (intOf i).toNat)
  case atStart => exact ⟨0, by omega, rfl, fun i hi h => by omega⟩
  case round =>
    obtain ⟨j, hj, rfl, hall⟩ := hrel
    have HJ := Lib.hid hall; clear hall
    by_cases hlt : j < zs.length
    · obtain ⟨b, off, rfl, q⟩ := R.out j hlt
      have HO := HOK.out b (off + j * 4) zs[j] w q
      cases hz : okSl zs[j]
      · have hC := HBAD.out j hlt hz
        rw [hz] at HO
        have HO := Lib.hid HO
        subst hC
        clear q
        go_wp2_with fail
        refine HO.out.mono ?_
        rintro e w1 ⟨rfl, rfl⟩
        go_wp2
        go_ret2
        exact ⟨rfl, Below.refl _ _⟩
      · rw [hz] at HO
        have HO := Lib.hid HO
        have HNX : Hid (∀ i (hi : i < zs.length), i < j + 1 → okSl zs[i] = true) := Lib.hid fun i hi hij => by
          rcases Nat.lt_or_ge i j with h1 | h1
          · exact HJ.out i hi h1
          · obtain rfl : i = j := by omega
            exact hz
        clear q hz
        go_wp2_with fail
        refine HO.out.mono ?_
        rintro e w1 ⟨rfl, rfl⟩
        go_wp2
        go_round
        case rel => exact ⟨j + 1, by omega, by go_num, HNX.out⟩
        case measure => simp [intOf]; omega
    · have : j = zs.length := by omega
      subst this
      have hA := HALL.out (fun i hi => HJ.out i hi hi)
      have hC := HCH.out
      rw [if_pos hA] at hC
      clear HBAD HALL HCH HOK hlt
      cases hk : inB k 0 50000
      · rw [hk] at hC
        simp only [Bool.false_and, Bool.false_eq_true, if_false] at hC
        subst hC
        go_wp2_with fail
        refine (in_any _ _ _ _).mono ?_
        rintro e w1 ⟨rfl, rfl⟩
        rw [hk]
        go_wp2
        go_ret2
        exact ⟨rfl, Below.refl _ _⟩
      by_cases hl : qs.length = zs.length
      case neg =>
        have hlb : decide (qs.length = zs.length) = false := by simpa using hl
        rw [hlb] at hC
        simp only [Bool.and_false, Bool.false_eq_true, if_false] at hC
        subst hC
        have hlc : ((qs.length : Int) != (zs.length : Int)) = true := by rw [bne_iff_ne]; omega
        have hld : ¬ (qs.length : Int) = (zs.length : Int) := by omega
        have hle : ((qs.length : Int) == (zs.length : Int)) = false := by simp; omega
        clear hlb hl
        go_wp2_with fail
        refine (in_any _ _ _ _).mono ?_
        rintro e w1 ⟨rfl, rfl⟩
        rw [hk]
        go_wp2
        go_ret2
        exact ⟨rfl, Below.refl _ _⟩
      have hlb : decide (qs.length = zs.length) = true := by simpa using hl
      rw [hlb, hk] at hC
      simp only [Bool.and_true, Bool.true_and] at hC
      have HC := Lib.hid hC; clear hC hlb hA
      have hkb := inB_true hk
      have HST := Lib.hid (fun j => best_step (massAt zs) (heldAt zs qs k) j)
      have HBD := Lib.hid (fun j => best_bd (massAt zs) (heldAt zs qs k) j)
      have HHA := Lib.hid (fun j h1 h2 => heldAt_is zs qs k j h1 h2)
      have HMA := Lib.hid (fun j h1 => massAt_is zs j h1)
      have HHO := Lib.hid (fun b o z q u (x : SlAt u b o z) (v : okSl z = true) => specSlH_any b o z k q u x v hkb)
      have hqn : (qs.length : Int) = (zs.length : Int) := by omega
      generalize heldAt zs qs k = P at *
      generalize massAt zs = M at *
      go_wp2_with fail
      refine (in_any _ _ _ _).mono ?_
      rintro e w1 ⟨rfl, rfl⟩
      rw [hk]
      go_wp2_with fail
      go_loopw [9, 10] (fun b i wr => ∃ j : Nat, j ≤ zs.length ∧ i = .int .i64 j ∧ b = .int .i64 (bestL M (idxsL P j)) ∧ (∀ i (hi : i < qs.length), i < j → inB qs[i] 0 50000 = true) ∧ Below w.heap.size w wr) (fun _ i _ => zs.length - (intOf i).toNat)
      case atStart => exact ⟨0, by omega, rfl, rfl, fun i hi h => by omega, Below.refl _ _⟩
      case round =>
        obtain ⟨j, hj, rfl, rfl, hall, hb⟩ := hrel
        have HJ2 := Lib.hid hall; clear hall
        by_cases hlt : j < zs.length
        · have hltq : j < qs.length := by omega
          obtain ⟨b, off, rfl, q⟩ := R.out j hlt
          obtain ⟨b2, off2, rfl, hb2l, hqc⟩ := Q.out j hltq
          have hst := HST.out j
          have hha := HHA.out j hlt hltq
          have hma := HMA.out j hlt
          have hok := HJ.out j hlt hlt
          have q := SlAt_kept q hb
          rw [← kept_cell hb b2 _ hb2l] at hqc
          have HNX : Hid (inB qs[j] 0 50000 = true → ∀ i (hi : i < qs.length), i < j + 1 → inB qs[i] 0 50000 = true) := Lib.hid fun hz i hi hij => by
            rcases Nat.lt_or_ge i j with h1 | h1
            · exact HJ2.out i hi h1
            · obtain rfl : i = j := by omega
              exact hz
          have HRE : Hid (inB qs[j] 0 50000 = false → qs.all (fun n => inB n 0 50000) = false) := Lib.hid fun hz => by
            rw [List.all_eq_false]
            exact ⟨qs[j], List.getElem_mem hltq, by simp [hz]⟩
          generalize hqj : qs[j] = y at *
          generalize hzj : zs[j] = z at *
          clear hqj hzj
          have HHO2 := fun u x => HHO.out b (off + j * 4) z y u x hok
          cases hy : inB y 0 50000
          · have hA := HRE.out hy
            have hC := HC.out
            rw [hA] at hC
            simp only [Bool.false_eq_true, if_false] at hC
            subst hC
            clear hA q hst hha hma
            go_wp2_with fail
            refine (in_any _ _ _ _).mono ?_
            rintro e w1 ⟨rfl, rfl⟩
            rw [hy]
            go_wp2
            go_ret2
            exact ⟨rfl, hb⟩
          · have HN2 := Lib.hid (HNX.out hy)
            clear HNX HRE
            rw [← hha] at HHO2
            clear hha
            cases hp : P j
            case false =>
              rw [hp] at HHO2 hst
              simp only [Bool.false_eq_true, if_false] at hst
              have HS := Lib.hid hst; clear hst hma hp
              have HH := Lib.hid (fun u x => HHO2 u x); clear HHO2
              have Q1 := Lib.hid q; clear q
              go_wp2_with fail
              refine (in_any _ _ _ _).mono ?_
              rintro e w1 ⟨rfl, rfl⟩
              rw [hy]
              go_wp2_with fail
              have hqc2 : ∀ x : BelowBy wr, x.w.cell? ⟨b2, off2 + j, none⟩ = some (.int .i64 y) := fun x => by rw [kept_cell x.h b2 _ (Nat.lt_of_lt_of_le hb2l hb.size)]; exact hqc
              refine wp_region_below (by kernel_rfl) (by kernel_rfl) ?_
              repeat (go_big_quiet_step ((go_at_call 49; exact below_call (fun hbx => HH.out _ (SlAt_kept Q1.out hbx)))))
              refine wpQuiet_nil ?_
              intro wq hw'
              obtain ⟨⟨_, hbq⟩, hwq⟩ := hw'
              subst hwq
              (try dsimp only)
              go_wp2
              go_roundw
              case rel => exact ⟨j + 1, by omega, by go_num, by rw [HS.out], HN2.out, kept_trans hb hbq⟩
              case measure => simp [intOf]; omega
            case true =>
              rw [hp] at HHO2 hst
              simp only [if_true] at hst
              have HH := Lib.hid (fun u x => HHO2 u x); clear HHO2
              have hbl2 : b2 < wr.heap.size := Nat.lt_of_lt_of_le hb2l hb.size
              have hqc2 : ∀ x : BelowBy wr, x.w.cell? ⟨b2, off2 + j, none⟩ = some (.int .i64 y) := fun x => by rw [kept_cell x.h b2 _ hbl2]; exact hqc
              rcases HBD.out j with ⟨e1, e2⟩ | ⟨e1, bb, hbb, e2⟩
              · rw [if_pos e1] at hst
                rw [e2]
                have HS := Lib.hid hst; clear hst hma hp e1 e2
                have Q1 := Lib.hid q; clear q
                go_wp2_with fail
                refine (in_any _ _ _ _).mono ?_
                rintro e w1 ⟨rfl, rfl⟩
                rw [hy]
                go_wp2_with fail
                refine wp_region_below (by kernel_rfl) (by kernel_rfl) ?_
                repeat (go_big_quiet_step ((go_at_call 49; exact below_call (fun hbx => HH.out _ (SlAt_kept Q1.out hbx)))))
                refine wpQuiet_nil ?_
                intro wq hw'
                obtain ⟨⟨_, hbq⟩, hwq⟩ := hw'
                subst hwq
                (try dsimp only)
                go_wp2
                go_roundw
                case rel => exact ⟨j + 1, by omega, by go_num, by rw [HS.out], HN2.out, kept_trans hb hbq⟩
                case measure => simp [intOf]; omega
              · rw [if_neg e1, e2, hma, HMA.out bb (by omega)] at hst
                rw [e2]
                obtain ⟨b', off', e', qb⟩ := R.out bb (by omega)
                simp only [Option.some.injEq, Addr.mk.injEq, and_true] at e'
                obtain ⟨rfl, rfl⟩ := e'
                have qb := SlAt_kept qb hb
                have hbz : (bb : Int) < (zs.length : Int) := by omega
                generalize zs[bb] = zb at *
                have m1 : ∀ x : BelowBy wr, x.w.cell? ⟨b, off + j * 4 + 3, none⟩ = some (.int .i64 z.m) := fun x => by rw [kept_cell x.h b _ q.1]; exact q.2.2.2.2
                have m2 : ∀ x : BelowBy wr, x.w.cell? ⟨b, off + bb * 4 + 3, none⟩ = some (.int .i64 zb.m) := fun x => by rw [kept_cell x.h b _ qb.1]; exact qb.2.2.2.2
                have hneg : decide ((bb : Int) < 0) = false := by simp
                have hneg2 : ¬ (bb : Int) < 0 := by omega
                generalize z.m = mz at *
                generalize zb.m = mb at *
                have Q1 := Lib.hid q; clear q qb
                clear hp e1 e2 hma
                cases hcm : decide (mz < mb)
                all_goals
                  have hcn := hcm
                  simp only [decide_eq_false_iff_not, decide_eq_true_eq] at hcn
                  first | rw [if_neg hcn] at hst | rw [if_pos hcn] at hst
                  have HS := Lib.hid hst; clear hst hcn
                  go_wp2_with fail
                  refine (in_any _ _ _ _).mono ?_
                  rintro e w1 ⟨rfl, rfl⟩
                  rw [hy]
                  go_wp2_with fail
                  refine wp_region_below (by kernel_rfl) (by kernel_rfl) ?_
                  repeat (go_big_quiet_step ((go_at_call 49; exact below_call (fun hbx => HH.out _ (SlAt_kept Q1.out hbx)))))
                  refine wpQuiet_nil ?_
                  intro wq hw'
                  obtain ⟨⟨_, hbq⟩, hwq⟩ := hw'
                  subst hwq
                  (try dsimp only)
                  go_wp2
                  go_roundw
                  case rel => exact ⟨j + 1, by omega, by go_num, by rw [HS.out], HN2.out, kept_trans hb hbq⟩
                  case measure => simp [intOf]; omega
        · have : j = zs.length := by omega
          subst this
          have hA : qs.all (fun n => inB n 0 50000) = true := List.all_eq_true.2 fun x hx => by
            obtain ⟨i, hi, rfl⟩ := List.mem_iff_getElem.1 hx
            exact HJ2.out i hi (by omega)
          have hC := HC.out
          rw [hA] at hC
          simp only [if_true] at hC
          rcases HBD.out zs.length with ⟨e1, e2⟩ | ⟨e1, bb, hbb, e2⟩
          · rw [if_pos e1] at hC
            rw [e2]
            subst hC
            clear e1 e2 hA
            go_wp2
            go_ret2
            exact ⟨rfl, hb⟩
          · rw [if_neg e1, e2] at hC
            rw [e2]
            subst hC
            clear e1 e2 hA
            have hneg : decide ((bb : Int) < 0) = false := by simp
            have hneg2 : ¬ (bb : Int) < 0 := by omega
            go_wp2
            go_ret2
            exact ⟨rfl, hb⟩

set_option maxRecDepth 100000 in
theorem indexFuncSl_any (v : Value) (zs : List Sl) (g : FuncId) (he : Enters Try.prog g) (cap : Array Value) (p : Sl → Bool) (w : World) (h : RdSl w v zs)
    (hf : ∀ z w1, Below w.heap.size w w1 → Calls Try.prog g (#[.agg #[.int .i64 z.g, .int .i64 z.p, .int .i64 z.r, .int .i64 z.m]] ++ cap) w1 fun e w2 => e = .returned (.bool (p z)) ∧ Below w1.heap.size w1 w2) :
    Calls Try.prog 78 #[v, .func (.func g) #[] cap] w fun e w' => e = .returned (.int .i64 (idxL p zs)) ∧ Below w.heap.size w w' := by
  obtain ⟨A, c, rfl, hl, r1⟩ := RdSl_at h
  clear h
  have R := Lib.hid r1; clear r1
  have Hf := Lib.hid hf; clear hf
  have HIS := Lib.hid (fun k (h : k < zs.length) => @idxL_is _ p zs k h)
  have HNO := Lib.hid (@idxL_none _ p zs)
  generalize idxL p zs = G at *
  go_enter Try.func78, Try.ntmps78
  go_wp2_with fail
  go_loopw [8] (fun i wr => ∃ k : Nat, k ≤ zs.length ∧ i = .int .i64 k ∧ (∀ j (hj : j < zs.length), j < k → p zs[j] = false) ∧ Below w.heap.size w wr) (fun i _ => zs.length - (intOf i).toNat)
  case atStart => exact ⟨0, by omega, rfl, fun j _ h => by omega, Below.refl _ _⟩
  case round =>
    obtain ⟨k, hk, rfl, hall, hb⟩ := hrel
    by_cases hlt : k < zs.length
    · obtain ⟨b, off, rfl, q⟩ := R.out k hlt
      obtain ⟨hbl, hc0, hc1, hc2, hc3⟩ := SlAt_kept q hb
      have hc := Hf.out zs[k] wr hb
      cases hp : p zs[k]
      · have hnx : ∀ j (hj : j < zs.length), j < k + 1 → p zs[j] = false := fun j hj hjk => by
          rcases Nat.lt_or_ge j k with h1 | h1
          · exact hall j hj h1
          · obtain rfl : j = k := by omega
            exact hp
        rw [hp] at hc
        have HNX := Lib.hid hnx; clear hnx hall hp
        have Hc := Lib.hid hc; clear hc
        generalize zs[k].g = x at *
        generalize zs[k].p = x2 at *
        generalize zs[k].r = y at *
        generalize zs[k].m = y2 at *
        go_wp2_with fail
        rw [he, Oper.upon_enter]
        refine Hc.out.mono ?_
        rintro e w1 ⟨rfl, hb1⟩
        go_wp2
        go_roundw
        case rel => exact ⟨k + 1, by omega, by go_num, HNX.out, kept_trans hb hb1⟩
        case measure => simp [intOf]; omega
      · have hE := HIS.out k hlt hp hall
        subst hE
        rw [hp] at hc
        have Hc := Lib.hid hc; clear hc hall hp
        generalize zs[k].g = x at *
        generalize zs[k].p = x2 at *
        generalize zs[k].r = y at *
        generalize zs[k].m = y2 at *
        go_wp2_with fail
        rw [he, Oper.upon_enter]
        refine Hc.out.mono ?_
        rintro e w1 ⟨rfl, hb1⟩
        go_wp2
        go_ret
        exact ⟨rfl, kept_trans hb hb1⟩
    · have : k = zs.length := by omega
      subst this
      have hE := HNO.out (fun j hj => hall j hj hj)
      clear hall
      subst hE
      go_wp2
      go_ret
      exact ⟨rfl, hb⟩

theorem containsFuncSl_any (v : Value) (zs : List Sl) (g : FuncId) (he : Enters Try.prog g) (cap : Array Value) (p : Sl → Bool) (w : World) (h : RdSl w v zs)
    (hf : ∀ z w1, Below w.heap.size w w1 → Calls Try.prog g (#[.agg #[.int .i64 z.g, .int .i64 z.p, .int .i64 z.r, .int .i64 z.m]] ++ cap) w1 fun e w2 => e = .returned (.bool (p z)) ∧ Below w1.heap.size w1 w2) :
    Calls Try.prog 50 #[v, .func (.func g) #[] cap] w fun e w' => e = .returned (.bool (zs.any p)) ∧ Below w.heap.size w w' := by
  have H := Lib.hid (indexFuncSl_any v zs g he cap p w h hf)
  obtain ⟨A, c, rfl, hl, r1⟩ := RdSl_at h
  clear h hf r1
  have hbd := idxL_bd p zs
  rw [← idxL_any]
  generalize idxL p zs = G at *
  go_enter Try.func50, Try.ntmps50
  go_wp2_with fail
  refine H.out.mono ?_
  rintro e w1 ⟨rfl, hb1⟩
  go_wp2
  go_ret
  exact ⟨rfl, hb1⟩

theorem badSl_any (z : Sl) (w : World) :
    Calls Try.prog 51 #[.agg #[.int .i64 z.g, .int .i64 z.p, .int .i64 z.r, .int .i64 z.m]] w fun e w' => e = .returned (.bool (!okSl z)) ∧ Below w.heap.size w w' := by
  have HV := Lib.hid (fun u => implSlV_any z.g z.p z.r z.m u)
  rw [show okSl z = slB z.g z.p z.r z.m from rfl]
  generalize slB z.g z.p z.r z.m = B at *
  obtain ⟨g, p, r, m⟩ := z
  dsimp only at *
  go_enter Try.func51, Try.ntmps51
  go_wp2_with fail
  refine (HV.out _).mono ?_
  rintro e w1 ⟨rfl, hb1⟩
  have b1 := kept_trans (a := w) (by go_grown) hb1
  go_wp2
  go_ret
  exact ⟨rfl, b1⟩

theorem lighter_any (bx : Nat) (A : Option Addr) (c : Nat) (zs : List Sl) (i k : Nat) (w : World) (h : RdSl w (.slice A zs.length c) zs) (hx : w.cell? ⟨bx, 0, none⟩ = some (.slice A zs.length c)) (hi : i < zs.length) (hk : k < zs.length) :
    Calls Try.prog 57 #[.int .i64 (i : Int), .int .i64 (k : Int), .pointer (some ⟨bx, 0, none⟩)] w fun e w' => e = .returned (.int .i64 (if zs[i].m < zs[k].m then -1 else if zs[k].m < zs[i].m then 1 else 0)) ∧ Below w.heap.size w w' := by
  obtain ⟨A', c', e, hl, r⟩ := RdSl_at h
  injection e with e1 _ e2
  subst e1
  subst e2
  clear h
  obtain ⟨b, off, rfl, _, _, _, _, m1⟩ := r i hi
  obtain ⟨b', off', e', _, _, _, _, m2⟩ := r k hk
  simp only [Option.some.injEq, Addr.mk.injEq, and_true] at e'
  obtain ⟨rfl, rfl⟩ := e'
  have hC := fun u => compare_any zs[i].m zs[k].m u
  generalize zs[i].m = x at *
  generalize zs[k].m = y at *
  generalize (if x < y then (-1 : Int) else if y < x then 1 else 0) = Z at *
  have HC := Lib.hid hC; clear hC r
  go_enter Try.func57, Try.ntmps57
  go_wp2_with fail
  go_quiet ((go_at_call 58; exact Calls.quiet_of_same ((HC.out _).mono fun e w' h => ⟨h.1, h.2.symm⟩)))
  go_wp2
  go_ret
  exact ⟨rfl, kept_drewN (Below.refl _ _) _⟩

set_option maxRecDepth 100000 in
theorem minFunc_any (v : Value) (ls : List Int) (g : FuncId) (he : Enters Try.prog g) (cap : Array Value) (ms : Int → Int) (w : World) (h : RdI w v ls) (h0 : 0 < ls.length)
    (hf : ∀ i ∈ ls, ∀ k ∈ ls, ∀ w1, Below w.heap.size w w1 → Calls Try.prog g (#[.int .i64 i, .int .i64 k] ++ cap) w1 fun e w2 => e = .returned (.int .i64 (if ms i < ms k then -1 else if ms k < ms i then 1 else 0)) ∧ Below w1.heap.size w1 w2) :
    Calls Try.prog 56 #[v, .func (.func g) #[] cap] w fun e w' => e = .returned (.int .i64 (bestL ms ls)) ∧ Below w.heap.size w w' := by
  obtain ⟨hl, A, c, rfl, r1⟩ := h
  have R := Lib.hid r1; clear r1
  have Hf := Lib.hid hf; clear hf
  have hb1 : bestL ms (ls.take 1) = ls[0] := by
    cases ls with
    | nil => simp at h0
    | cons a t => rfl
  have hst : ∀ k (hk : k < ls.length), 0 < k → bestL ms (ls.take (k + 1)) = if ms ls[k] < ms (bestL ms (ls.take k)) then ls[k] else bestL ms (ls.take k) := fun k hk hk0 => by
    rw [← List.take_append_getElem hk, bestL_snoc, if_neg (fun e => by have := congrArg List.length e; simp only [List.length_take, List.length_nil] at this; omega)]
  have hmem : ∀ k, 0 < k → k ≤ ls.length → bestL ms (ls.take k) ∈ ls := fun k hk hk2 => by
    refine List.mem_of_mem_take (bestL_mem ms (ls.take k) (fun e => ?_))
    have := congrArg List.length e
    simp only [List.length_take, List.length_nil] at this
    omega
  have hend : bestL ms (ls.take ls.length) = bestL ms ls := by rw [List.take_of_length_le (Nat.le_refl _)]
  have HB1 := Lib.hid hb1; clear hb1
  have HST := Lib.hid hst; clear hst
  have HMEM := Lib.hid hmem; clear hmem
  have HEND := Lib.hid hend; clear hend
  obtain ⟨b0, o0, rfl, hbl0, hc00⟩ := R.out 0 h0
  have hnz : ¬ (ls.length : Int) < 1 := by omega
  have hnd : decide ((ls.length : Int) < 1) = false := by simp; omega
  rw [show o0 + 0 = o0 from rfl] at hc00
  go_enter Try.func56, Try.ntmps56
  go_wp2_with fail
  go_loopw [5, 6] (fun q i wr => ∃ k : Nat, 0 < k ∧ k ≤ ls.length ∧ i = .int .i64 k ∧ q = .int .i64 (bestL ms (ls.take k)) ∧ Below w.heap.size w wr) (fun _ i _ => ls.length - (intOf i).toNat)
  case atStart => exact ⟨1, by omega, by omega, rfl, by rw [HB1.out], Below.refl _ _⟩
  case round =>
    obtain ⟨k, hk0, hk, rfl, rfl, hb⟩ := hrel
    by_cases hlt : k < ls.length
    · obtain ⟨b, off, e', hbl, hc⟩ := R.out k hlt
      simp only [Option.some.injEq, Addr.mk.injEq, and_true] at e'
      obtain ⟨rfl, rfl⟩ := e'
      rw [← kept_cell hb b0 _ hbl] at hc
      have hs := HST.out k hlt hk0
      have hF := Hf.out ls[k] (List.getElem_mem hlt) _ (HMEM.out k hk0 hk) wr hb
      generalize ls[k] = x at *
      generalize bestL ms (ls.take k) = y at *
      have HF := Lib.hid hF; clear hF
      by_cases hxy : ms x < ms y
      · rw [if_pos hxy] at hs HF
        have HS := Lib.hid hs; clear hs hxy
        go_wp2_with fail
        rw [he, Oper.upon_enter]
        refine HF.out.mono ?_
        rintro e w1 ⟨rfl, hb1⟩
        rw [← kept_cell hb1 b0 _ (Nat.lt_of_lt_of_le hbl hb.size)] at hc
        go_wp2
        go_roundw
        case rel => exact ⟨k + 1, by omega, by omega, by go_num, by rw [HS.out], kept_trans hb hb1⟩
        case measure => simp [intOf]; omega
      · rw [if_neg hxy] at hs HF
        have HS := Lib.hid hs; clear hs
        have hz : ¬ (if ms y < ms x then (1 : Int) else 0) < 0 := by split <;> omega
        have hz2 : decide ((if ms y < ms x then (1 : Int) else 0) < 0) = false := by simp only [decide_eq_false_iff_not]; exact hz
        clear hxy
        generalize (if ms y < ms x then (1 : Int) else 0) = cz at *
        go_wp2_with fail
        rw [he, Oper.upon_enter]
        refine HF.out.mono ?_
        rintro e w1 ⟨rfl, hb1⟩
        go_wp2
        go_roundw
        case rel => exact ⟨k + 1, by omega, by omega, by go_num, by rw [HS.out], kept_trans hb hb1⟩
        case measure => simp [intOf]; omega
    · have : k = ls.length := by omega
      subst this
      rw [HEND.out]
      go_wp2
      go_ret
      exact ⟨rfl, hb⟩

set_option maxHeartbeats 4000000 in
theorem implCh_any (vz vq : Value) (zs : List Sl) (qs : List Int) (k : Int) (w : World) (h : RdSl w vz zs) (hq : RdI w vq qs) (hn : zs.length ≤ 1000000) (hm : qs.length ≤ 1000000) :
    Calls Try.prog 16 #[vz, vq, .int .i64 k] w fun e w' => e = .returned (.tuple #[.int .i64 (chL zs qs k).1, .int .i64 (chL zs qs k).2]) ∧ Below w.heap.size w w' := by
  obtain ⟨A, c, rfl, _, r1⟩ := RdSl_at h
  have HF := fun u (x : RdSl u (.slice A zs.length c) zs) => containsFuncSl_any (.slice A zs.length c) zs 51 (enters_of Try.func51 (by kernel_rfl) rfl) #[] (fun z => !okSl z) u x (fun z w1 _ => badSl_any z w1)
  have HI := fun u (x : RdI u vq qs) => within_any 0 50000 vq qs u x
  obtain ⟨hql, B, d, rfl, r2⟩ := hq
  have HQ := Lib.hid (show RdI w (.slice B qs.length d) qs from ⟨hql, B, d, rfl, r2⟩)
  have HZ := Lib.hid h; clear h
  have hall : zs.all okSl = !(zs.any fun z => !okSl z) := by simp [List.any_eq_not_all_not]
  unfold chL
  rw [hall]
  cases hv : zs.any (fun z => !okSl z)
  case true =>
    rw [hv] at HF
    have HF := Lib.hid HF
    rw [if_neg (by simp)]
    clear hall hv
    go_enter Try.func16, Try.ntmps16
    go_wp2_with fail
    refine (HF.out _ (RdSl_kept HZ.out (by go_grown))).mono ?_
    rintro e w1 ⟨rfl, hb1⟩
    have b1 := kept_trans (a := w) (by go_grown) hb1
    go_wp2
    go_ret2
    exact ⟨rfl, b1⟩
  rw [hv] at HF hall
  have HF := Lib.hid HF
  rw [if_pos (by simp)]
  have hok : ∀ i (hi : i < zs.length), okSl zs[i] = true := fun i hi => List.all_eq_true.1 (by rw [hall]; rfl) _ (List.getElem_mem hi)
  clear hall hv
  cases hk : inB k 0 50000
  case false =>
    have HK := fun u => validLoad_any k u
    rw [hk] at HK
    have HK := Lib.hid HK
    rw [if_neg (by simp)]
    clear hok
    go_enter Try.func16, Try.ntmps16
    go_wp2_with fail
    refine (HF.out _ (RdSl_kept HZ.out (by go_grown))).mono ?_
    rintro e w1 ⟨rfl, hb1⟩
    refine kept_at hb1 w.heap.size (by go_size) fun c1_0 z1_0 s1_0 => ?_
    have b1 := kept_trans (a := w) (by go_grown) hb1
    go_wp2_with fail
    refine (HK.out _).mono ?_
    rintro e w2 ⟨rfl, hb2⟩
    go_wp2
    go_ret2
    exact ⟨rfl, kept_trans b1 hb2⟩
  have HK := fun u => validLoad_any k u
  rw [hk] at HK
  have HK := Lib.hid HK
  cases hqa : qs.all (fun n => inB n 0 50000)
  case false =>
    rw [hqa] at HI
    have HI := Lib.hid HI
    rw [if_neg (by simp)]
    clear hok
    go_enter Try.func16, Try.ntmps16
    go_wp2_with fail
    refine (HF.out _ (RdSl_kept HZ.out (by go_grown))).mono ?_
    rintro e w1 ⟨rfl, hb1⟩
    refine kept_at hb1 w.heap.size (by go_size) fun c1_0 z1_0 s1_0 => ?_
    have b1 := kept_trans (a := w) (by go_grown) hb1
    go_wp2_with fail
    refine (HK.out _).mono ?_
    rintro e w2 ⟨rfl, hb2⟩
    refine kept_at hb2 w.heap.size (by go_size) fun c2_0 z2_0 s2_0 => ?_
    have b2 := kept_trans b1 hb2
    go_wp2_with fail
    refine (HI.out _ (RdI_kept HQ.out b2)).mono ?_
    rintro e w3 ⟨rfl, hb3⟩
    go_wp2
    go_ret2
    exact ⟨rfl, kept_trans b2 hb3⟩
  rw [hqa] at HI
  have HI := Lib.hid HI
  by_cases hl : qs.length = zs.length
  case neg =>
    rw [if_neg (by simp [hl])]
    have hlc : ((qs.length : Int) != (zs.length : Int)) = true := by rw [bne_iff_ne]; omega
    have hld : ¬ (qs.length : Int) = (zs.length : Int) := by omega
    have hle : ((qs.length : Int) == (zs.length : Int)) = false := by simp; omega
    clear hok hl
    go_enter Try.func16, Try.ntmps16
    go_wp2_with fail
    refine (HF.out _ (RdSl_kept HZ.out (by go_grown))).mono ?_
    rintro e w1 ⟨rfl, hb1⟩
    refine kept_at hb1 w.heap.size (by go_size) fun c1_0 z1_0 s1_0 => ?_
    have b1 := kept_trans (a := w) (by go_grown) hb1
    go_wp2_with fail
    refine (HK.out _).mono ?_
    rintro e w2 ⟨rfl, hb2⟩
    refine kept_at hb2 w.heap.size (by go_size) fun c2_0 z2_0 s2_0 => ?_
    have b2 := kept_trans b1 hb2
    go_wp2_with fail
    refine (HI.out _ (RdI_kept HQ.out b2)).mono ?_
    rintro e w3 ⟨rfl, hb3⟩
    refine kept_at hb3 w.heap.size (by go_size) fun c3_0 z3_0 s3_0 => ?_
    go_wp2
    go_ret2
    exact ⟨rfl, kept_trans b2 hb3⟩
  rw [if_pos (by simp [hl])]
  rw [hl] at HI HQ
  have hkb := inB_true hk
  have HST := Lib.hid (fun j => show idxsL (heldAt zs qs k) (j + 1) = if heldAt zs qs k j then idxsL (heldAt zs qs k) j ++ [(j : Int)] else idxsL (heldAt zs qs k) j from rfl)
  have HLN := Lib.hid (fun j => idxsL_len (heldAt zs qs k) j)
  have HMM := Lib.hid (fun j => idxsL_mem (heldAt zs qs k) j)
  have hz0 : idxsL (heldAt zs qs k) 0 = [] := rfl
  have HHA := Lib.hid (fun j h1 h2 => heldAt_is zs qs k j h1 h2)
  have HLI := Lib.hid (fun bx i j u (x : RdSl u (.slice A zs.length c) zs) (y : u.cell? ⟨bx, 0, none⟩ = some (.slice A zs.length c)) (hi : i < zs.length) (hj : j < zs.length) => lighter_any bx A c zs i j u x y hi hj)
  have HMS := Lib.hid (fun i (hi : i < zs.length) => massAt_is zs i hi)
  have HRI := Lib.hid (fun (z : Sl) u => rigged_any z.g z.p z.r z.m u)
  have HHO := Lib.hid (fun (z : Sl) q u (v : okSl z = true) => holds_any z.g z.p z.r z.m k q u v hkb)
  have HMF := Lib.hid (fun v ls u bx (x : RdI u v ls) (y : 0 < ls.length) hf => minFunc_any v ls 57 (enters_of Try.func57 (by kernel_rfl) rfl) #[.pointer (some ⟨bx, 0, none⟩)] (massAt zs) u x y hf)
  have HOK := Lib.hid hok; clear hok
  have R := Lib.hid r1; clear r1
  have Q := Lib.hid r2; clear r2
  have hlz : (qs.length : Int) = (zs.length : Int) := by omega
  generalize heldAt zs qs k = P at *
  generalize massAt zs = M at *
  clear hqa hk
  obtain ⟨C, hC⟩ : ∃ C : Int × Int, C = if idxsL P zs.length = [] then (0, 3) else (bestL M (idxsL P zs.length), 0) := ⟨_, rfl⟩
  rw [← hC]
  have HC := Lib.hid hC; clear hC
  have hmf : ∀ (fn : Fn) (first cap : Array Value) (w : World), (Instr.makeFunc fn first cap).run Try.prog w = .ok (.func fn first cap) w := fun _ _ _ _ => rfl
  go_enter Try.func16, Try.ntmps16
  go_wp2_with fail
  refine (HF.out _ (RdSl_kept HZ.out (by go_grown))).mono ?_
  rintro e w1 ⟨rfl, hb1⟩
  refine kept_at hb1 w.heap.size (by go_size) fun c1_0 z1_0 s1_0 => ?_
  have b1 := kept_trans (a := w) (by go_grown) hb1
  go_wp2_with fail
  refine (HK.out _).mono ?_
  rintro e w2 ⟨rfl, hb2⟩
  refine kept_at hb2 w.heap.size (by go_size) fun c2_0 z2_0 s2_0 => ?_
  have b2 := kept_trans b1 hb2
  go_wp2_with fail
  refine (HI.out _ (RdI_kept HQ.out b2)).mono ?_
  rintro e w3 ⟨rfl, hb3⟩
  refine kept_at hb3 w.heap.size (by go_size) fun c3_0 z3_0 s3_0 => ?_
  have b3 := kept_trans b2 hb3
  have hbox : w3.cell? ⟨w.heap.size, 0, none⟩ = some (.slice A zs.length c) := by rw [c3_0, c2_0, c1_0]; simp
  clear c1_0 z1_0 c2_0 z2_0 c3_0 z3_0 HF HK HI
  go_wp2_with fail
  go_loopw [8, 32] (fun o i wr => ∃ j : Nat, j ≤ zs.length ∧ i = .int .i64 (j : Int) ∧ RowJ wr w3.heap.size wr.heap.size o (idxsL P j) ∧ Below w3.heap.size w3 wr) (fun _ i _ => zs.length - (intOf i).toNat)
  case atStart => exact ⟨0, by omega, rfl, by have := RowJ_new w3; rw [hz0]; exact this, by go_grown⟩
  case round =>
    obtain ⟨j, hj, rfl, hrow, hb⟩ := hrel
    have hbw : w.heap.size < w3.heap.size := World.block_lt_of_cell? _ _ hbox
    have hbw2 : w.heap.size < wr.heap.size := Nat.lt_of_lt_of_le hbw hb.size
    have hboxr : wr.cell? ⟨w.heap.size, 0, none⟩ = some (.slice A zs.length c) := by rw [kept_cell hb _ _ hbw]; exact hbox
    have hbf := kept_trans b3 hb
    by_cases hlt : j < zs.length
    · obtain ⟨b, off, rfl, q⟩ := R.out j hlt
      obtain ⟨b2, off2, rfl, hb2l, hqc⟩ := Q.out j (by omega)
      obtain ⟨hbl, e0, e1, e2, e3⟩ := SlAt_kept q hbf
      clear q
      rw [← kept_cell hbf b2 _ hb2l] at hqc
      have hha := HHA.out j hlt (by omega)
      have hst := HST.out j
      have hln := HLN.out j
      have hok := HOK.out j hlt
      have hHO := fun u => HHO.out zs[j] qs[j] u hok
      have hRI := fun u => HRI.out zs[j] u
      rw [show slHolds zs[j].g zs[j].p zs[j].r k qs[j] = holdsSl zs[j] k qs[j] from rfl, ← hha] at hHO
      clear hha hok
      generalize qs[j] = y at *
      generalize zs[j] = z at *
      obtain ⟨g, p, r, m⟩ := z
      dsimp only at *
      generalize shapeL g p r m = V at *
      generalize idxsL P j = ls at *
      have hbl2 : b2 < wr.heap.size := Nat.lt_of_lt_of_le hb2l hbf.size
      have ROW := Lib.hid hrow; clear hrow
      have HRI2 := Lib.hid hRI; clear hRI
      cases hp : P j
      case false =>
        rw [hp] at hHO hst
        simp only [Bool.false_eq_true, if_false, if_true] at hst
        have HS := Lib.hid hst; clear hst hp
        have HHO2 := Lib.hid hHO; clear hHO
        go_wp2_with fail
        have f0 : ∀ x : BelowBy (wr.alloc (.cells #[.int .i64 g, .int .i64 p, .int .i64 r, .int .i64 m] 31)), x.w.cell? ⟨wr.heap.size, 0, none⟩ = some (.int .i64 g) := fun x => by rw [kept_cell x.h _ _ (by simp)]; simp
        have f1 : ∀ x : BelowBy (wr.alloc (.cells #[.int .i64 g, .int .i64 p, .int .i64 r, .int .i64 m] 31)), x.w.cell? ⟨wr.heap.size, 1, none⟩ = some (.int .i64 p) := fun x => by rw [kept_cell x.h _ _ (by simp)]; simp
        have f2 : ∀ x : BelowBy (wr.alloc (.cells #[.int .i64 g, .int .i64 p, .int .i64 r, .int .i64 m] 31)), x.w.cell? ⟨wr.heap.size, 2, none⟩ = some (.int .i64 r) := fun x => by rw [kept_cell x.h _ _ (by simp)]; simp
        have f3 : ∀ x : BelowBy (wr.alloc (.cells #[.int .i64 g, .int .i64 p, .int .i64 r, .int .i64 m] 31)), x.w.cell? ⟨wr.heap.size, 3, none⟩ = some (.int .i64 m) := fun x => by rw [kept_cell x.h _ _ (by simp)]; simp
        have f4 : ∀ x : BelowBy (wr.alloc (.cells #[.int .i64 g, .int .i64 p, .int .i64 r, .int .i64 m] 31)), x.w.cell? ⟨b2, off2 + j, none⟩ = some (.int .i64 y) := fun x => by rw [kept_cell x.h _ _ (by simp; omega), World.cell?_alloc_past _ _ _ hbl2]; exact hqc
        refine wp_region_below (by kernel_rfl) (by kernel_rfl) ?_
        repeat (go_big_quiet_step ((first | (go_at_call 54; exact below_call (fun _ => HRI2.out _)) | (go_at_call 55; exact below_call (fun _ => HHO2.out _)))))
        refine wpQuiet_nil ?_
        intro wq hw'
        obtain ⟨⟨_, hbq⟩, hwq⟩ := hw'
        subst hwq
        (try dsimp only)
        have b4 := kept_trans (a := wr) (by go_grown) hbq
        go_wp2
        go_roundw
        case rel => exact ⟨j + 1, by omega, by go_num, by rw [HS.out]; exact RowJ_lo (RowJ_kept ROW.out b4) (Nat.le_refl _) b4.size, kept_trans hb b4⟩
        case measure => simp [intOf]; omega
      case true =>
        rw [hp] at hHO hst
        simp only [Bool.false_eq_true, if_false, if_true] at hst
        have HS := Lib.hid hst; clear hst hp
        have HHO2 := Lib.hid hHO; clear hHO
        go_wp2_with fail
        have f0 : ∀ x : BelowBy (wr.alloc (.cells #[.int .i64 g, .int .i64 p, .int .i64 r, .int .i64 m] 31)), x.w.cell? ⟨wr.heap.size, 0, none⟩ = some (.int .i64 g) := fun x => by rw [kept_cell x.h _ _ (by simp)]; simp
        have f1 : ∀ x : BelowBy (wr.alloc (.cells #[.int .i64 g, .int .i64 p, .int .i64 r, .int .i64 m] 31)), x.w.cell? ⟨wr.heap.size, 1, none⟩ = some (.int .i64 p) := fun x => by rw [kept_cell x.h _ _ (by simp)]; simp
        have f2 : ∀ x : BelowBy (wr.alloc (.cells #[.int .i64 g, .int .i64 p, .int .i64 r, .int .i64 m] 31)), x.w.cell? ⟨wr.heap.size, 2, none⟩ = some (.int .i64 r) := fun x => by rw [kept_cell x.h _ _ (by simp)]; simp
        have f3 : ∀ x : BelowBy (wr.alloc (.cells #[.int .i64 g, .int .i64 p, .int .i64 r, .int .i64 m] 31)), x.w.cell? ⟨wr.heap.size, 3, none⟩ = some (.int .i64 m) := fun x => by rw [kept_cell x.h _ _ (by simp)]; simp
        have f4 : ∀ x : BelowBy (wr.alloc (.cells #[.int .i64 g, .int .i64 p, .int .i64 r, .int .i64 m] 31)), x.w.cell? ⟨b2, off2 + j, none⟩ = some (.int .i64 y) := fun x => by rw [kept_cell x.h _ _ (by simp; omega), World.cell?_alloc_past _ _ _ hbl2]; exact hqc
        refine wp_region_below (by kernel_rfl) (by kernel_rfl) ?_
        repeat (go_big_quiet_step ((first | (go_at_call 54; exact below_call (fun _ => HRI2.out _)) | (go_at_call 55; exact below_call (fun _ => HHO2.out _)))))
        refine wpQuiet_nil ?_
        intro wq hw'
        obtain ⟨⟨_, hbq⟩, hwq⟩ := hw'
        subst hwq
        (try dsimp only)
        have b4 := kept_trans (a := wr) (by go_grown) hbq
        have hrow4 := RowJ_lo (RowJ_kept ROW.out b4) (Nat.le_refl _) b4.size
        have hb24 := kept_trans hb b4
        go_wp2_with (at_builtin; refine wp_appendJ rfl (.tmp 45) (.tmp 47) rfl _ _ _ _ rfl hrow4 rfl hb24 (Nat.le_refl _) hb24.size (by omega) ?_; intro v' w' hrow' hb' hs')
        go_roundw
        case rel => exact ⟨j + 1, by omega, by go_num, by rw [HS.out]; exact hrow', hb'⟩
        case measure => simp [intOf]; omega
    · have : j = zs.length := by omega
      subst this
      have hmm := HMM.out zs.length
      have hC := HC.out
      clear HC
      generalize idxsL P zs.length = ls at *
      have hrd : RdI wr _ ls := RowJ_rd hrow
      obtain ⟨hll, A3, c3, e3, _⟩ := hrd
      subst e3
      by_cases hls : ls = []
      · subst hls
        rw [if_pos rfl] at hC
        subst hC
        clear hmm hrow
        go_wp2
        go_ret2
        exact ⟨rfl, hbf⟩
      · rw [if_neg hls] at hC
        subst hC
        have h0 : 0 < ls.length := List.length_pos_iff.2 hls
        have hl0 : ((ls.length : Int) == 0) = false := by simp; omega
        have hl1 : ¬ (ls.length : Int) = 0 := by omega
        have hl2 : ¬ ls.length = 0 := by omega
        have hl3 : (ls.length == 0) = false := by simp; omega
        have HRD := Lib.hid (RowJ_rd hrow)
        clear hrow
        have hcall : ∀ i ∈ ls, ∀ k ∈ ls, ∀ w1, Below wr.heap.size wr w1 → Calls Try.prog 57 (#[.int .i64 i, .int .i64 k] ++ #[.pointer (some ⟨w.heap.size, 0, none⟩)]) w1 fun e w2 => e = .returned (.int .i64 (if M i < M k then -1 else if M k < M i then 1 else 0)) ∧ Below w1.heap.size w1 w2 := fun i hi i2 hi2 w1 hw1 => by
          obtain ⟨a, ea, ha, _⟩ := hmm i hi
          obtain ⟨a2, ea2, ha2, _⟩ := hmm i2 hi2
          subst ea
          subst ea2
          have := HLI.out w.heap.size a a2 w1 (RdSl_kept HZ.out (kept_trans hbf hw1)) (by rw [kept_cell hw1 _ _ hbw2]; exact hboxr) ha ha2
          rw [← HMS.out a ha, ← HMS.out a2 ha2] at this
          exact this
        have HCA := Lib.hid (HMF.out _ ls wr w.heap.size HRD.out h0 hcall)
        clear hcall hmm
        go_wp2_with fail
        refine HCA.out.mono ?_
        rintro e w5 ⟨rfl, hb5⟩
        go_wp2
        go_ret2
        exact ⟨rfl, kept_trans hbf hb5⟩

/-- The greatest weight is held, and no greater one. -/
theorem gw_ok {g p r m k : Int} (h : (gwAll g p r m k).2 = 0) : (0 ≤ (gwAll g p r m k).1 ∧ (gwAll g p r m k).1 ≤ 50000) ∧ fuL g p r m (gwAll g p r m k).1 = (slUp g p r (gwAll g p r m k).1, 0) ∧ slUp g p r (gwAll g p r m k).1 ≤ k ∧
    (((gwAll g p r m k).1 < 50000 ∧ fuL g p r m ((gwAll g p r m k).1 + 1) = (slUp g p r ((gwAll g p r m k).1 + 1), 0) ∧ k < slUp g p r ((gwAll g p r m k).1 + 1)) ∨ ((gwAll g p r m k).1 = 50000 ∧ fuL g p r m ((gwAll g p r m k).1 + 1) = (0, 2))) := by
  unfold gwAll at h ⊢
  by_cases hK : codeL3 (slB g p r m) [inB k 0 50000] = 0
  · obtain ⟨hv, hbs⟩ := codeL3_ok hK
    have hk := inB_true (hbs _ (List.mem_singleton.2 rfl))
    rw [if_pos hK] at h ⊢
    obtain ⟨hg, hp, hr, _⟩ := slB_bd hv
    by_cases h3 : slK g p r = 3
    · rw [if_pos h3] at h
      simp at h
    · rw [if_neg h3]
      dsimp only
      have hE := slE_bd g r hg hr
      have hD := slD_bd p r hp hr
      have h0 : 0 ≤ k * slE g r / slD p r := Int.ediv_nonneg (Int.mul_nonneg hk.1 (by omega)) (by omega)
      have hle := fun w => up_le hg hp hr w k
      have hgw : gwL g p r k = min 50000 (k * slE g r / slD p r) := rfl
      generalize k * slE g r / slD p r = X at *
      have hin : ∀ w, 0 ≤ w → w ≤ 50000 → fuL g p r m w = (slUp g p r w, 0) := fun w a b => by
        unfold fuL
        rw [if_pos (by rw [hv, show inB w 0 50000 = true by simp [inB]; omega]; rfl)]
      refine ⟨by omega, hin _ (by omega) (by omega), (hle _).2 (by omega), ?_⟩
      by_cases hlt : gwL g p r k < 50000
      · refine Or.inl ⟨hlt, hin _ (by omega) (by omega), ?_⟩
        have := hle (gwL g p r k + 1)
        omega
      · have e : gwL g p r k = 50000 := by omega
        refine Or.inr ⟨e, ?_⟩
        rw [e]
        have hc : codeL3 (slB g p r m) [inB (50000 + 1) 0 50000] = 2 := by rw [hv]; rfl
        unfold fuL
        rw [if_neg (by rw [hc]; decide), hc]
  · rw [if_neg hK] at h
    exact absurd h hK

theorem pickL_le (ms : Int → Int) : ∀ (l : List Int) (b : Int), ms (pickL ms b l) ≤ ms b ∧ ∀ i ∈ l, ms (pickL ms b l) ≤ ms i := by
  intro l
  induction l with
  | nil => intro b; exact ⟨Int.le_refl _, fun i h => by cases h⟩
  | cons i l ih =>
    intro b
    obtain ⟨h1, h2⟩ := ih (if ms i < ms b then i else b)
    have e : pickL ms b (i :: l) = pickL ms (if ms i < ms b then i else b) l := rfl
    rw [e]
    have h3 : ms (if ms i < ms b then i else b) ≤ ms b ∧ ms (if ms i < ms b then i else b) ≤ ms i := by
      split <;> omega
    refine ⟨by omega, fun j hj => ?_⟩
    rcases List.mem_cons.1 hj with rfl | hj
    · omega
    · exact h2 j hj

theorem bestL_le (ms : Int → Int) (l : List Int) : ∀ i ∈ l, ms (bestL ms l) ≤ ms i := by
  cases l with
  | nil => intro i h; cases h
  | cons j l =>
    intro i hi
    obtain ⟨h1, h2⟩ := pickL_le ms l j
    rcases List.mem_cons.1 hi with rfl | hi
    · exact h1
    · exact h2 i hi

theorem idxsL_has (p : Nat → Bool) (n : Nat) : ∀ k, k < n → p k = true → (k : Int) ∈ idxsL p n := by
  induction n with
  | zero => intro k h; omega
  | succ n ih =>
    intro k hk hp
    unfold idxsL
    by_cases he : k = n
    · subst he
      rw [hp]
      simp
    · have := ih k (by omega) hp
      cases p n
      · simpa using this
      · simp [this]

/-- The sling that is chosen: its index, and that no lighter one holds the weight. -/
theorem ch_ok {zs : List Sl} {qs : List Int} {w : Int} (h : (chL zs qs w).2 = 0) : (∀ z ∈ zs, okSl z = true) ∧ inB w 0 50000 = true ∧ (∀ q ∈ qs, inB q 0 50000 = true) ∧ qs.length = zs.length ∧ ∃ (b : Nat) (hb : b < zs.length), (chL zs qs w).1 = (b : Int) ∧
    ∀ i (hi : i < zs.length) (hq : i < qs.length), (gwAll zs[i].g zs[i].p zs[i].r zs[i].m qs[i]).2 = 0 → w ≤ (gwAll zs[i].g zs[i].p zs[i].r zs[i].m qs[i]).1 → ¬ zs[i].m < zs[b].m := by
  unfold chL at h ⊢
  by_cases hv : zs.all okSl = true
  · rw [if_pos hv] at h ⊢
    by_cases hc : (inB w 0 50000 && qs.all (fun n => inB n 0 50000) && decide (qs.length = zs.length)) = true
    · rw [if_pos hc] at h ⊢
      simp only [Bool.and_eq_true, decide_eq_true_eq] at hc
      obtain ⟨⟨hw, hq⟩, hl⟩ := hc
      by_cases he : idxsL (heldAt zs qs w) zs.length = []
      · rw [if_pos he] at h
        simp at h
      · rw [if_neg he]
        have hm := bestL_mem (massAt zs) _ he
        obtain ⟨b, e, hb, _⟩ := idxsL_mem _ _ _ hm
        refine ⟨List.all_eq_true.1 hv, hw, List.all_eq_true.1 hq, hl, b, hb, e, fun i hi hqi h1 h2 => ?_⟩
        have hv1 := List.all_eq_true.1 hv zs[i] (List.getElem_mem hi)
        have hh : heldAt zs qs w i = true := by
          unfold heldAt
          rw [List.getElem?_eq_getElem hi, List.getElem?_eq_getElem hqi]
          generalize zs[i] = z at *
          generalize qs[i] = q at *
          have hw0 := inB_true hw
          obtain ⟨hg, hp, hr, _⟩ := slB_bd hv1
          unfold gwAll at h1 h2
          have hK : codeL3 (slB z.g z.p z.r z.m) [inB q 0 50000] = 0 := by
            rcases Decidable.em (codeL3 (slB z.g z.p z.r z.m) [inB q 0 50000] = 0) with hK | hK
            · exact hK
            · rw [if_neg hK] at h1
              exact absurd h1 hK
          rw [if_pos hK] at h1 h2
          by_cases h3 : slK z.g z.p z.r = 3
          · rw [if_pos h3] at h1
            simp at h1
          · rw [if_neg h3] at h2
            dsimp only at h2
            have hle := slK_le z.g z.p z.r
            have := (up_le hg hp hr w q).2 (by unfold gwL at h2; omega)
            simp [holdsSl, slHolds, this]
            omega
        have := bestL_le (massAt zs) _ _ (idxsL_has _ _ i hi hh)
        rw [e] at this
        have m1 : massAt zs (b : Int) = zs[b].m := by simp [massAt, hb]
        have m2 : massAt zs (i : Int) = zs[i].m := by simp [massAt, hi]
        omega
    · rw [if_neg hc] at h
      simp at h
  · rw [if_neg hv] at h
    simp at h

theorem drawn_ok {x1 x2 x3 y : Int} (h1 : 0 ≤ x1 ∧ x1 < 4) (h2 : 0 ≤ x2 ∧ x2 < 60) (h3 : 0 ≤ x3 ∧ x3 < 80) (hy : 0 ≤ y ∧ y ≤ 400) (h : 1 < 1 + x1 ∨ y = 0) : okSl ⟨1 + x1, y, 1 + x2, x3⟩ = true := by
  simp only [okSl, slB, inB, Bool.and_eq_true, Bool.or_eq_true, decide_eq_true_eq]
  omega

set_option maxHeartbeats 2000000 in
theorem drawSl_any (L B N : Nat) (w : World) (h : Src w L B N) (hN : N < 700000000) :
    Calls Try.prog 76 #[.pointer (some ⟨B, 0, none⟩)] w fun e w' => ∃ z : Sl, okSl z = true ∧ e = .returned (.agg #[.int .i64 z.g, .int .i64 z.p, .int .i64 z.r, .int .i64 z.m]) ∧ Src w' L B (N + 10) ∧ w.grownBy w' (some B) := by
  have hB := Src_lt h
  have hL := h.1
  have hp0 : SlBox (w.alloc (.cells #[.int .i64 0, .int .i64 0, .int .i64 0, .int .i64 0] 31)) w.heap.size 0 0 0 0 := heap_alloc_new w _
  have hs0 := Src_below h (show Below w.heap.size w (w.alloc (.cells #[.int .i64 0, .int .i64 0, .int .i64 0, .int .i64 0] 31)) by go_grown)
  have hg0 : w.grownBy (w.alloc (.cells #[.int .i64 0, .int .i64 0, .int .i64 0, .int .i64 0] 31)) (some B) := World.grownBy_alloc _ _ _
  have hz0 : (w.alloc (.cells #[.int .i64 0, .int .i64 0, .int .i64 0, .int .i64 0] 31)).heap.size = w.heap.size + 1 := by simp
  go_enter Try.func76, Try.ntmps76
  go_wp2_with fail
  generalize w.alloc (.cells #[.int .i64 0, .int .i64 0, .int .i64 0, .int .i64 0] 31) = u0 at *
  have P0 := Lib.hid hp0; clear hp0
  have S0 := Lib.hid hs0; clear hs0 h
  refine (pickS_any L B N _ _ S0.out (by omega) (by omega)).mono ?_
  rintro e w1 ⟨x1, hx1, rfl, hs1, hg1⟩
  have S1 := Lib.hid hs1; clear hs1
  go_wp2_with fail
  refine (pickS_any L B (N + 2) _ _ S1.out (by omega) (by omega)).mono ?_
  rintro e w2 ⟨x2, hx2, rfl, hs2, hg2⟩
  have S2 := Lib.hid hs2; clear hs2
  go_wp2_with fail
  refine (pickS_any L B (N + 4) _ _ S2.out (by omega) (by omega)).mono ?_
  rintro e w3 ⟨x3, hx3, rfl, hs3, hg3⟩
  have g3 := grown_step hg0 (grown_step (grown_step hg1 hg2) hg3)
  have hz3 := (grown_step (grown_step hg1 hg2) hg3).size
  have P3 := Lib.hid (SlBox_grown P0.out (grown_step (grown_step hg1 hg2) hg3) (by omega))
  clear hg0 hg1 hg2 hg3
  have hx1' : 0 ≤ x1 ∧ x1 < 4 := ⟨hx1.1, hx1.2.2 (by omega)⟩
  have hx2' : 0 ≤ x2 ∧ x2 < 60 := ⟨hx2.1, hx2.2.2 (by omega)⟩
  have hx3' : 0 ≤ x3 ∧ x3 < 80 := ⟨hx3.1, hx3.2.2 (by omega)⟩
  clear hx1 hx2 hx3
  have k1 : IntKind.i64.wrap (1 + x1) = 1 + x1 := IntWalk.i64_in _ (by omega)
  have k2 : IntKind.i64.wrap (1 + x2) = 1 + x2 := IntWalk.i64_in _ (by omega)
  have k3 : IntKind.i64.wrap (2 * (1 + x2)) = 2 * (1 + x2) := IntWalk.i64_in _ (by omega)
  have k4 : wrap64 (2 * (1 + x2)) = 2 * (1 + x2) := IntWalk.wrap64_in _ (by omega)
  have hq3 : SlBox (w3.alloc (.cells #[.int .i64 (1 + x1), .int .i64 0, .int .i64 (1 + x2), .int .i64 x3] 31)) w3.heap.size (1 + x1) 0 (1 + x2) x3 := heap_alloc_new w3 _
  have hb3 : Below w3.heap.size w3 (w3.alloc (.cells #[.int .i64 (1 + x1), .int .i64 0, .int .i64 (1 + x2), .int .i64 x3] 31)) := by go_grown
  have S3 := Lib.hid (Src_below hs3 hb3)
  have P4 := Lib.hid (SlBox_kept P3.out hb3)
  have g4 := grown_step g3 (below_grown hb3 (some B))
  have hz4 := hb3.size
  clear hs3 g3 S0 S1 S2 P0
  have hlt3 : w.heap.size < w3.heap.size := by omega
  have hne : ¬ w.heap.size = w3.heap.size := by omega
  have hne' : ¬ w3.heap.size = w.heap.size := by omega
  have hBp : w3.heap.size ≠ B := by omega
  by_cases hc : 1 < 1 + x1
  case neg =>
    have h0 : ¬ 0 < x1 := by omega
    have h0d : decide (1 < 1 + x1) = false := by simpa using hc
    have hok := drawn_ok hx1' hx2' hx3' (y := 0) (by omega) (Or.inr rfl)
    clear P3
    go_upto_region 2 with fail
    generalize w3.alloc (.cells #[.int .i64 (1 + x1), .int .i64 0, .int .i64 (1 + x2), .int .i64 x3] 31) = u4 at *
    obtain ⟨⟨a0, a1, a2, a3⟩, f⟩ := SlBox_facts hq3
    obtain ⟨⟨c0, c1, c2, c3⟩, fz⟩ := SlBox_facts P4.out
    clear f
    go_wp2
    (try simp only [Exit.inBlock, Exit.then])
    refine bodyPost_ret (v := .agg #[.int .i64 (1 + x1), .int .i64 0, .int .i64 (1 + x2), .int .i64 x3]) ?_ rfl ?_
    · rw [results_cell1 rfl]
      go_simp
    · exact ⟨(⟨(1 + x1), 0, (1 + x2), x3⟩ : Sl), hok, rfl, src_end4 (Src_more S3.out (by omega)) (by omega) (by omega) _ _ _ _, grown_end4 g4 (Nat.le_refl _) _ _ _ _⟩
  have hq3' := Lib.hid hq3; clear hq3 P3
  go_wp2_with fail
  refine (pickS_any L B (N + 6) _ _ S3.out (by omega) (by omega)).mono ?_
  rintro e w5 ⟨x5, hx5, rfl, hs5, hg5⟩
  have hx5' : 0 ≤ x5 ∧ x5 < 100 := ⟨hx5.1, hx5.2.2 (by omega)⟩
  have q5 := SlBox_grown hq3'.out hg5 (by omega)
  have P5 := SlBox_grown P4.out hg5 (by omega)
  have hz5 := hg5.size
  have g5 := grown_step g4 hg5
  obtain ⟨⟨a0, a1, a2, a3⟩, f⟩ := SlBox_facts q5
  have fz1 := f 1
  clear f hx5 hg5 S3 P4 g4
  have hq6 := (SlBox_put q5 x5).2.1
  have hs6 := Src_set (p := w3.heap.size) (o := 1) (v := .int .i64 x5) hs5 (by omega) (by omega)
  have hg6 := grown_new g5 (p := w3.heap.size) (o := 1) (by omega) (.int .i64 x5)
  have P6 := Lib.hid (SlBox_far (q := w3.heap.size) (o := 1) (v := .int .i64 x5) P5 (by omega))
  have hz6 : (w5.setCell ⟨w3.heap.size, 1, none⟩ (.int .i64 x5)).heap.size = w5.heap.size := by simp
  clear hs5 g5 P5 q5
  have Q6 := Lib.hid hq6; clear hq6
  have S6 := Lib.hid hs6; clear hs6
  go_wp2_with fail
  clear a0 a1 a2 a3 fz1
  generalize hp1 : w3.heap.size = p1 at *
  generalize w5.setCell ⟨p1, 1, none⟩ (.int .i64 x5) = u6 at *
  refine (oneS_any L B (N + 8) _ _ S6.out (by omega) (by omega)).mono ?_
  rintro e w7 ⟨b7, rfl, hs7, hg7⟩
  have Q7 := Lib.hid (SlBox_grown Q6.out hg7 (by omega))
  have P7 := Lib.hid (SlBox_grown P6.out hg7 (by omega))
  have g7 := grown_step hg6 hg7
  have S7 := Lib.hid hs7; clear hs7 hg7 hg6 Q6 P6 S6
  cases b7
  · have hok := drawn_ok hx1' hx2' hx3' (y := x5) (by omega) (Or.inl hc)
    obtain ⟨⟨a0, a1, a2, a3⟩, f⟩ := SlBox_facts Q7.out
    obtain ⟨⟨c0, c1, c2, c3⟩, fz⟩ := SlBox_facts P7.out
    clear f
    go_wp2
    (try simp only [Exit.inBlock, Exit.then])
    refine bodyPost_ret (v := .agg #[.int .i64 (1 + x1), .int .i64 x5, .int .i64 (1 + x2), .int .i64 x3]) ?_ rfl ?_
    · rw [results_cell1 rfl]
      go_simp
    · exact ⟨(⟨(1 + x1), x5, (1 + x2), x3⟩ : Sl), hok, rfl, src_end4 (S7.out) (by omega) (by omega) _ _ _ _, grown_end4 g7 (Nat.le_refl _) _ _ _ _⟩
  · have hok := drawn_ok hx1' hx2' hx3' (y := 2 * (1 + x2)) (by omega) (Or.inl hc)
    have Q8 := (SlBox_put Q7.out (2 * (1 + x2))).2.1
    have S8 := Lib.hid (Src_set (p := p1) (o := 1) (v := .int .i64 (2 * (1 + x2))) S7.out (by omega) (by omega))
    have g8 := grown_new g7 (p := p1) (o := 1) (by omega) (.int .i64 (2 * (1 + x2)))
    have P8 := SlBox_far (q := p1) (o := 1) (v := .int .i64 (2 * (1 + x2))) P7.out (by omega)
    obtain ⟨⟨a0, a1, a2, a3⟩, f⟩ := SlBox_facts Q7.out
    obtain ⟨⟨c0, c1, c2, c3⟩, fz⟩ := SlBox_facts P7.out
    have fz1 := f 1
    clear f
    go_wp2
    (try simp only [Exit.inBlock, Exit.then])
    refine bodyPost_ret (v := .agg #[.int .i64 (1 + x1), .int .i64 (2 * (1 + x2)), .int .i64 (1 + x2), .int .i64 x3]) ?_ rfl ?_
    · rw [results_cell1 rfl]
      go_simp
    · exact ⟨(⟨(1 + x1), (2 * (1 + x2)), (1 + x2), x3⟩ : Sl), hok, rfl, src_end4 (S8.out) (by omega) (by omega) _ _ _ _, grown_end4 g8 (Nat.le_refl _) _ _ _ _⟩

theorem SlNew (g p r m : Int) (w : World) : SlBox (w.alloc (.cells #[.int .i64 g, .int .i64 p, .int .i64 r, .int .i64 m] 31)) w.heap.size g p r m ∧ Below w.heap.size w (w.alloc (.cells #[.int .i64 g, .int .i64 p, .int .i64 r, .int .i64 m] 31)) ∧ (w.alloc (.cells #[.int .i64 g, .int .i64 p, .int .i64 r, .int .i64 m] 31)).heap.size = w.heap.size + 1 := ⟨heap_alloc_new w _, by go_grown, by simp⟩

set_option maxHeartbeats 4000000 in
theorem bentSl_any (L B N : Nat) (w : World) (h : Src w L B N) (hN : N < 600000000) :
    Calls Try.prog 44 #[.pointer (some ⟨B, 0, none⟩)] w fun e w' => ∃ g p r m : Int, e = .returned (.agg #[.int .i64 g, .int .i64 p, .int .i64 r, .int .i64 m]) ∧ Src w' L B (N + 14) ∧ w.grownBy w' (some B) := by
  have hB := Src_lt h
  have hL := h.1
  obtain ⟨hp0, hb0, hz0⟩ := SlNew 0 0 0 0 w
  have hs0 := Src_below h hb0
  have hg0 := below_grown hb0 (some B)
  go_enter Try.func44, Try.ntmps44
  go_wp2_with fail
  generalize w.alloc (.cells #[.int .i64 0, .int .i64 0, .int .i64 0, .int .i64 0] 31) = u0 at *
  have P0 := Lib.hid hp0; clear hp0
  have S0 := Lib.hid hs0; clear hs0 h
  refine (drawSl_any L B N _ S0.out (by omega)).mono ?_
  rintro e w1 ⟨⟨g, p, r, m⟩, hok, rfl, hs1, hg1⟩
  dsimp only
  have g1 := grown_step hg0 hg1
  have hz1 := hg1.size
  have P1 := Lib.hid (SlBox_grown P0.out hg1 (by omega))
  clear hg0 hg1 hok hb0
  go_wp2_with fail
  obtain ⟨hq2, hb2, hz2⟩ := SlNew g p r m w1
  generalize hp1 : w1.heap.size = p1 at *
  have S2 := Lib.hid (Src_below hs1 (by rw [hp1]; exact hb2))
  have P2 := Lib.hid (SlBox_kept P1.out (by rw [hp1]; exact hb2))
  have g2 := grown_step g1 (below_grown (by rw [hp1]; exact hb2) (some B))
  clear hb2 hs1 P1 hp1
  generalize w1.alloc (.cells #[.int .i64 g, .int .i64 p, .int .i64 r, .int .i64 m] 31) = u2 at *
  have Q2 := Lib.hid hq2; clear hq2
  refine (pickS_any L B (N + 10) _ _ S2.out (by omega) (by omega)).mono ?_
  rintro e w3 ⟨x, hx, rfl, hs3, hg3⟩
  have Q3 := Lib.hid (SlBox_grown Q2.out hg3 (by omega))
  have P3 := Lib.hid (SlBox_grown P2.out hg3 (by omega))
  have G3 := Lib.hid (grown_step g2 hg3)
  have hz3 := (grown_step g2 hg3).size
  have hl3 := SlBox_lt Q3.out
  have hl3' := SlBox_lt P3.out
  have S3 := Lib.hid hs3; clear hs3 Q2 P2 S2 g1 g2 hg3 S0 P0
  have hne : ¬ w.heap.size = p1 := by omega
  have hne' : ¬ p1 = w.heap.size := by omega
  by_cases h0 : x = 0
  · subst h0
    go_wp2_with fail
    have hrA : RdI (w3.alloc (.cells #[.int .i64 0, .int .i64 1, .int .i64 4, .int .i64 5] 2)) (.slice (some ⟨w3.heap.size, 0, none⟩) 4 4) [0, 1, 4, 5] := RdI_lit w3 2 [0, 1, 4, 5] (by simp)
    have hbA : Below w3.heap.size w3 (w3.alloc (.cells #[.int .i64 0, .int .i64 1, .int .i64 4, .int .i64 5] 2)) := by go_grown
    refine (amongS_any L B (N + 12) _ [0, 1, 4, 5] _ (Src_below S3.out hbA) (by omega) hrA (by simp) (by simp) (fun A n c e b off e2 => by injection e with e; rw [e2] at e; injection e with e; injection e with e; omega)).mono ?_
    rintro e wA ⟨yA, hyA, rfl, hsA, hgA⟩
    have QA := Lib.hid (SlBox_grown (SlBox_kept Q3.out hbA) hgA (by omega))
    have PA := Lib.hid (SlBox_grown (SlBox_kept P3.out hbA) hgA (by omega))
    have GA := Lib.hid (grown_step (grown_step G3.out (below_grown hbA (some B))) hgA)
    have SA := Lib.hid hsA; clear hsA hgA hbA hrA
    obtain ⟨⟨a0, a1, a2, a3⟩, f⟩ := SlBox_facts QA.out
    obtain ⟨⟨c0, c1, c2, c3⟩, fz⟩ := SlBox_facts PA.out
    go_wp2
    (try simp only [Exit.inBlock, Exit.then])
    refine bodyPost_ret (v := .agg #[.int .i64 yA, .int .i64 p, .int .i64 r, .int .i64 m]) ?_ rfl ⟨_, _, _, _, rfl, ?_, ?_⟩
    · rw [results_cell1 rfl]
      go_simp
    · exact src_end4 (Src_set (Src_more SA.out (by omega)) (by omega) (by omega)) (by omega) (by omega) _ _ _ _
    · exact grown_end4 (grown_new (GA.out) (by omega) _) (Nat.le_refl _) _ _ _ _
  by_cases h1 : x = 1
  · subst h1
    go_wp2_with fail
    have hrA : RdI (w3.alloc (.cells #[.int .i64 (-1), .int .i64 0, .int .i64 400, .int .i64 401, .int .i64 (-9223372036854775808)] 2)) (.slice (some ⟨w3.heap.size, 0, none⟩) 5 5) [-1, 0, 400, 401, -9223372036854775808] := RdI_lit w3 2 [-1, 0, 400, 401, -9223372036854775808] (by simp)
    have hbA : Below w3.heap.size w3 (w3.alloc (.cells #[.int .i64 (-1), .int .i64 0, .int .i64 400, .int .i64 401, .int .i64 (-9223372036854775808)] 2)) := by go_grown
    refine (amongS_any L B (N + 12) _ [-1, 0, 400, 401, -9223372036854775808] _ (Src_below S3.out hbA) (by omega) hrA (by simp) (by simp) (fun A n c e b off e2 => by injection e with e; rw [e2] at e; injection e with e; injection e with e; omega)).mono ?_
    rintro e wA ⟨yA, hyA, rfl, hsA, hgA⟩
    have QA := Lib.hid (SlBox_grown (SlBox_kept Q3.out hbA) hgA (by omega))
    have PA := Lib.hid (SlBox_grown (SlBox_kept P3.out hbA) hgA (by omega))
    have GA := Lib.hid (grown_step (grown_step G3.out (below_grown hbA (some B))) hgA)
    have SA := Lib.hid hsA; clear hsA hgA hbA hrA
    obtain ⟨⟨a0, a1, a2, a3⟩, f⟩ := SlBox_facts QA.out
    obtain ⟨⟨c0, c1, c2, c3⟩, fz⟩ := SlBox_facts PA.out
    go_wp2
    (try simp only [Exit.inBlock, Exit.then])
    refine bodyPost_ret (v := .agg #[.int .i64 g, .int .i64 yA, .int .i64 r, .int .i64 m]) ?_ rfl ⟨_, _, _, _, rfl, ?_, ?_⟩
    · rw [results_cell1 rfl]
      go_simp
    · exact src_end4 (Src_set (Src_more SA.out (by omega)) (by omega) (by omega)) (by omega) (by omega) _ _ _ _
    · exact grown_end4 (grown_new (GA.out) (by omega) _) (Nat.le_refl _) _ _ _ _
  by_cases h2 : x = 2
  · subst h2
    go_wp2_with fail
    have hrA : RdI (w3.alloc (.cells #[.int .i64 0, .int .i64 1, .int .i64 400, .int .i64 401] 2)) (.slice (some ⟨w3.heap.size, 0, none⟩) 4 4) [0, 1, 400, 401] := RdI_lit w3 2 [0, 1, 400, 401] (by simp)
    have hbA : Below w3.heap.size w3 (w3.alloc (.cells #[.int .i64 0, .int .i64 1, .int .i64 400, .int .i64 401] 2)) := by go_grown
    refine (amongS_any L B (N + 12) _ [0, 1, 400, 401] _ (Src_below S3.out hbA) (by omega) hrA (by simp) (by simp) (fun A n c e b off e2 => by injection e with e; rw [e2] at e; injection e with e; injection e with e; omega)).mono ?_
    rintro e wA ⟨yA, hyA, rfl, hsA, hgA⟩
    have QA := Lib.hid (SlBox_grown (SlBox_kept Q3.out hbA) hgA (by omega))
    have PA := Lib.hid (SlBox_grown (SlBox_kept P3.out hbA) hgA (by omega))
    have GA := Lib.hid (grown_step (grown_step G3.out (below_grown hbA (some B))) hgA)
    have SA := Lib.hid hsA; clear hsA hgA hbA hrA
    obtain ⟨⟨a0, a1, a2, a3⟩, f⟩ := SlBox_facts QA.out
    obtain ⟨⟨c0, c1, c2, c3⟩, fz⟩ := SlBox_facts PA.out
    go_wp2
    (try simp only [Exit.inBlock, Exit.then])
    refine bodyPost_ret (v := .agg #[.int .i64 g, .int .i64 p, .int .i64 yA, .int .i64 m]) ?_ rfl ⟨_, _, _, _, rfl, ?_, ?_⟩
    · rw [results_cell1 rfl]
      go_simp
    · exact src_end4 (Src_set (Src_more SA.out (by omega)) (by omega) (by omega)) (by omega) (by omega) _ _ _ _
    · exact grown_end4 (grown_new (GA.out) (by omega) _) (Nat.le_refl _) _ _ _ _
  by_cases h3 : x = 3
  · subst h3
    go_wp2_with fail
    have hrA : RdI (w3.alloc (.cells #[.int .i64 (-1), .int .i64 0, .int .i64 1000, .int .i64 1001] 2)) (.slice (some ⟨w3.heap.size, 0, none⟩) 4 4) [-1, 0, 1000, 1001] := RdI_lit w3 2 [-1, 0, 1000, 1001] (by simp)
    have hbA : Below w3.heap.size w3 (w3.alloc (.cells #[.int .i64 (-1), .int .i64 0, .int .i64 1000, .int .i64 1001] 2)) := by go_grown
    refine (amongS_any L B (N + 12) _ [-1, 0, 1000, 1001] _ (Src_below S3.out hbA) (by omega) hrA (by simp) (by simp) (fun A n c e b off e2 => by injection e with e; rw [e2] at e; injection e with e; injection e with e; omega)).mono ?_
    rintro e wA ⟨yA, hyA, rfl, hsA, hgA⟩
    have QA := Lib.hid (SlBox_grown (SlBox_kept Q3.out hbA) hgA (by omega))
    have PA := Lib.hid (SlBox_grown (SlBox_kept P3.out hbA) hgA (by omega))
    have GA := Lib.hid (grown_step (grown_step G3.out (below_grown hbA (some B))) hgA)
    have SA := Lib.hid hsA; clear hsA hgA hbA hrA
    obtain ⟨⟨a0, a1, a2, a3⟩, f⟩ := SlBox_facts QA.out
    obtain ⟨⟨c0, c1, c2, c3⟩, fz⟩ := SlBox_facts PA.out
    go_wp2
    (try simp only [Exit.inBlock, Exit.then])
    refine bodyPost_ret (v := .agg #[.int .i64 g, .int .i64 p, .int .i64 r, .int .i64 yA]) ?_ rfl ⟨_, _, _, _, rfl, ?_, ?_⟩
    · rw [results_cell1 rfl]
      go_simp
    · exact src_end4 (Src_set (Src_more SA.out (by omega)) (by omega) (by omega)) (by omega) (by omega) _ _ _ _
    · exact grown_end4 (grown_new (GA.out) (by omega) _) (Nat.le_refl _) _ _ _ _
  obtain ⟨⟨a0, a1, a2, a3⟩, f⟩ := SlBox_facts Q3.out
  obtain ⟨⟨c0, c1, c2, c3⟩, fz⟩ := SlBox_facts P3.out
  go_wp2
  (try simp only [Exit.inBlock, Exit.then])
  refine bodyPost_ret (v := .agg #[.int .i64 g, .int .i64 p, .int .i64 r, .int .i64 m]) ?_ rfl ⟨_, _, _, _, rfl, ?_, ?_⟩
  · rw [results_cell1 rfl]
    go_simp
  · exact src_end4 (Src_more S3.out (by omega)) (by omega) (by omega) _ _ _ _
  · exact grown_end4 (G3.out) (Nat.le_refl _) _ _ _ _

set_option maxHeartbeats 4000000 in
theorem askSl_any (A : Option Addr) (n cp : Nat) (w : World) (h : RdC w A n) (hn : n ≤ 1000000) :
    Calls Try.prog 59 #[.slice A n cp] w fun e w' => ∃ g p r m l : Int, e = .returned (.tuple #[.agg #[.int .i64 g, .int .i64 p, .int .i64 r, .int .i64 m], .int .i64 l]) ∧ Below w.heap.size w w' := by
  obtain ⟨hp0, hb0, hz0⟩ := SlNew 0 0 0 0 w
  have hc0 := RdC_kept h hb0
  replace hz0 : w.heap.size < (w.alloc (.cells #[.int .i64 0, .int .i64 0, .int .i64 0, .int .i64 0] 31)).heap.size := by omega
  go_enter Try.func59, Try.ntmps59
  go_wp2_with fail
  generalize w.alloc (.cells #[.int .i64 0, .int .i64 0, .int .i64 0, .int .i64 0] 31) = u0 at *
  refine (from_any _ _ A n cp rfl).mono ?_
  rintro e w1 ⟨rfl, h1⟩
  have hs1 := Src_from (c := cp) hc0 hn
  have hb1 : Below u0.heap.size u0 w1 := by rw [← h1]; go_grown
  rw [h1] at hs1
  have P1 := Lib.hid (SlBox_kept hp0 hb1)
  have B1 := kept_trans hb0 hb1
  have S1 := Lib.hid hs1; clear hs1 hc0 hp0 h1 h hb0 hb1
  generalize hB : u0.heap.size = B at *
  have hB1 := Src_lt S1.out
  go_wp2_with fail
  refine (bentSl_any B B 0 _ S1.out (by omega)).mono ?_
  rintro e w2 ⟨g, p, r, m, rfl, hs2, hg2⟩
  have P2 := Lib.hid (SlBox_grown P1.out hg2 (by omega))
  have B2 := grown_below B1 hg2 (fun g hg => by injection hg with hg; omega)
  have hz2 := hg2.size
  clear hg2
  go_wp2_with fail
  obtain ⟨hq3, hb3, hz3⟩ := SlNew g p r m w2
  generalize hp1 : w2.heap.size = p1 at *
  have S3 := Lib.hid (Src_below hs2 (by rw [hp1]; exact hb3))
  have P3 := Lib.hid (SlBox_kept P2.out (by rw [hp1]; exact hb3))
  have B3 := kept_trans B2 (by rw [hp1]; exact hb3)
  clear hb3 hs2 P2 hp1
  generalize w2.alloc (.cells #[.int .i64 g, .int .i64 p, .int .i64 r, .int .i64 m] 31) = u3 at *
  have Q3 := Lib.hid hq3; clear hq3
  obtain ⟨⟨a0, a1, a2, a3⟩, f⟩ := SlBox_facts Q3.out
  clear f
  have hne : ¬ w.heap.size = p1 := by omega
  have hne' : ¬ p1 = w.heap.size := by omega
  first
    | go_region_held3 (fun w' => w'.cell? ⟨p1, 0, none⟩ = some (.int .i64 g) ∧ w'.cell? ⟨p1, 1, none⟩ = some (.int .i64 p) ∧ w'.cell? ⟨p1, 2, none⟩ = some (.int .i64 r) ∧ w'.cell? ⟨p1, 3, none⟩ = some (.int .i64 m)) (first | go_keep | (exact ⟨b0, b1, b2, b3⟩))
        ((go_at_call 45; refine (drawLoad_any B B 14 _ (by exact S3.out) (by omega)).mono ?_; rintro e w4 ⟨q, rfl, hs4, hg4⟩; (first | (replace hg4 := undrew hg4) | skip); obtain ⟨⟨b0, b1, b2, b3⟩, f⟩ := SlBox_facts (SlBox_grown Q3.out (by exact hg4) (by omega)); obtain ⟨⟨c0, c1, c2, c3⟩, fz⟩ := SlBox_facts (SlBox_grown P3.out (by exact hg4) (by omega)); clear f; clear hs4; have B4 := Lib.hid (grown_below B3 (by exact hg4) (fun g hg => by injection hg with hg; omega)); clear hg4))
    | fail
  all_goals
    go_wp2
    (try simp only [Exit.inBlock, Exit.then])
    refine bodyPost_ret (v := .tuple #[.agg #[.int .i64 g, .int .i64 p, .int .i64 r, .int .i64 m], .int .i64 q]) ?_ rfl ⟨_, _, _, _, _, rfl, ?_⟩
    · simp [results, Try.results59, go_sem, c0, c1, c2, c3, fz]
    · exact (((B4.out.setCell (Nat.le_refl _) _).setCell (Nat.le_refl _) _).setCell (Nat.le_refl _) _).setCell (Nat.le_refl _) _

set_option maxHeartbeats 2000000 in
theorem drawGW_any (A : Option Addr) (n cp : Nat) (w : World) (h : RdC w A n) (hn : n ≤ 1000000) :
    Calls Try.prog 17 #[.slice A n cp] w fun e w' => ∃ g p r m l : Int, e = .returned (.tuple #[.agg #[.int .i64 g, .int .i64 p, .int .i64 r, .int .i64 m], .int .i64 l]) ∧ Below w.heap.size w w' := by
  obtain ⟨hp0, hb0, hz0⟩ := SlNew 0 0 0 0 w
  have hc0 := RdC_kept h hb0
  replace hz0 : w.heap.size < (w.alloc (.cells #[.int .i64 0, .int .i64 0, .int .i64 0, .int .i64 0] 31)).heap.size := by omega
  clear h
  go_enter Try.func17, Try.ntmps17
  go_wp2_with fail
  generalize w.alloc (.cells #[.int .i64 0, .int .i64 0, .int .i64 0, .int .i64 0] 31) = u0 at *
  have P0 := Lib.hid hp0; clear hp0
  refine (askSl_any A n cp _ hc0 hn).mono ?_
  rintro e w1 ⟨g, p, r, m, l, rfl, hb1⟩
  obtain ⟨⟨c0, c1, c2, c3⟩, fz⟩ := SlBox_facts (SlBox_kept P0.out hb1)
  have B1 := Lib.hid (kept_trans hb0 hb1)
  clear hc0 hb1 hb0
  go_wp2
  (try simp only [Exit.inBlock, Exit.then])
  refine bodyPost_ret (v := .tuple #[.agg #[.int .i64 g, .int .i64 p, .int .i64 r, .int .i64 m], .int .i64 l]) ?_ rfl ⟨_, _, _, _, _, rfl, ?_⟩
  · simp [results, Try.results17, go_sem, c0, c1, c2, c3, fz]
  · exact (((B1.out.setCell (Nat.le_refl _) _).setCell (Nat.le_refl _) _).setCell (Nat.le_refl _) _).setCell (Nat.le_refl _) _

set_option maxHeartbeats 2000000 in
theorem drawHM_any (A : Option Addr) (n cp : Nat) (w : World) (h : RdC w A n) (hn : n ≤ 1000000) :
    Calls Try.prog 20 #[.slice A n cp] w fun e w' => ∃ g p r m l : Int, e = .returned (.tuple #[.agg #[.int .i64 g, .int .i64 p, .int .i64 r, .int .i64 m], .int .i64 l]) ∧ Below w.heap.size w w' := by
  obtain ⟨hp0, hb0, hz0⟩ := SlNew 0 0 0 0 w
  have hc0 := RdC_kept h hb0
  replace hz0 : w.heap.size < (w.alloc (.cells #[.int .i64 0, .int .i64 0, .int .i64 0, .int .i64 0] 31)).heap.size := by omega
  clear h
  go_enter Try.func20, Try.ntmps20
  go_wp2_with fail
  generalize w.alloc (.cells #[.int .i64 0, .int .i64 0, .int .i64 0, .int .i64 0] 31) = u0 at *
  have P0 := Lib.hid hp0; clear hp0
  refine (askSl_any A n cp _ hc0 hn).mono ?_
  rintro e w1 ⟨g, p, r, m, l, rfl, hb1⟩
  obtain ⟨⟨c0, c1, c2, c3⟩, fz⟩ := SlBox_facts (SlBox_kept P0.out hb1)
  have B1 := Lib.hid (kept_trans hb0 hb1)
  clear hc0 hb1 hb0
  go_wp2
  (try simp only [Exit.inBlock, Exit.then])
  refine bodyPost_ret (v := .tuple #[.agg #[.int .i64 g, .int .i64 p, .int .i64 r, .int .i64 m], .int .i64 l]) ?_ rfl ⟨_, _, _, _, _, rfl, ?_⟩
  · simp [results, Try.results20, go_sem, c0, c1, c2, c3, fz]
  · exact (((B1.out.setCell (Nat.le_refl _) _).setCell (Nat.le_refl _) _).setCell (Nat.le_refl _) _).setCell (Nat.le_refl _) _

theorem flatSl_snoc (zs : List Sl) (z : Sl) : flatSl (zs ++ [z]) = flatSl zs ++ [.int .i64 z.g, .int .i64 z.p, .int .i64 z.r, .int .i64 z.m] := by simp [flatSl, encSl]

/-- append of one sling to a row of the call's own, and where the new row lies. -/
theorem wp_appendSl {ops : Array Oper} {rest : List Oper} {o : Oper} {a : Act} {Q : Exit → Act → World → Prop} {wr : World} (hgd : o.guard = none) (s x : Operand)
    (ho : o.op = .call { callee := .builtin .append, args := #[s, x], argTypes := #[24, 24] })
    (lo : Nat) (v : Value) (zs : List Sl) (g p r m : Int) (hs : a.eval s = v) (hrow : RowF 31 4 wr lo wr.heap.size v zs.length (flatSl zs)) (hx : a.eval x = .slice (some ⟨wr.heap.size, 0, none⟩) 1 1)
    (hlo2 : lo ≤ wr.heap.size) (hn : zs.length < 1000000000)
    (h : ∀ v' w', RowF 31 4 w' lo w'.heap.size v' (zs ++ [(⟨g, p, r, m⟩ : Sl)]).length (flatSl (zs ++ [⟨g, p, r, m⟩])) → wr.grownBy w' v.ownBlock → (∀ g, v'.ownBlock = some g → v.ownBlock = some g ∨ wr.heap.size ≤ g) → wpList Try.prog ops Q rest (a.put o.dst v') w') :
    wpList Try.prog ops Q (o :: rest) a (wr.alloc (.cells #[.int .i64 g, .int .i64 p, .int .i64 r, .int .i64 m] 31)) := by
  obtain ⟨i0, hi, hz0, hz1, hz2⟩ := info_parts info_sling
  refine wpList_append_own_at _ hgd s x _ ho lo 31 i0 (.agg #[.int .i64 0, .int .i64 0, .int .i64 0, .int .i64 0]) 4 32 Try.underlying24 hi hz0 hz1 hz2 rfl (by decide) v zs.length _ hs (hrow.1.alloc _) ⟨wr.heap.size, 0, none⟩ 1 1 [.int .i64 g, .int .i64 p, .int .i64 r, .int .i64 m] hx rfl ?_ ?_ ?_ ?_ ?_ ?_
  · intro j u hj
    match j with
    | 0 => simp at hj; subst hj; simp [Addr.add]
    | 1 => simp at hj; subst hj; simp [Addr.add]
    | 2 => simp at hj; subst hj; simp [Addr.add]
    | 3 => simp at hj; subst hj; simp [Addr.add]
    | j + 4 => simp at hj
  · intro u hu; simp at hu; rcases hu with rfl | rfl | rfl | rfl <;> rfl
  · unfold maxLen; omega
  · omega
  · simp; omega
  · intro v' w' hown hg _ hat
    have e := flatSl_snoc zs ⟨g, p, r, m⟩
    dsimp only at e
    rw [← e] at hown
    have hrow' : RowF 31 4 w' lo w'.heap.size v' (zs ++ [(⟨g, p, r, m⟩ : Sl)]).length (flatSl (zs ++ [⟨g, p, r, m⟩])) := ⟨by simpa using hown, hown.lt⟩
    have hal : Below wr.heap.size wr (wr.alloc (.cells #[.int .i64 g, .int .i64 p, .int .i64 r, .int .i64 m] 31)) := by go_grown
    refine h v' w' hrow' (grown_step (below_grown hal _) hg) ?_
    intro g hg2
    rcases hat with h1 | h1
    · exact Or.inl (by rw [← h1]; exact hg2)
    · rw [h1] at hg2
      refine Or.inr ?_
      injection hg2 with hg2
      simp at hg2
      omega

/-- append of one number to a row of the call's own, and where the new row lies. -/
theorem wp_appendIG {ops : Array Oper} {rest : List Oper} {o : Oper} {a : Act} {Q : Exit → Act → World → Prop} {wr : World} (hgd : o.guard = none) (s x : Operand)
    (ho : o.op = .call { callee := .builtin .append, args := #[s, x], argTypes := #[25, 25] })
    (lo : Nat) (v : Value) (zs : List Int) (z : Int) (hs : a.eval s = v) (hrow : RowI wr lo wr.heap.size v zs) (hx : a.eval x = .slice (some ⟨wr.heap.size, 0, none⟩) 1 1)
    (hlo2 : lo ≤ wr.heap.size) (hn : zs.length < 1000000000)
    (h : ∀ v' w', RowI w' lo w'.heap.size v' (zs ++ [z]) → wr.grownBy w' v.ownBlock → (∀ g, v'.ownBlock = some g → v.ownBlock = some g ∨ wr.heap.size ≤ g) → wpList Try.prog ops Q rest (a.put o.dst v') w') :
    wpList Try.prog ops Q (o :: rest) a (wr.alloc (.cells #[.int .i64 z] 2)) := by
  obtain ⟨i0, hi, hz0, hz1, hz2⟩ := info_parts info_int64
  refine wpList_append_own_at _ hgd s x _ ho lo 2 i0 (.int .i64 0) 1 8 Try.underlying25 hi hz0 hz1 hz2 rfl (by decide) v zs.length _ hs (hrow.1.alloc _) ⟨wr.heap.size, 0, none⟩ 1 1 [.int .i64 z] hx rfl ?_ ?_ ?_ ?_ ?_ ?_
  · intro j u hj
    cases j with
    | zero => simp at hj; subst hj; simp [Addr.add]
    | succ j => simp at hj
  · intro u hu; simp at hu; subst hu; rfl
  · unfold maxLen; omega
  · omega
  · simp; omega
  · intro v' w' hown hg _ hat
    have e : (zs.map (Value.int .i64) ++ [.int .i64 z]) = (zs ++ [z]).map (Value.int .i64) := by simp
    rw [e] at hown
    have hrow' : RowI w' lo w'.heap.size v' (zs ++ [z]) := ⟨by simpa using hown, hown.lt⟩
    have hal : Below wr.heap.size wr (wr.alloc (.cells #[.int .i64 z] 2)) := by go_grown
    refine h v' w' hrow' (grown_step (below_grown hal _) hg) ?_
    intro g hg2
    rcases hat with h1 | h1
    · exact Or.inl (by rw [← h1]; exact hg2)
    · rw [h1] at hg2
      refine Or.inr ?_
      injection hg2 with hg2
      simp at hg2
      omega

/-- Two rows of the call's own, as far as they are drawn. -/
def DcS (w wr : World) (ov iv : Value) (zs : List Sl) (qs : List Int) : Prop :=
  RowF 31 4 wr (w.heap.size + 1) wr.heap.size ov zs.length (flatSl zs) ∧ RowI wr (w.heap.size + 1) wr.heap.size iv qs ∧ (∀ g, ov.ownBlock = some g → iv.ownBlock ≠ some g) ∧ Below w.heap.size w wr ∧ w.heap.size + 1 ≤ wr.heap.size

theorem DcS_grown {w wr w1 : World} {ov iv : Value} {zs : List Sl} {qs : List Int} (h : DcS w wr ov iv zs qs) (hg : wr.grownBy w1 (some w.heap.size)) : DcS w w1 ov iv zs qs := by
  obtain ⟨h1, h2, h3, h4, h5⟩ := h
  have hz := hg.size
  exact ⟨RowF_lo (RowF_far h1 hg (fun g hg => by injection hg with hg; omega)) (Nat.le_refl _) hz, RowI_lo (RowI_far h2 hg (fun g hg => by injection hg with hg; omega)) (Nat.le_refl _) hz, h3, grown_below h4 hg (fun g hg => by injection hg with hg; omega), by omega⟩

theorem DcS_sl {w wr w' : World} {ov iv v' : Value} {zs zs' : List Sl} {qs : List Int} (h : DcS w wr ov iv zs qs) (hr : RowF 31 4 w' (w.heap.size + 1) w'.heap.size v' zs'.length (flatSl zs')) (hg : wr.grownBy w' ov.ownBlock)
    (hat : ∀ g, v'.ownBlock = some g → ov.ownBlock = some g ∨ wr.heap.size ≤ g) : DcS w w' v' iv zs' qs := by
  obtain ⟨h1, h2, h3, h4, h5⟩ := h
  have hz := hg.size
  refine ⟨hr, RowI_lo (⟨h2.1.kept hg ?_, h2.2⟩ : RowI w' (w.heap.size + 1) wr.heap.size iv qs) (Nat.le_refl _) hz, ?_, grown_below h4 hg (fun g hg => by have := h1.2 g hg; omega), by omega⟩
  · rcases hv : iv.ownBlock with _ | g
    · exact Or.inl rfl
    · exact Or.inr (fun e => h3 g e.symm hv)
  · intro g e1 e2
    rcases hat g e1 with e | e
    · exact h3 g e e2
    · have := h2.2 g e2
      omega

theorem DcS_int {w wr w' : World} {ov iv v' : Value} {zs : List Sl} {qs qs' : List Int} (h : DcS w wr ov iv zs qs) (hr : RowI w' (w.heap.size + 1) w'.heap.size v' qs') (hg : wr.grownBy w' iv.ownBlock)
    (hat : ∀ g, v'.ownBlock = some g → iv.ownBlock = some g ∨ wr.heap.size ≤ g) : DcS w w' ov v' zs qs' := by
  obtain ⟨h1, h2, h3, h4, h5⟩ := h
  have hz := hg.size
  refine ⟨RowF_lo (⟨h1.1.kept hg ?_, h1.2⟩ : RowF 31 4 w' (w.heap.size + 1) wr.heap.size ov zs.length (flatSl zs)) (Nat.le_refl _) hz, hr, ?_, grown_below h4 hg (fun g hg => by have := h2.2 g hg; omega), by omega⟩
  · rcases hv : ov.ownBlock with _ | g
    · exact Or.inl rfl
    · exact Or.inr (fun e => h3 g hv e.symm)
  · intro g e1 e2
    rcases hat g e2 with e | e
    · exact h3 g e1 e
    · have := h1.2 g e1
      omega

theorem DcS_new {w w1 : World} (hb : Below w.heap.size w w1) (hz : w.heap.size + 1 ≤ w1.heap.size) :
    DcS w ((w1.alloc (.cells #[] 31)).alloc (.cells #[] 2)) (.slice (some ⟨w1.heap.size, 0, none⟩) 0 0) (.slice (some ⟨w1.heap.size + 1, 0, none⟩) 0 0) [] [] := by
  have hb1 : Below w1.heap.size w1 (w1.alloc (.cells #[] 31)) := by go_grown
  have hz1 : (w1.alloc (.cells #[] 31)).heap.size = w1.heap.size + 1 := by simp
  rw [← hz1]
  have hr0 : RowF 31 4 (w1.alloc (.cells #[] 31)) w1.heap.size (w1.alloc (.cells #[] 31)).heap.size (.slice (some ⟨w1.heap.size, 0, none⟩) 0 0) ([] : List Sl).length (flatSl []) := ⟨World.ownsRow_lit w1 #[] 0 (Nat.le_refl _) (by decide) (by rfl), fun g hg => by simp [Value.ownBlock] at hg; subst hg; simp⟩
  generalize w1.alloc (.cells #[] 31) = u1 at *
  have hb2 : Below u1.heap.size u1 (u1.alloc (.cells #[] 2)) := by go_grown
  have hz2 : (u1.alloc (.cells #[] 2)).heap.size = u1.heap.size + 1 := by simp
  have hr1 := RowI_new u1
  refine ⟨RowF_lo (RowF_kept hr0 hb2) hz (by omega), RowI_lo hr1 (by omega) (by omega), ?_, kept_trans (kept_trans hb hb1) hb2, by omega⟩
  intro g e1 e2
  simp [Value.ownBlock] at e1 e2
  omega

set_option maxHeartbeats 4000000 in
theorem drawCS_any (A : Option Addr) (n cp : Nat) (w : World) (h : RdC w A n) (hn : n ≤ 1000000) :
    Calls Try.prog 14 #[.slice A n cp] w fun e w' => ∃ (v : Value) (zs : List Sl) (vq : Value) (qs : List Int) (l : Int), e = .returned (.tuple #[v, vq, .int .i64 l]) ∧ zs.length ≤ 4 ∧ qs.length ≤ 5 ∧ RdSl w' v zs ∧ RdI w' vq qs ∧ Below w.heap.size w w' := by
  have HC := Lib.hid h; clear h
  go_enter Try.func14, Try.ntmps14
  go_wp2_with fail
  refine (from_any _ _ A n cp rfl).mono ?_
  rintro e w1 ⟨rfl, h1⟩
  have hs1 := Src_from (c := cp) HC.out hn
  have hb1 : Below w.heap.size w w1 := by rw [← h1]; go_grown
  rw [h1] at hs1
  have hz1 := Src_lt hs1
  have D0 := DcS_new hb1 (by omega)
  have hbA : Below w1.heap.size w1 ((w1.alloc (.cells #[] 31)).alloc (.cells #[] 2)) := by go_grown
  have hs2 := Src_below hs1 hbA
  have HD0 := Lib.hid D0; clear D0
  have HS0 := Lib.hid hs2; clear hs2 hs1 h1 hb1 hbA HC
  go_wp2_with fail
  generalize (w1.alloc (.cells #[] 31)).alloc (.cells #[] 2) = u2 at *
  refine (pickS_any w.heap.size w.heap.size 0 _ _ HS0.out (by omega) (by omega)).mono ?_
  rintro e w2 ⟨x2, hx2, rfl, hs2, hg2⟩
  obtain ⟨k2, hk2, rfl⟩ : ∃ k2 : Nat, k2 < 5 ∧ x2 = (k2 : Int) := ⟨x2.toNat, by omega, by omega⟩
  have HD2 := Lib.hid (DcS_grown HD0.out hg2)
  have HS2 := Lib.hid hs2; clear hs2 hg2 HS0 HD0
  go_wp2_with fail
  go_loopw [6, 7, 8] (fun o i k wr => ∃ (zs : List Sl) (qs : List Int) (kk : Nat) (ov iv : Value), ov = o ∧ iv = i ∧ k = .int .i64 (kk : Int) ∧ zs.length + kk ≤ 4 ∧ qs.length = zs.length ∧ DcS w wr ov iv zs qs ∧ Src wr w.heap.size w.heap.size (2 + 18 * zs.length)) (fun _ _ k _ => (intOf k).toNat)
  case atStart => exact ⟨[], [], k2, _, _, rfl, rfl, by go_num, by simp; omega, rfl, HD2.out, HS2.out⟩
  case round =>
    obtain ⟨zs, qs, kk, ov, iv, ho, hi, rfl, hk, hq, hd, hs⟩ := hrel
    subst ho
    subst hi
    have HD := Lib.hid hd; clear hd
    have HS := Lib.hid hs; clear hs
    by_cases hk0 : kk = 0
    · subst hk0
      go_wp2_with fail
      refine (oneS_any w.heap.size w.heap.size (2 + 18 * zs.length) _ _ HS.out (by omega) (by omega)).mono ?_
      rintro e w3 ⟨b3, rfl, hs3, hg3⟩
      have HD3 := Lib.hid (DcS_grown HD.out hg3)
      have HS3 := Lib.hid hs3; clear hs3 hg3
      have hz3 := Src_lt HS3.out
      cases b3
      · go_wp2_with fail
        refine (drawLoad_any w.heap.size w.heap.size (2 + 18 * zs.length + 2) _ HS3.out (by omega)).mono ?_
        rintro e w4 ⟨l, rfl, hs4, hg4⟩
        have HD4 := Lib.hid (DcS_grown HD3.out hg4)
        clear hs4 hg4
        go_wp2
        go_ret3
        exact ⟨_, zs, _, qs, l, rfl, by omega, by omega, RowF_rd HD4.out.1, RowI_rd HD4.out.2.1, HD4.out.2.2.2.1⟩
      · go_wp2_with (at_builtin; refine wp_appendIG rfl (.tmp 31) (.tmp 32) rfl (w.heap.size + 1) iv qs 1 rfl (by exact HD3.out.2.1) rfl (by omega) (by omega) ?_; intro v' w' hrow' hgr hat)
        have HD4 := Lib.hid (DcS_int HD3.out hrow' hgr hat)
        have HS4 := Lib.hid (Src_grown HS3.out hgr (fun g hg => by have := HD3.out.2.1.2 g hg; omega)); clear hrow' hgr hat
        refine (drawLoad_any w.heap.size w.heap.size (2 + 18 * zs.length + 2) _ HS4.out (by omega)).mono ?_
        rintro e w5 ⟨l, rfl, hs5, hg5⟩
        have HD5 := Lib.hid (DcS_grown HD4.out hg5)
        clear hs5 hg5
        go_wp2
        go_ret3
        exact ⟨_, zs, _, qs ++ [1], l, rfl, by omega, by simp; omega, RowF_rd HD5.out.1, RowI_rd HD5.out.2.1, HD5.out.2.2.2.1⟩
    · obtain ⟨k1, rfl⟩ : ∃ k1, kk = k1 + 1 := ⟨kk - 1, by omega⟩
      go_wp2_with fail
      refine (bentSl_any w.heap.size w.heap.size (2 + 18 * zs.length) _ HS.out (by omega)).mono ?_
      rintro e w3 ⟨g, p, r, m, rfl, hs3, hg3⟩
      have HD3 := Lib.hid (DcS_grown HD.out hg3)
      have HS3 := Lib.hid hs3; clear hs3 hg3
      have hz3 := Src_lt HS3.out
      go_wp2_with (at_builtin; refine wp_appendSl rfl (.tmp 19) (.tmp 22) rfl (w.heap.size + 1) ov zs g p r m rfl (by exact HD3.out.1) rfl (by omega) (by omega) ?_; intro v' w' hrow' hgr hat)
      have HD4 := Lib.hid (DcS_sl HD3.out hrow' hgr hat)
      have HS4 := Lib.hid (Src_grown HS3.out hgr (fun g hg => by have := HD3.out.1.2 g hg; omega)); clear hrow' hgr hat
      refine (drawLoad_any w.heap.size w.heap.size (2 + 18 * zs.length + 14) _ HS4.out (by omega)).mono ?_
      rintro e w5 ⟨l, rfl, hs5, hg5⟩
      have HD5 := Lib.hid (DcS_grown HD4.out hg5)
      have HS5 := Lib.hid hs5; clear hs5 hg5
      have hz5 := Src_lt HS5.out
      go_wp2_with (at_builtin; refine wp_appendIG rfl (.tmp 24) (.tmp 27) rfl (w.heap.size + 1) iv qs l rfl (by exact HD5.out.2.1) rfl (by omega) (by omega) ?_; intro v2 w6 hrow6 hgr6 hat6)
      have HD6 := Lib.hid (DcS_int HD5.out hrow6 hgr6 hat6)
      have HS6 := Lib.hid (Src_grown HS5.out hgr6 (fun g hg => by have := HD5.out.2.1.2 g hg; omega)); clear hrow6 hgr6 hat6
      go_roundw
      case rel => exact ⟨_, _, k1, _, _, rfl, rfl, by go_num, by simp; omega, by simp; omega, HD6.out, Src_more HS6.out (by simp; omega)⟩
      case measure => simp [intOf]

theorem fu_at {g p r m x U c : Int} (h : fuL g p r m x = (U, c)) (u : World) :
    Calls Try.prog 23 #[.agg #[.int .i64 g, .int .i64 p, .int .i64 r, .int .i64 m], .int .i64 x] u fun e w' => e = .returned (.tuple #[.int .i64 U, .int .i64 c]) ∧ Below u.heap.size u w' := by
  have k := implFU_any g p r m x u
  rw [h] at k
  exact k

theorem gw_up {g p r m k a c : Int} (h : gwAll g p r m k = (a, c)) (h0 : c = 0) : (0 ≤ a ∧ a ≤ 50000) ∧ ∃ U V e, fuL g p r m a = (U, 0) ∧ U ≤ k ∧ fuL g p r m (a + 1) = (V, e) ∧ ((e = 0 ∧ a < 50000 ∧ k < V) ∨ (e = 2 ∧ a = 50000)) := by
  subst h0
  have e1 : (gwAll g p r m k).2 = 0 := by rw [h]
  obtain ⟨b, u, l, q⟩ := gw_ok e1
  rw [h] at b u l q
  dsimp only at b u l q
  refine ⟨b, _, (fuL g p r m (a + 1)).1, (fuL g p r m (a + 1)).2, u, l, rfl, ?_⟩
  rcases q with ⟨r1, r2, r3⟩ | ⟨r1, r2⟩
  · exact Or.inl ⟨by rw [r2], r1, by rw [r2]; exact r3⟩
  · exact Or.inr ⟨by rw [r2], r1⟩

-- needs open_bytes
set_option maxRecDepth 1000000 in
set_option maxHeartbeats 20000000 in
theorem walk_FnChosenSlings (w : World) (A : Option Addr) (n cp : Nat) (hr : RdC w A n) (hn : n ≤ maxLen) :
    Calls Try.prog 3 #[.slice A n cp] w fun e w' => e = .returned (.bool true) ∧ Below w.heap.size w w' := by
  have HR := Lib.hid hr; clear hr hn
  by_cases hbig : 4096 < n
  · go_enter Try.func3, Try.ntmps3
    go_wp2_with fail
    refine (f6big_any _ _ _ _).mono ?_
    rintro e w1 ⟨rfl, rfl⟩
    go_wp2
    go_ret
    exact ⟨rfl, Below.refl _ _⟩
  go_enter Try.func3, Try.ntmps3
  go_wp2_with fail
  refine (f6big_any _ _ _ _).mono ?_
  rintro e w1 ⟨rfl, rfl⟩
  go_wp2_with fail
  refine (drawCS_any A n cp _ HR.out (by omega)).mono ?_
  rintro e w1 ⟨v, zs, vq, qs, l, rfl, hzl, hql, hrd, hrq, hb1⟩
  have B1 := Lib.hid hb1
  have hR2 := RdC_kept HR.out hb1
  clear HR
  have HR := Lib.hid hR2; clear hR2 hb1
  have hCS := fun u x y => specCh_any v vq zs qs l u x y (by omega) (by omega)
  have hCI := fun u x y => implCh_any v vq zs qs l u x y (by omega) (by omega)
  have hok := @ch_ok zs qs l
  generalize chL zs qs l = CH at *
  obtain ⟨cb, cc⟩ := CH
  dsimp only at hCS hCI hok
  have HCS := Lib.hid hCS; clear hCS
  have HCI := Lib.hid hCI; clear hCI
  have HOK := Lib.hid hok; clear hok
  obtain ⟨A5, cp5, rfl, hzn, hzr⟩ := RdSl_at hrd
  obtain ⟨hqn, A6, cp6, rfl, hqr⟩ := hrq
  have LZ := Lib.hid hrd; clear hrd hzr
  have LQ := Lib.hid (show RdI w1 (.slice A6 qs.length cp6) qs from ⟨hqn, A6, cp6, rfl, hqr⟩); clear hqr
  go_wp2_with fail
  refine (HCS.out _ LZ.out LQ.out).mono ?_
  rintro e w2 ⟨rfl, hb2⟩
  replace LZ := Lib.hid (RdSl_kept LZ.out hb2)
  replace LQ := Lib.hid (RdI_kept LQ.out hb2)
  replace HR := Lib.hid (RdC_kept HR.out hb2)
  have B2 := Lib.hid (kept_trans B1.out hb2); clear hb2 HCS
  go_wp2_with fail
  refine (HCI.out _ LZ.out LQ.out).mono ?_
  rintro e w3 ⟨rfl, hb3⟩
  replace LZ := Lib.hid (RdSl_kept LZ.out hb3)
  replace LQ := Lib.hid (RdI_kept LQ.out hb3)
  replace HR := Lib.hid (RdC_kept HR.out hb3)
  have B3 := Lib.hid (kept_trans B2.out hb3); clear hb3 HCI B1 B2
  go_wp2_with fail
  refine (drawGW_any A n cp _ HR.out (by omega)).mono ?_
  rintro e w4 ⟨g, p, r, m, k, rfl, hb4⟩
  replace LZ := Lib.hid (RdSl_kept LZ.out hb4)
  replace LQ := Lib.hid (RdI_kept LQ.out hb4)
  replace HR := Lib.hid (RdC_kept HR.out hb4)
  have B4 := Lib.hid (kept_trans B3.out hb4); clear hb4 B3
  have hGS := fun u => specGW_any g p r m k u
  have hGI := fun u => implGW_any g p r m k u
  have hgw := fun a c (h : gwAll g p r m k = (a, c)) => gw_up h
  generalize gwAll g p r m k = GW at *
  obtain ⟨gw, gc⟩ := GW
  dsimp only at hGS hGI hgw
  have hgu := hgw gw gc rfl
  have HGS := Lib.hid hGS; clear hGS
  have HGI := Lib.hid hGI; clear hGI
  have HGU := Lib.hid hgu; clear hgu hgw
  have hbs := B4.out.size
  have hlz := LZ.out
  go_wp2_with fail
  obtain ⟨hq5, hb5, hz5⟩ := SlNew g p r m w4
  replace LZ := Lib.hid (RdSl_kept LZ.out hb5)
  replace LQ := Lib.hid (RdI_kept LQ.out hb5)
  replace HR := Lib.hid (RdC_kept HR.out hb5)
  have B5 := Lib.hid (kept_trans B4.out hb5); clear hb5 B4 hlz
  generalize hp4 : w4.heap.size = pb at *
  generalize w4.alloc (.cells #[.int .i64 g, .int .i64 p, .int .i64 r, .int .i64 m] 31) = u5 at *
  have Kb := Lib.hid hq5; clear hq5 hp4 hz5
  refine (HGS.out _).mono ?_
  rintro e w6 ⟨rfl, hb6⟩
  replace Kb := Lib.hid (SlBox_kept Kb.out hb6)
  replace LZ := Lib.hid (RdSl_kept LZ.out hb6)
  replace LQ := Lib.hid (RdI_kept LQ.out hb6)
  replace HR := Lib.hid (RdC_kept HR.out hb6)
  have B6 := Lib.hid (kept_trans B5.out hb6); clear hb6 B5
  obtain ⟨⟨a0, a1, a2, a3⟩, f⟩ := SlBox_facts Kb.out
  clear f
  go_wp2_with fail
  clear a0 a1 a2 a3
  refine (HGI.out _).mono ?_
  rintro e w7 ⟨rfl, hb7⟩
  replace Kb := Lib.hid (SlBox_kept Kb.out hb7)
  replace LZ := Lib.hid (RdSl_kept LZ.out hb7)
  replace LQ := Lib.hid (RdI_kept LQ.out hb7)
  replace HR := Lib.hid (RdC_kept HR.out hb7)
  have B7 := Lib.hid (kept_trans B6.out hb7); clear hb7 B6 HGS HGI
  go_wp2_with fail
  refine (drawHM_any A n cp _ HR.out (by omega)).mono ?_
  rintro e w8 ⟨g2, p2, r2, m2, k2, rfl, hb8⟩
  replace Kb := Lib.hid (SlBox_kept Kb.out hb8)
  replace LZ := Lib.hid (RdSl_kept LZ.out hb8)
  replace LQ := Lib.hid (RdI_kept LQ.out hb8)
  have B8 := Lib.hid (kept_trans B7.out hb8); clear hb8 B7 HR
  have hHS := fun u => specHM_any g2 p2 r2 m2 k2 u
  have hHI := fun u => implHM_any g2 p2 r2 m2 k2 u
  generalize hmL g2 p2 r2 m2 k2 = HM at *
  obtain ⟨hm, hc⟩ := HM
  dsimp only at hHS hHI
  have HHS := Lib.hid hHS; clear hHS
  have HHI := Lib.hid hHI; clear hHI
  go_wp2_with fail
  obtain ⟨hq9, hb9, hz9⟩ := SlNew g2 p2 r2 m2 w8
  replace Kb := Lib.hid (SlBox_kept Kb.out hb9)
  replace LZ := Lib.hid (RdSl_kept LZ.out hb9)
  replace LQ := Lib.hid (RdI_kept LQ.out hb9)
  have B9 := Lib.hid (kept_trans B8.out hb9); clear hb9 B8
  generalize hp8 : w8.heap.size = pc at *
  generalize w8.alloc (.cells #[.int .i64 g2, .int .i64 p2, .int .i64 r2, .int .i64 m2] 31) = u9 at *
  have Kc := Lib.hid hq9; clear hq9 hp8 hz9
  refine (HHS.out _).mono ?_
  rintro e w10 ⟨rfl, hb10⟩
  replace Kb := Lib.hid (SlBox_kept Kb.out hb10)
  replace Kc := Lib.hid (SlBox_kept Kc.out hb10)
  replace LZ := Lib.hid (RdSl_kept LZ.out hb10)
  replace LQ := Lib.hid (RdI_kept LQ.out hb10)
  have B10 := Lib.hid (kept_trans B9.out hb10); clear hb10 B9
  obtain ⟨⟨a0, a1, a2, a3⟩, f⟩ := SlBox_facts Kc.out
  clear f
  go_wp2_with fail
  clear a0 a1 a2 a3
  refine (HHI.out _).mono ?_
  rintro e w11 ⟨rfl, hb11⟩
  replace Kb := Lib.hid (SlBox_kept Kb.out hb11)
  replace LZ := Lib.hid (RdSl_kept LZ.out hb11)
  replace LQ := Lib.hid (RdI_kept LQ.out hb11)
  have B11 := Lib.hid (kept_trans B10.out hb11); clear hb11 B10 Kc HHS HHI
  by_cases hg0 : gc = 0
  · obtain ⟨hgb, U, V, ec, f1, f2, f3, f4⟩ := HGU.out hg0
    have HF1 := Lib.hid (fun u => fu_at f1 u); clear f1
    have HF2 := Lib.hid (fun u => fu_at f3 u); clear f3 HGU
    subst hg0
    have kw : IntKind.i64.wrap (gw + 1) = gw + 1 := IntWalk.i64_in _ (by omega)
    have kw4 : wrap64 (gw + 1) = gw + 1 := IntWalk.wrap64_in _ (by omega)
    have f2d : decide (k < U) = false := by simp; omega
    obtain ⟨⟨a0, a1, a2, a3⟩, f⟩ := SlBox_facts Kb.out
    clear f
    go_wp2_with fail
    clear a0 a1 a2 a3
    refine (HF1.out _).mono ?_
    rintro e w12 ⟨rfl, hb12⟩
    replace Kb := Lib.hid (SlBox_kept Kb.out hb12)
    replace LZ := Lib.hid (RdSl_kept LZ.out hb12)
    replace LQ := Lib.hid (RdI_kept LQ.out hb12)
    have B12 := Lib.hid (kept_trans B11.out hb12); clear hb12 B11
    obtain ⟨⟨a0, a1, a2, a3⟩, f⟩ := SlBox_facts Kb.out
    clear f
    go_wp2_with fail
    clear a0 a1 a2 a3
    refine (HF2.out _).mono ?_
    rintro e w13 ⟨rfl, hb13⟩
    replace LZ := Lib.hid (RdSl_kept LZ.out hb13)
    replace LQ := Lib.hid (RdI_kept LQ.out hb13)
    have B13 := Lib.hid (kept_trans B12.out hb13); clear hb13 B12 Kb HF1 HF2
    rcases f4 with ⟨rfl, f5, f6⟩ | ⟨rfl, rfl⟩
    · have f6d : decide (V ≤ k) = false := by simp; omega
      by_cases hcc : cc = 0
      · obtain ⟨hall, _, _, hlen, bb, hbb, rfl, hbest⟩ := HOK.out hcc
        have HBEST := Lib.hid hbest; clear hbest hall HOK
        subst hcc
        go_wp2_with fail
        go_loopw [26] (fun i wr => ∃ j : Nat, j ≤ zs.length ∧ i = .int .i64 j ∧ RdSl wr (.slice A5 zs.length cp5) zs ∧ RdI wr (.slice A6 qs.length cp6) qs ∧ Below w.heap.size w wr) (fun i _ => zs.length - (intOf i).toNat)
        case atStart => exact ⟨0, by omega, rfl, LZ.out, LQ.out, B13.out⟩
        case round =>
          obtain ⟨j, hj, rfl, hz, hq, hbw⟩ := hrel
          by_cases hlt : j < zs.length
          · have hjq : j < qs.length := by omega
            have hz' := hz
            have hq' := hq
            obtain ⟨A', c', e', _, r1⟩ := RdSl_at hz
            cases e'
            obtain ⟨b1, o1, rfl, q1⟩ := r1 j hlt
            obtain ⟨b1', o1', e', qb⟩ := r1 bb hbb
            simp only [Option.some.injEq, Addr.mk.injEq, and_true] at e'
            obtain ⟨rfl, rfl⟩ := e'
            obtain ⟨_, A', c', e', r2⟩ := hq
            cases e'
            obtain ⟨b2, o2, rfl, hl2, hc2⟩ := r2 j hjq
            have hbst := HBEST.out j hlt hjq
            have hI := fun u => implGW_any zs[j].g zs[j].p zs[j].r zs[j].m qs[j] u
            clear r1 r2
            have HZ := Lib.hid hz'; clear hz' hz
            have HQ := Lib.hid hq'; clear hq'
            have HBW := Lib.hid hbw; clear hbw
            clear LZ LQ B13
            generalize gwAll zs[j].g zs[j].p zs[j].r zs[j].m qs[j] = GJ at *
            obtain ⟨gj, ej⟩ := GJ
            dsimp only at hI hbst
            generalize zs[j] = z at *
            generalize zs[bb] = zb at *
            generalize qs[j] = qz at *
            obtain ⟨zg, zp, zr, zm⟩ := z
            obtain ⟨_, _, _, mb⟩ := zb
            obtain ⟨l1, x0, x1, x2, x3⟩ := q1
            obtain ⟨lb, _, _, _, x4⟩ := qb
            dsimp only at x0 x1 x2 x3 x4 hbst hI
            have HI := Lib.hid hI; clear hI
            have y0 : ∀ x : BelowBy wr, x.w.cell? ⟨b1, o1 + j * 4, none⟩ = some (.int .i64 zg) := fun x => by rw [kept_cell x.h b1 _ l1]; exact x0
            have y1 : ∀ x : BelowBy wr, x.w.cell? ⟨b1, o1 + j * 4 + 1, none⟩ = some (.int .i64 zp) := fun x => by rw [kept_cell x.h b1 _ l1]; exact x1
            have y2 : ∀ x : BelowBy wr, x.w.cell? ⟨b1, o1 + j * 4 + 2, none⟩ = some (.int .i64 zr) := fun x => by rw [kept_cell x.h b1 _ l1]; exact x2
            have y3 : ∀ x : BelowBy wr, x.w.cell? ⟨b1, o1 + j * 4 + 3, none⟩ = some (.int .i64 zm) := fun x => by rw [kept_cell x.h b1 _ l1]; exact x3
            have y5 : ∀ x : BelowBy wr, x.w.cell? ⟨b2, o2 + j, none⟩ = some (.int .i64 qz) := fun x => by rw [kept_cell x.h b2 _ hl2]; exact hc2
            have X3 := Lib.hid x3; clear x3
            have X4 := Lib.hid x4; clear x4
            have hbz : (bb : Int) < (zs.length : Int) := by omega
            have hneg : decide ((bb : Int) < 0) = false := by simp
            have hneg2 : ¬ (bb : Int) < 0 := by omega
            clear x0 x1 x2 hc2
            by_cases hE : ej = 0
            · subst hE
              by_cases hL : l ≤ gj
              · have hm3 : decide (zm < mb) = false := by simpa using hbst rfl hL
                have hm4 : ¬ zm < mb := by have := hbst rfl hL; omega
                clear hbst
                go_wp2_with fail
                refine wp_region_below (by kernel_rfl) (by kernel_rfl) ?_
                repeat (go_big_quiet_step ((go_at_call 19; exact below_call (fun _ => HI.out _))))
                refine wpQuiet_nil ?_
                intro wq hw'
                obtain ⟨⟨_, hbq⟩, hwq⟩ := hw'
                subst hwq
                (try dsimp only)
                clear y0 y1 y2 y3 y5
                have v3 : wq.cell? ⟨b1, o1 + j * 4 + 3, none⟩ = some (.int .i64 zm) := by rw [kept_cell hbq b1 _ l1]; exact X3.out
                have v4 : wq.cell? ⟨b1, o1 + bb * 4 + 3, none⟩ = some (.int .i64 mb) := by rw [kept_cell hbq b1 _ lb]; exact X4.out
                go_wp2_with fail
                go_quiet (fail)
                go_wp2
                go_roundw
                case rel => exact ⟨j + 1, by omega, by go_num, RdSl_kept HZ.out (kept_drewN hbq _), RdI_kept HQ.out (kept_drewN hbq _), kept_trans HBW.out (kept_drewN hbq _)⟩
                case measure => simp [intOf]; omega
              · have hLd : decide (l ≤ gj) = false := by simpa using hL
                clear hbst
                go_wp2_with fail
                refine wp_region_below (by kernel_rfl) (by kernel_rfl) ?_
                repeat (go_big_quiet_step ((go_at_call 19; exact below_call (fun _ => HI.out _))))
                refine wpQuiet_nil ?_
                intro wq hw'
                obtain ⟨⟨_, hbq⟩, hwq⟩ := hw'
                subst hwq
                (try dsimp only)
                clear y0 y1 y2 y3 y5
                go_wp2_with fail
                go_quiet (fail)
                go_wp2
                go_roundw
                case rel => exact ⟨j + 1, by omega, by go_num, RdSl_kept HZ.out (kept_drewN hbq _), RdI_kept HQ.out (kept_drewN hbq _), kept_trans HBW.out (kept_drewN hbq _)⟩
                case measure => simp [intOf]; omega
            · have hEd : (ej == 0) = false := by simpa using hE
              clear hbst
              go_wp2_with fail
              refine wp_region_below (by kernel_rfl) (by kernel_rfl) ?_
              repeat (go_big_quiet_step ((go_at_call 19; exact below_call (fun _ => HI.out _))))
              refine wpQuiet_nil ?_
              intro wq hw'
              obtain ⟨⟨_, hbq⟩, hwq⟩ := hw'
              subst hwq
              (try dsimp only)
              clear y0 y1 y2 y3 y5
              go_wp2_with fail
              go_quiet (fail)
              go_wp2
              go_roundw
              case rel => exact ⟨j + 1, by omega, by go_num, RdSl_kept HZ.out (kept_drewN hbq _), RdI_kept HQ.out (kept_drewN hbq _), kept_trans HBW.out (kept_drewN hbq _)⟩
              case measure => simp [intOf]; omega
          · have : j = zs.length := by omega
            subst this
            go_wp2
            go_ret
            exact ⟨rfl, hbw⟩
      · have hcf : (cc == 0) = false := by simpa using hcc
        have hcg : (cc != 0) = true := by simpa using hcc
        go_wp2
        go_ret
        exact ⟨rfl, B13.out⟩
    · have f6d : True := trivial
      by_cases hcc : cc = 0
      · obtain ⟨hall, _, _, hlen, bb, hbb, rfl, hbest⟩ := HOK.out hcc
        have HBEST := Lib.hid hbest; clear hbest hall HOK
        subst hcc
        go_wp2_with fail
        go_loopw [26] (fun i wr => ∃ j : Nat, j ≤ zs.length ∧ i = .int .i64 j ∧ RdSl wr (.slice A5 zs.length cp5) zs ∧ RdI wr (.slice A6 qs.length cp6) qs ∧ Below w.heap.size w wr) (fun i _ => zs.length - (intOf i).toNat)
        case atStart => exact ⟨0, by omega, rfl, LZ.out, LQ.out, B13.out⟩
        case round =>
          obtain ⟨j, hj, rfl, hz, hq, hbw⟩ := hrel
          by_cases hlt : j < zs.length
          · have hjq : j < qs.length := by omega
            have hz' := hz
            have hq' := hq
            obtain ⟨A', c', e', _, r1⟩ := RdSl_at hz
            cases e'
            obtain ⟨b1, o1, rfl, q1⟩ := r1 j hlt
            obtain ⟨b1', o1', e', qb⟩ := r1 bb hbb
            simp only [Option.some.injEq, Addr.mk.injEq, and_true] at e'
            obtain ⟨rfl, rfl⟩ := e'
            obtain ⟨_, A', c', e', r2⟩ := hq
            cases e'
            obtain ⟨b2, o2, rfl, hl2, hc2⟩ := r2 j hjq
            have hbst := HBEST.out j hlt hjq
            have hI := fun u => implGW_any zs[j].g zs[j].p zs[j].r zs[j].m qs[j] u
            clear r1 r2
            have HZ := Lib.hid hz'; clear hz' hz
            have HQ := Lib.hid hq'; clear hq'
            have HBW := Lib.hid hbw; clear hbw
            clear LZ LQ B13
            generalize gwAll zs[j].g zs[j].p zs[j].r zs[j].m qs[j] = GJ at *
            obtain ⟨gj, ej⟩ := GJ
            dsimp only at hI hbst
            generalize zs[j] = z at *
            generalize zs[bb] = zb at *
            generalize qs[j] = qz at *
            obtain ⟨zg, zp, zr, zm⟩ := z
            obtain ⟨_, _, _, mb⟩ := zb
            obtain ⟨l1, x0, x1, x2, x3⟩ := q1
            obtain ⟨lb, _, _, _, x4⟩ := qb
            dsimp only at x0 x1 x2 x3 x4 hbst hI
            have HI := Lib.hid hI; clear hI
            have y0 : ∀ x : BelowBy wr, x.w.cell? ⟨b1, o1 + j * 4, none⟩ = some (.int .i64 zg) := fun x => by rw [kept_cell x.h b1 _ l1]; exact x0
            have y1 : ∀ x : BelowBy wr, x.w.cell? ⟨b1, o1 + j * 4 + 1, none⟩ = some (.int .i64 zp) := fun x => by rw [kept_cell x.h b1 _ l1]; exact x1
            have y2 : ∀ x : BelowBy wr, x.w.cell? ⟨b1, o1 + j * 4 + 2, none⟩ = some (.int .i64 zr) := fun x => by rw [kept_cell x.h b1 _ l1]; exact x2
            have y3 : ∀ x : BelowBy wr, x.w.cell? ⟨b1, o1 + j * 4 + 3, none⟩ = some (.int .i64 zm) := fun x => by rw [kept_cell x.h b1 _ l1]; exact x3
            have y5 : ∀ x : BelowBy wr, x.w.cell? ⟨b2, o2 + j, none⟩ = some (.int .i64 qz) := fun x => by rw [kept_cell x.h b2 _ hl2]; exact hc2
            have X3 := Lib.hid x3; clear x3
            have X4 := Lib.hid x4; clear x4
            have hbz : (bb : Int) < (zs.length : Int) := by omega
            have hneg : decide ((bb : Int) < 0) = false := by simp
            have hneg2 : ¬ (bb : Int) < 0 := by omega
            clear x0 x1 x2 hc2
            by_cases hE : ej = 0
            · subst hE
              by_cases hL : l ≤ gj
              · have hm3 : decide (zm < mb) = false := by simpa using hbst rfl hL
                have hm4 : ¬ zm < mb := by have := hbst rfl hL; omega
                clear hbst
                go_wp2_with fail
                refine wp_region_below (by kernel_rfl) (by kernel_rfl) ?_
                repeat (go_big_quiet_step ((go_at_call 19; exact below_call (fun _ => HI.out _))))
                refine wpQuiet_nil ?_
                intro wq hw'
                obtain ⟨⟨_, hbq⟩, hwq⟩ := hw'
                subst hwq
                (try dsimp only)
                clear y0 y1 y2 y3 y5
                have v3 : wq.cell? ⟨b1, o1 + j * 4 + 3, none⟩ = some (.int .i64 zm) := by rw [kept_cell hbq b1 _ l1]; exact X3.out
                have v4 : wq.cell? ⟨b1, o1 + bb * 4 + 3, none⟩ = some (.int .i64 mb) := by rw [kept_cell hbq b1 _ lb]; exact X4.out
                go_wp2_with fail
                go_quiet (fail)
                go_wp2
                go_roundw
                case rel => exact ⟨j + 1, by omega, by go_num, RdSl_kept HZ.out (kept_drewN hbq _), RdI_kept HQ.out (kept_drewN hbq _), kept_trans HBW.out (kept_drewN hbq _)⟩
                case measure => simp [intOf]; omega
              · have hLd : decide (l ≤ gj) = false := by simpa using hL
                clear hbst
                go_wp2_with fail
                refine wp_region_below (by kernel_rfl) (by kernel_rfl) ?_
                repeat (go_big_quiet_step ((go_at_call 19; exact below_call (fun _ => HI.out _))))
                refine wpQuiet_nil ?_
                intro wq hw'
                obtain ⟨⟨_, hbq⟩, hwq⟩ := hw'
                subst hwq
                (try dsimp only)
                clear y0 y1 y2 y3 y5
                go_wp2_with fail
                go_quiet (fail)
                go_wp2
                go_roundw
                case rel => exact ⟨j + 1, by omega, by go_num, RdSl_kept HZ.out (kept_drewN hbq _), RdI_kept HQ.out (kept_drewN hbq _), kept_trans HBW.out (kept_drewN hbq _)⟩
                case measure => simp [intOf]; omega
            · have hEd : (ej == 0) = false := by simpa using hE
              clear hbst
              go_wp2_with fail
              refine wp_region_below (by kernel_rfl) (by kernel_rfl) ?_
              repeat (go_big_quiet_step ((go_at_call 19; exact below_call (fun _ => HI.out _))))
              refine wpQuiet_nil ?_
              intro wq hw'
              obtain ⟨⟨_, hbq⟩, hwq⟩ := hw'
              subst hwq
              (try dsimp only)
              clear y0 y1 y2 y3 y5
              go_wp2_with fail
              go_quiet (fail)
              go_wp2
              go_roundw
              case rel => exact ⟨j + 1, by omega, by go_num, RdSl_kept HZ.out (kept_drewN hbq _), RdI_kept HQ.out (kept_drewN hbq _), kept_trans HBW.out (kept_drewN hbq _)⟩
              case measure => simp [intOf]; omega
          · have : j = zs.length := by omega
            subst this
            go_wp2
            go_ret
            exact ⟨rfl, hbw⟩
      · have hcf : (cc == 0) = false := by simpa using hcc
        have hcg : (cc != 0) = true := by simpa using hcc
        go_wp2
        go_ret
        exact ⟨rfl, B13.out⟩
  · have hgf : (gc == 0) = false := by simpa using hg0
    clear HGU
    by_cases hcc : cc = 0
    · obtain ⟨hall, _, _, hlen, bb, hbb, rfl, hbest⟩ := HOK.out hcc
      have HBEST := Lib.hid hbest; clear hbest hall HOK
      subst hcc
      go_wp2_with fail
      go_loopw [26] (fun i wr => ∃ j : Nat, j ≤ zs.length ∧ i = .int .i64 j ∧ RdSl wr (.slice A5 zs.length cp5) zs ∧ RdI wr (.slice A6 qs.length cp6) qs ∧ Below w.heap.size w wr) (fun i _ => zs.length - (intOf i).toNat)
      case atStart => exact ⟨0, by omega, rfl, LZ.out, LQ.out, B11.out⟩
      case round =>
        obtain ⟨j, hj, rfl, hz, hq, hbw⟩ := hrel
        by_cases hlt : j < zs.length
        · have hjq : j < qs.length := by omega
          have hz' := hz
          have hq' := hq
          obtain ⟨A', c', e', _, r1⟩ := RdSl_at hz
          cases e'
          obtain ⟨b1, o1, rfl, q1⟩ := r1 j hlt
          obtain ⟨b1', o1', e', qb⟩ := r1 bb hbb
          simp only [Option.some.injEq, Addr.mk.injEq, and_true] at e'
          obtain ⟨rfl, rfl⟩ := e'
          obtain ⟨_, A', c', e', r2⟩ := hq
          cases e'
          obtain ⟨b2, o2, rfl, hl2, hc2⟩ := r2 j hjq
          have hbst := HBEST.out j hlt hjq
          have hI := fun u => implGW_any zs[j].g zs[j].p zs[j].r zs[j].m qs[j] u
          clear r1 r2
          have HZ := Lib.hid hz'; clear hz' hz
          have HQ := Lib.hid hq'; clear hq'
          have HBW := Lib.hid hbw; clear hbw
          clear LZ LQ B11
          generalize gwAll zs[j].g zs[j].p zs[j].r zs[j].m qs[j] = GJ at *
          obtain ⟨gj, ej⟩ := GJ
          dsimp only at hI hbst
          generalize zs[j] = z at *
          generalize zs[bb] = zb at *
          generalize qs[j] = qz at *
          obtain ⟨zg, zp, zr, zm⟩ := z
          obtain ⟨_, _, _, mb⟩ := zb
          obtain ⟨l1, x0, x1, x2, x3⟩ := q1
          obtain ⟨lb, _, _, _, x4⟩ := qb
          dsimp only at x0 x1 x2 x3 x4 hbst hI
          have HI := Lib.hid hI; clear hI
          have y0 : ∀ x : BelowBy wr, x.w.cell? ⟨b1, o1 + j * 4, none⟩ = some (.int .i64 zg) := fun x => by rw [kept_cell x.h b1 _ l1]; exact x0
          have y1 : ∀ x : BelowBy wr, x.w.cell? ⟨b1, o1 + j * 4 + 1, none⟩ = some (.int .i64 zp) := fun x => by rw [kept_cell x.h b1 _ l1]; exact x1
          have y2 : ∀ x : BelowBy wr, x.w.cell? ⟨b1, o1 + j * 4 + 2, none⟩ = some (.int .i64 zr) := fun x => by rw [kept_cell x.h b1 _ l1]; exact x2
          have y3 : ∀ x : BelowBy wr, x.w.cell? ⟨b1, o1 + j * 4 + 3, none⟩ = some (.int .i64 zm) := fun x => by rw [kept_cell x.h b1 _ l1]; exact x3
          have y5 : ∀ x : BelowBy wr, x.w.cell? ⟨b2, o2 + j, none⟩ = some (.int .i64 qz) := fun x => by rw [kept_cell x.h b2 _ hl2]; exact hc2
          have X3 := Lib.hid x3; clear x3
          have X4 := Lib.hid x4; clear x4
          have hbz : (bb : Int) < (zs.length : Int) := by omega
          have hneg : decide ((bb : Int) < 0) = false := by simp
          have hneg2 : ¬ (bb : Int) < 0 := by omega
          clear x0 x1 x2 hc2
          by_cases hE : ej = 0
          · subst hE
            by_cases hL : l ≤ gj
            · have hm3 : decide (zm < mb) = false := by simpa using hbst rfl hL
              have hm4 : ¬ zm < mb := by have := hbst rfl hL; omega
              clear hbst
              go_wp2_with fail
              refine wp_region_below (by kernel_rfl) (by kernel_rfl) ?_
              repeat (go_big_quiet_step ((go_at_call 19; exact below_call (fun _ => HI.out _))))
              refine wpQuiet_nil ?_
              intro wq hw'
              obtain ⟨⟨_, hbq⟩, hwq⟩ := hw'
              subst hwq
              (try dsimp only)
              clear y0 y1 y2 y3 y5
              have v3 : wq.cell? ⟨b1, o1 + j * 4 + 3, none⟩ = some (.int .i64 zm) := by rw [kept_cell hbq b1 _ l1]; exact X3.out
              have v4 : wq.cell? ⟨b1, o1 + bb * 4 + 3, none⟩ = some (.int .i64 mb) := by rw [kept_cell hbq b1 _ lb]; exact X4.out
              go_wp2_with fail
              go_quiet (fail)
              go_wp2
              go_roundw
              case rel => exact ⟨j + 1, by omega, by go_num, RdSl_kept HZ.out (kept_drewN hbq _), RdI_kept HQ.out (kept_drewN hbq _), kept_trans HBW.out (kept_drewN hbq _)⟩
              case measure => simp [intOf]; omega
            · have hLd : decide (l ≤ gj) = false := by simpa using hL
              clear hbst
              go_wp2_with fail
              refine wp_region_below (by kernel_rfl) (by kernel_rfl) ?_
              repeat (go_big_quiet_step ((go_at_call 19; exact below_call (fun _ => HI.out _))))
              refine wpQuiet_nil ?_
              intro wq hw'
              obtain ⟨⟨_, hbq⟩, hwq⟩ := hw'
              subst hwq
              (try dsimp only)
              clear y0 y1 y2 y3 y5
              go_wp2_with fail
              go_quiet (fail)
              go_wp2
              go_roundw
              case rel => exact ⟨j + 1, by omega, by go_num, RdSl_kept HZ.out (kept_drewN hbq _), RdI_kept HQ.out (kept_drewN hbq _), kept_trans HBW.out (kept_drewN hbq _)⟩
              case measure => simp [intOf]; omega
          · have hEd : (ej == 0) = false := by simpa using hE
            clear hbst
            go_wp2_with fail
            refine wp_region_below (by kernel_rfl) (by kernel_rfl) ?_
            repeat (go_big_quiet_step ((go_at_call 19; exact below_call (fun _ => HI.out _))))
            refine wpQuiet_nil ?_
            intro wq hw'
            obtain ⟨⟨_, hbq⟩, hwq⟩ := hw'
            subst hwq
            (try dsimp only)
            clear y0 y1 y2 y3 y5
            go_wp2_with fail
            go_quiet (fail)
            go_wp2
            go_roundw
            case rel => exact ⟨j + 1, by omega, by go_num, RdSl_kept HZ.out (kept_drewN hbq _), RdI_kept HQ.out (kept_drewN hbq _), kept_trans HBW.out (kept_drewN hbq _)⟩
            case measure => simp [intOf]; omega
        · have : j = zs.length := by omega
          subst this
          go_wp2
          go_ret
          exact ⟨rfl, hbw⟩
    · have hcf : (cc == 0) = false := by simpa using hcc
      have hcg : (cc != 0) = true := by simpa using hcc
      go_wp2
      go_ret
      exact ⟨rfl, B11.out⟩

end Go.Proofs.Ytedmpjgpgbmolaa
namespace Go.Proofs.Ytedmpjgpgbmolaa.fnChosenSlings
open Go.ChangeShapes Go.WideShapes Go.ChangeAt Go.RowKit
set_option linter.unusedVariables false
set_option linter.unusedSimpArgs false
open Go.Joins Go.ChangeMaps
set_option maxRecDepth 100000 in
theorem lifted (os : Os) (started : os.Started) (H : Type) (enc : TypeId × Value → H) :
    ReturnsInHanded {} Try.checked os 3 .any (Rows.fnChosenSlingsSpec.pre6 enc Try.prog Try.f3 Rows.fnChosenSlingsRow.domain false) (Rows.fnChosenSlingsSpec.post enc Try.prog Try.f3 false true false false) := by
  refine returnsInHanded_of_change (C := Try.checked) (show ownKnob Try.prog.godebug = none by kernel_rfl) started (by kernel_rfl) Try.func3
    (ChangeSpec.witness6 (enc := enc) (C := Try.checked) false ⟨#[], #[.slice none 0 0], []⟩ 8 (by kernel_rfl) (by kernel_rfl) (by kernel_rfl) (by kernel_rfl)) ?_
  intro W base args ds gs before hval0 hW hcnd _
  have hval : ∀ (j : Nat) t v, Try.f3.params[j]? = some t → args[j]? = some v → Value.okWide Try.prog W .any base t v := hval0
  have hW' := hW
  obtain ⟨p, q, hA0, hV, rfl, hfz, hnd⟩ := hW
  have hA : DataW.TrodAll enc Try.prog W 0 (fun _ => true) true Try.f3.params.toList args.toList ds p := hA0
  rw [Try.params3] at hA hval
  obtain ⟨v0, vs0, d0, ds0, p0, q0, hargs, rfl, rfl, h0, r0⟩ := trodAll_cons hA
  obtain ⟨rfl, rfl, rfl⟩ := trodAll_nil r0
  obtain rfl : args = #[v0] := by cases args; simp_all
  obtain ⟨rfl, rfl⟩ := trodVars_none hV
  obtain ⟨A0, n0, c0, rfl, hr0, hn0⟩ := open_bytes Try.underlying22 Try.underlying5 (show Try.prog.cellsOf 5 = 1 by kernel_rfl) (hval 0 22 v0 rfl rfl) h0
  clear hA0 hval0
  refine (walk_FnChosenSlings (w := W) A0 n0 c0 hr0 hn0 ).mono fun e W' ⟨he, hb⟩ => ?_
  subst he
  exact ⟨_, rfl, law_post (B := 4) (by kernel_rfl) (by kernel_rfl) rfl Try.underlying4 rfl hW' rfl hb⟩

/-- The statement: for every input the law returns true, and the arguments read afterwards as before. -/
theorem proved : Rows.FnChosenSlingsSaid :=
  OpenClaim.holds_of_wide 3 Try.f3 rfl rfl rfl rfl rfl rfl rfl ⟨rfl, rfl, rfl, rfl, rfl⟩ rfl rfl rfl rfl rfl (by kernel_rfl) Try.func3 (by kernel_rfl)
    (of_decide_eq_true (by kernel_rfl)) (by unfold Func.isWrapper; first | (rw [if_pos (by decide +kernel)]; kernel_rfl) | (rw [if_neg (by decide +kernel)]; exact ⟨rfl, rfl⟩))
    (fun os started H enc _ => lifted os started H enc)
end Go.Proofs.Ytedmpjgpgbmolaa.fnChosenSlings
