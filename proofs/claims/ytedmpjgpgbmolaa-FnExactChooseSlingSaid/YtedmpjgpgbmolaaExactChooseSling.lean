/- Proved: for every input the law FnExactChooseSling returns true, and each argument reads afterwards as it read before; no condition beside those of the given row. -/
import Derived.Test.YtedmpjgpgbmolaaRows
import Derived.WalkKit
import Derived.ProofKit
import Derived.OpenShut
import Derived.Lib.Hide
import Derived.Handy
import Derived.BigQuiet
import Derived.Carry
import Derived.Deep.QuietTactic
import Derived.Deep.RegionHeld3
import Derived.Deep.SlicePairs
import Derived.Laws.ResultCell
import Derived.Lib.SmallJoins
import Derived.OwnWalk
import Derived.Shelf.Abstract
import Derived.SizedLaws
import Derived.Lib.SmallJoins
import Derived.ChangeMaps5
import Derived.SizedLaws
namespace Go.Proofs.Ytedmpjgpgbmolaa
open Go.ChangeShapes Go.WideShapes Go.ChangeAt Go.RowKit
set_option linter.unusedVariables false
set_option linter.unusedSimpArgs false

theorem tmod_pos (n k : Int) (h : 0 ≤ n) : n.tmod k = n % k := Int.tmod_eq_emod_of_nonneg h

theorem trodAll_stay {H : Type} {enc : TypeId × Value → H} {P : Program} (hl : laidOutB P = true) {W W' : World} (hb : Below W.heap.size W W') :
    ∀ (ts : List TypeId) (vs : List Value) (ds : List (DataW H)) (ps : List MemPlace), ts.all (fun t => P.readableRec t && decide (t < P.types.size)) = true →
      DataW.TrodAll enc P W 0 (fun _ => true) true ts vs ds ps → (∀ x ∈ ps, x.block < W.heap.size) →
      DataW.TrodAll enc P W' 0 (fun b => decide (b < W.heap.size)) true ts vs ds ps := by
  intro ts
  induction ts with
  | nil => intro vs ds ps _ h _; obtain ⟨rfl, rfl, rfl⟩ := trodAll_nil h; exact rfl
  | cons t ts ih =>
    intro vs ds ps hr h hlt
    simp only [List.all_cons, Bool.and_eq_true, decide_eq_true_eq] at hr
    obtain ⟨v, vs', d, ds', p, q, rfl, rfl, rfl, h0, h1⟩ := trodAll_cons h
    exact ⟨p, q, Below.trod hl hr.1.1 hr.1.2 h0 hb (fun x hx => hlt x (by simp [hx])), ih _ _ _ hr.2 h1 (fun x hx => hlt x (by simp [hx])), rfl⟩

/-- A law's row at its end: it returned true, and of what was there nothing has turned. -/
theorem law_post {H : Type} {enc : TypeId × Value → H} {P : Program} {f : Func} {s : ChangeSpec} {W W' : World} {args : Array Value} {ds gs : List (DataW H)} {before : List MemPlace} {B : TypeId}
    (hl : laidOutB P = true) (hr : f.params.toList.all (fun t => P.readableRec t && decide (t < P.types.size)) = true)
    (hres : f.resultTypes = #[B]) (hB : P.underlying B = some .bool) (hv : s.vars = [])
    (hW : DataW.Whole enc P f.params.toList s.vars false W args.toList ds gs before)
    (hfn : s.fn H (ds ++ gs) = { results := [.lit (.bool true)], args := ds }) (hb : Below W.heap.size W W') :
    s.post enc P f false true false false W args (.bool true) W' := by
  have hlt : ∀ p ∈ before, p.block < W.heap.size := fun p hp => hW.lt p hp
  have hW' := hW
  obtain ⟨p, q, hA, hV, rfl, _, _⟩ := hW'
  rw [hv] at hV
  obtain ⟨rfl, rfl⟩ := trodVars_none hV
  refine ⟨ds, [], p ++ [], [], p, [], hW, ?_, ?_, ?_, hb.frame _, fun h => by cases h⟩
  · rw [hfn, hres]
    exact trodAll_cons_mk (shut_bool hB _) trodAll_mk0
  · rw [hfn]
    exact trodAll_stay hl hb _ _ _ _ hr hA (fun x hx => hlt x (by simp [hx]))
  · rw [hfn, hv]
    exact rfl

theorem kept_cell {W w1 : World} (hb : Below W.heap.size W w1) (b o : Nat) (h : b < W.heap.size) : w1.cell? ⟨b, o, none⟩ = W.cell? ⟨b, o, none⟩ := hb.cell (p := ⟨b, o, none⟩) h

theorem kept_frozen {W w1 : World} (hb : Below W.heap.size W w1) (b o : Nat) (h : b < W.heap.size) : w1.frozen? ⟨b, o, none⟩ = W.frozen? ⟨b, o, none⟩ := hb.frozen (p := ⟨b, o, none⟩) h

theorem kept_trans {a b c : World} (h : Below a.heap.size a b) (k : Below b.heap.size b c) : Below a.heap.size a c := h.trans (k.mono h.size)

theorem kept_at {W w1 : World} (hb : Below W.heap.size W w1) (b : Nat) {G : Prop} (h : b < W.heap.size)
    (k : (∀ o, w1.cell? ⟨b, o, none⟩ = W.cell? ⟨b, o, none⟩) → (∀ o, w1.frozen? ⟨b, o, none⟩ = W.frozen? ⟨b, o, none⟩) → b < w1.heap.size → G) : G :=
  k (fun o => kept_cell hb b o h) (fun o => kept_frozen hb b o h) (Nat.lt_of_lt_of_le h hb.size)

theorem kept_drewN {B : Nat} {a w : World} (h : Below B a w) (n : Nat) : Below B a (w.drewN n) := { os := h.os, tape := h.tape, output := h.output, size := h.size, block := h.block }

theorem grown_step {a b c : World} {row : Option Nat} (h : a.grownBy b row) (k : b.grownBy c row) : a.grownBy c row :=
  ⟨k.os.trans h.os, k.tape.trans h.tape, k.output.trans h.output, Nat.le_trans h.size k.size, fun i hi hne => (k.block i (Nat.lt_of_lt_of_le hi h.size) hne).trans (h.block i hi hne)⟩

theorem grown_below {a b c : World} {row : Option Nat} (h : Below a.heap.size a b) (k : b.grownBy c row) (hr : ∀ g, row = some g → a.heap.size ≤ g) : Below a.heap.size a c := h.grown k h.size hr

theorem results_cell1 {fn : Func} {p : Tmp} {ty : TypeId} (h : fn.results = #[.cell p ty]) (tmps : Array Value) (P : Program) (w : World) :
    (results fn tmps).run P w = ((asAddr (tmps.getD p undef)).run P w).andThen fun a w₁ => (loadVar ty a).run P w₁ := by
  simp only [results, h]
  simp [Sem.run_bind, Result.andThen]

def inB (n low high : Int) : Bool := decide (low ≤ n) && decide (n ≤ high)

theorem in_any (n low high : Int) (w : World) :
    Calls Try.prog 48 #[.int .i64 n, .int .i64 low, .int .i64 high] w fun e w' => e = .returned (.bool (inB n low high)) ∧ w = w' := by
  unfold inB
  by_cases h1 : low ≤ n <;> by_cases h2 : n ≤ high <;>
  · go_enter Try.func48, Try.ntmps48
    go_wp2
    go_ret
    exact ⟨by simp [*], rfl⟩

theorem inB_true {n a b : Int} (h : inB n a b = true) : a ≤ n ∧ n ≤ b := by simpa [inB] using h

theorem sq_bd (a k : Int) (h1 : -k ≤ a) (h2 : a ≤ k) : 0 ≤ a * a ∧ a * a ≤ k * k := by
  refine ⟨by rcases Int.le_total 0 a with h | h; exact Int.mul_nonneg h h; exact Int.mul_nonneg_of_nonpos_of_nonpos h h, ?_⟩
  rcases Int.le_total 0 a with h | h
  · exact Int.mul_le_mul h2 h2 h (by omega)
  · have := Int.mul_le_mul (show -a ≤ k by omega) (show -a ≤ k by omega) (by omega) (by omega)
    rwa [Int.neg_mul_neg] at this

def IsRoot (n r : Int) : Prop := 0 ≤ r ∧ n ≤ r * r ∧ ∀ q, 0 ≤ q → q < r → q * q < n

open Classical in
noncomputable def rootL (n : Int) : Int := if h : ∃ r, IsRoot n r then Classical.choose h else 0

theorem rootL_eq {n r : Int} (h : IsRoot n r) : rootL n = r := by
  have hex : ∃ r, IsRoot n r := ⟨r, h⟩
  unfold rootL
  rw [dif_pos hex]
  obtain ⟨a1, a2, a3⟩ := Classical.choose_spec hex
  obtain ⟨b1, b2, b3⟩ := h
  rcases Int.lt_trichotomy (Classical.choose hex) r with h | h | h
  · have := b3 _ a1 h; omega
  · exact h
  · have := a3 _ b1 h; omega

theorem sq_lt {q m n : Int} (h0 : 0 ≤ q) (h1 : q ≤ m) (h2 : m * m < n) : q * q < n := by
  have := Int.mul_le_mul h1 h1 h0 (by omega)
  omega

theorem l02Root_any (n : Int) (w : World) (h0 : 0 ≤ n) (h1 : n ≤ 1000000000000) :
    Calls Try.prog 83 #[.int .i64 n] w fun e w' => e = .returned (.int .i64 (rootL n)) ∧ w = w' := by
  go_enter Try.func83, Try.ntmps83
  go_wp2_with fail
  go_loop [3, 4] (fun i j => ∃ lo hi : Int, 0 ≤ lo ∧ lo ≤ hi ∧ hi ≤ 2000000 ∧ i = .int .i64 lo ∧ j = .int .i64 hi ∧ (∀ q, 0 ≤ q → q < lo → q * q < n) ∧ n ≤ hi * hi) (fun i j => (intOf j - intOf i).toNat)
  case atStart => exact ⟨0, 2000000, by omega, by omega, by omega, rfl, rfl, fun q h1 h2 => by omega, by omega⟩
  case round =>
    obtain ⟨lo, hi, h2, h3, h4, rfl, rfl, h5, h6⟩ := hrel
    have H5 := Lib.hid h5; clear h5
    by_cases hlt : lo < hi
    · have g1 : lo ≤ (lo + hi) / 2 := by omega
      have g2 : (lo + hi) / 2 < hi := by omega
      have hs := sq_bd ((lo + hi) / 2) 2000000 (by omega) (by omega)
      by_cases hp : n ≤ (lo + hi) / 2 * ((lo + hi) / 2)
      all_goals
        go_wp2
        go_round
        case rel => first
          | exact ⟨(lo + hi) / 2 + 1, hi, by omega, by omega, h4, rfl, rfl, fun q a c => sq_lt a (by omega) (Int.not_le.mp hp), h6⟩
          | exact ⟨lo, (lo + hi) / 2, h2, g1, by omega, rfl, rfl, H5.out, hp⟩
        case measure => simp [intOf]; omega
    · have : lo = hi := by omega
      subst this
      have e := rootL_eq (n := n) ⟨h2, h6, H5.out⟩
      go_wp2
      go_ret
      exact ⟨by simp [e], rfl⟩

theorem info_int64 : (Try.prog.info? 2).map (fun i => (i.zero, i.size, i.bytes)) = some (some (.int .i64 0), 1, 8) := by kernel_rfl

theorem own_kept {W w1 : World} {base : Nat} {e : TypeId} {size : Nat} {v : Value} {n : Nat} {xs : List Value} (h : W.ownsRow base e size v n xs) (hb : Below W.heap.size W w1) : w1.ownsRow base e size v n xs := by
  refine ⟨h.1, ?_⟩
  rcases h.2 with h2 | ⟨g, cap, cur, hv, hg, hh, r⟩
  · exact Or.inl h2
  · refine Or.inr ⟨g, cap, cur, hv, hg, ?_, r⟩
    rw [hb.block g (h.lt g (by rw [hv]; rfl)).2]
    exact hh

/-- The slice value reads as a list of numbers. -/
def RdI (w : World) (v : Value) (zs : List Int) : Prop :=
  zs.length ≤ 9223372036854775807 ∧ ∃ A c, v = .slice A zs.length c ∧ ∀ k, (hk : k < zs.length) → ∃ b off, A = some ⟨b, off, none⟩ ∧ b < w.heap.size ∧ w.cell? ⟨b, off + k, none⟩ = some (.int .i64 zs[k])

theorem RdI_kept {W w1 : World} {v : Value} {zs : List Int} (h : RdI W v zs) (hb : Below W.heap.size W w1) : RdI w1 v zs := by
  obtain ⟨hl, A, c, rfl, hr⟩ := h
  refine ⟨hl, A, c, rfl, fun k hk => ?_⟩
  obtain ⟨b, off, e, hlt, hc⟩ := hr k hk
  exact ⟨b, off, e, Nat.lt_of_lt_of_le hlt hb.size, by rw [kept_cell hb b _ hlt]; exact hc⟩

/-- A row of numbers of the call's own, in a block from lo on and below hi. -/
def RowI (w : World) (lo hi : Nat) (v : Value) (zs : List Int) : Prop :=
  w.ownsRow lo 2 1 v zs.length (zs.map (Value.int .i64)) ∧ ∀ g, v.ownBlock = some g → lo ≤ g ∧ g < hi

theorem RowI_form {w : World} {lo hi : Nat} {v : Value} {zs : List Int} (h : RowI w lo hi v zs) :
    (zs = [] ∧ v = .slice none 0 0) ∨ ∃ g cap, v = .slice (some ⟨g, 0, none⟩) zs.length cap ∧ lo ≤ g ∧ g < hi ∧ g < w.heap.size ∧ zs.length ≤ cap ∧ cap ≤ maxLen := by
  rcases h.1.2 with ⟨h1, h2⟩ | ⟨g, cap, cur, rfl, hg, hh, h3, h4, _⟩
  · exact Or.inl ⟨List.eq_nil_of_length_eq_zero h2, h1⟩
  · exact Or.inr ⟨g, cap, rfl, hg, (h.2 g rfl).2, (h.1.lt g rfl).2, h3, h4⟩

theorem RowI_rd {w : World} {lo hi : Nat} {v : Value} {zs : List Int} (h : RowI w lo hi v zs) : RdI w v zs := by
  rcases RowI_form h with ⟨rfl, rfl⟩ | ⟨g, cap, rfl, _, _, hlt, h3, h4⟩
  · exact ⟨by simp, none, 0, rfl, fun k hk => by simp at hk⟩
  · unfold maxLen at h4
    refine ⟨by omega, some ⟨g, 0, none⟩, cap, rfl, fun k hk => ⟨g, 0, rfl, hlt, ?_⟩⟩
    rw [Nat.zero_add, h.1.cellAt k (by simpa using hk)]
    simp [hk]

theorem RowI_kept {W w1 : World} {lo hi : Nat} {v : Value} {zs : List Int} (h : RowI W lo hi v zs) (hb : Below W.heap.size W w1) : RowI w1 lo hi v zs := ⟨own_kept h.1 hb, h.2⟩

theorem eqInts_same (v1 v2 : Value) (zs : List Int) (w : World) (h1 : RdI w v1 zs) (h2 : RdI w v2 zs) :
    Calls Try.prog 74 #[v1, v2] w fun e w' => e = .returned (.bool true) ∧ Below w.heap.size w w' := by
  obtain ⟨hl, A, c, rfl, r1⟩ := h1
  obtain ⟨_, A2, c2, rfl, r2⟩ := h2
  have R1 := Lib.hid r1; clear r1
  have R2 := Lib.hid r2; clear r2
  go_enter Try.func74, Try.ntmps74
  go_wp2_with fail
  go_loopw [5] (fun i wr => ∃ k : Nat, k ≤ zs.length ∧ i = .int .i64 k ∧ Below w.heap.size w wr) (fun i _ => zs.length - (intOf i).toNat)
  case atStart => exact ⟨0, by omega, rfl, Below.refl _ _⟩
  case round =>
    obtain ⟨k, hk, rfl, hb⟩ := hrel
    by_cases hlt : k < zs.length
    · obtain ⟨b, off, rfl, hbl, hc⟩ := R1.out k hlt
      obtain ⟨b2, off2, rfl, hbl2, hc2⟩ := R2.out k hlt
      rw [← kept_cell hb b _ hbl] at hc
      rw [← kept_cell hb b2 _ hbl2] at hc2
      go_wp2_with fail
      go_quiet (fail)
      go_wp2
      go_roundw
      case rel => exact ⟨k + 1, by omega, by go_num, kept_drewN hb _⟩
      case measure => simp [intOf]; omega
    · have : k = zs.length := by omega
      subst this
      go_wp2
      go_ret
      exact ⟨rfl, hb⟩

theorem flat_len {α : Type} {enc : α → List Value} {sz : Nat} (h : ∀ z, (enc z).length = sz) (zs : List α) : (zs.flatMap enc).length = zs.length * sz := by
  induction zs with
  | nil => simp
  | cons z zs ih => rw [List.flatMap_cons, List.length_append, ih, h, List.length_cons, Nat.add_mul]; omega

theorem flat_at {α : Type} {enc : α → List Value} {sz : Nat} (h : ∀ z, (enc z).length = sz) (zs : List α) (k j : Nat) (hk : k < zs.length) (hj : j < sz) : (zs.flatMap enc)[k * sz + j]? = (enc zs[k])[j]? := by
  induction zs generalizing k with
  | nil => simp at hk
  | cons z zs ih =>
    cases k with
    | zero => rw [List.flatMap_cons, List.getElem?_append_left (by rw [h]; omega)]; simp
    | succ k =>
      have e : (k + 1) * sz + j - (enc z).length = k * sz + j := by rw [h, Nat.add_mul]; omega
      rw [List.flatMap_cons, List.getElem?_append_right (by rw [h, Nat.add_mul]; omega), e, ih k (by simpa using hk)]
      simp

/-- The slice value reads as n elements of sz cells each, cell for cell. -/
def RdF (w : World) (v : Value) (n sz : Nat) (xs : List Value) : Prop :=
  n ≤ 9223372036854775807 ∧ xs.length = n * sz ∧ ∃ A c, v = .slice A n c ∧ ∀ i, i < n * sz → ∃ b off, A = some ⟨b, off, none⟩ ∧ b < w.heap.size ∧ w.cell? ⟨b, off + i, none⟩ = xs[i]?

theorem RdF_kept {W w1 : World} {v : Value} {n sz : Nat} {xs : List Value} (h : RdF W v n sz xs) (hb : Below W.heap.size W w1) : RdF w1 v n sz xs := by
  obtain ⟨hl, hx, A, c, rfl, hr⟩ := h
  refine ⟨hl, hx, A, c, rfl, fun k hk => ?_⟩
  obtain ⟨b, off, e, hlt, hc⟩ := hr k hk
  exact ⟨b, off, e, Nat.lt_of_lt_of_le hlt hb.size, by rw [kept_cell hb b _ hlt]; exact hc⟩

/-- A row of elements of the call's own (type e, sz cells each), in a block from lo on and below hi. -/
def RowF (e sz : Nat) (w : World) (lo hi : Nat) (v : Value) (n : Nat) (xs : List Value) : Prop :=
  w.ownsRow lo e sz v n xs ∧ ∀ g, v.ownBlock = some g → lo ≤ g ∧ g < hi

theorem RowF_nil (e sz : Nat) (w : World) (lo hi : Nat) : RowF e sz w lo hi (.slice none 0 0) 0 [] := ⟨World.ownsRow_nil _ _ _ _, fun g h => by simp [Value.ownBlock] at h⟩

theorem RowF_form {e sz : Nat} {w : World} {lo hi : Nat} {v : Value} {n : Nat} {xs : List Value} (h : RowF e sz w lo hi v n xs) :
    (n = 0 ∧ xs = [] ∧ v = .slice none 0 0) ∨ ∃ g cap, v = .slice (some ⟨g, 0, none⟩) n cap ∧ lo ≤ g ∧ g < hi ∧ g < w.heap.size ∧ n ≤ cap ∧ cap ≤ maxLen := by
  rcases h.1.2 with ⟨h1, h2⟩ | ⟨g, cap, cur, rfl, hg, hh, h3, h4, _⟩
  · exact Or.inl ⟨h2, List.eq_nil_of_length_eq_zero (by rw [h.1.1, h2, Nat.zero_mul]), h1⟩
  · exact Or.inr ⟨g, cap, rfl, hg, (h.2 g rfl).2, (h.1.lt g rfl).2, h3, h4⟩

theorem RowF_rd {e sz : Nat} {w : World} {lo hi : Nat} {v : Value} {n : Nat} {xs : List Value} (h : RowF e sz w lo hi v n xs) : RdF w v n sz xs := by
  rcases RowF_form h with ⟨rfl, rfl, rfl⟩ | ⟨g, cap, rfl, _, _, hlt, h3, h4⟩
  · exact ⟨by simp, by simp, none, 0, rfl, fun k hk => by simp at hk⟩
  · unfold maxLen at h4
    refine ⟨by omega, h.1.1, some ⟨g, 0, none⟩, cap, rfl, fun k hk => ⟨g, 0, rfl, hlt, ?_⟩⟩
    rw [Nat.zero_add, h.1.cellAt k hk]

theorem RowF_kept {e sz : Nat} {W w1 : World} {lo hi : Nat} {v : Value} {n : Nat} {xs : List Value} (h : RowF e sz W lo hi v n xs) (hb : Below W.heap.size W w1) : RowF e sz w1 lo hi v n xs := ⟨own_kept h.1 hb, h.2⟩

/-- The first elements of a row. -/
theorem RowF_short {e sz : Nat} {w : World} {lo hi g cap m n : Nat} {xs : List Value} (h : RowF e sz w lo hi (.slice (some ⟨g, 0, none⟩) m cap) m xs) (hn : n ≤ m) :
    RowF e sz w lo hi (.slice (some ⟨g, 0, none⟩) n cap) n (xs.take (n * sz)) := by
  refine ⟨⟨?_, ?_⟩, fun g' hg' => h.2 g' hg'⟩
  · rw [List.length_take, h.1.1]
    have := Nat.mul_le_mul_right sz hn
    omega
  · rcases h.1.2 with ⟨h1, h2⟩ | ⟨g', cap', cur, h1, hg, hh, h3, h4, h5, h6⟩
    · simp at h1
    · simp only [Value.slice.injEq, Option.some.injEq, Addr.mk.injEq, and_true, true_and] at h1
      obtain ⟨rfl, rfl⟩ := h1
      refine Or.inr ⟨g, cap, cur, rfl, hg, hh, by omega, h4, h5, ?_⟩
      rw [← h6, List.take_take]
      congr 1
      have := Nat.mul_le_mul_right sz hn
      omega

def roomL (n : Nat) : Nat := if n % 6 = 5 then 0 else if n % 3 = 0 then 1 else n

theorem roomL_le (n : Nat) : roomL n ≤ n + 1 := by
  unfold roomL
  split
  · omega
  · split <;> omega

theorem room_any (n : Nat) (hn : n ≤ 9223372036854775807) (w : World) :
    Calls Try.prog 71 #[.int .i64 n] w fun e w' => e = .returned (.int .i64 (roomL n : Nat)) ∧ w = w' := by
  unfold roomL
  have e6 : (n : Int).tmod 6 = ((n % 6 : Nat) : Int) := by rw [tmod_pos _ _ (by omega)]; omega
  have e3 : (n : Int).tmod 3 = ((n % 3 : Nat) : Int) := by rw [tmod_pos _ _ (by omega)]; omega
  by_cases h6 : n % 6 = 5
  · rw [h6] at e6
    go_enter Try.func71, Try.ntmps71
    go_wp2
    go_ret
    exact ⟨by simp [h6], rfl⟩
  · have d6 : ((n : Int).tmod 6 == 5) = false := by rw [e6]; simp; omega
    by_cases h3 : n % 3 = 0
    · rw [h3] at e3
      go_enter Try.func71, Try.ntmps71
      go_wp2
      go_ret
      exact ⟨by simp [h6, h3], rfl⟩
    · have d3 : ((n : Int).tmod 3 == 0) = false := by rw [e3]; simp; omega
      go_enter Try.func71, Try.ntmps71
      go_wp2
      go_ret
      exact ⟨by simp [h6, h3], rfl⟩

theorem fill_step {α : Type} (T : List α) (z : α) (j : Nat) (h : j < T.length) : (T.take j ++ List.replicate (T.length - j) z).set j T[j] = T.take (j + 1) ++ List.replicate (T.length - (j + 1)) z := by
  obtain ⟨m, hm⟩ : ∃ m, T.length - j = m + 1 := ⟨T.length - j - 1, by omega⟩
  rw [hm, show T.length - (j + 1) = m by omega, List.replicate_succ, List.set_append, if_neg (by simp; omega), List.length_take, Nat.min_eq_left (by omega), Nat.sub_self, List.set_cons_zero, ← List.take_append_getElem h, List.append_assoc]
  rfl

/-- A quotient, rounded up. -/
def upL (n d : Int) : Int := (n + d - 1) / d

theorem mul_bd (a b p q : Int) (h1 : 0 ≤ a ∧ a ≤ p) (h2 : 0 ≤ b ∧ b ≤ q) : 0 ≤ a * b ∧ a * b ≤ p * q :=
  ⟨Int.mul_nonneg h1.1 h2.1, Int.mul_le_mul h1.2 h2.2 h2.1 (by omega)⟩

theorem specUp_any (n d : Int) (h1 : 0 ≤ n ∧ n ≤ 1000000000) (h2 : 1 ≤ d ∧ d ≤ 1000000) (w : World) :
    Calls Try.prog 82 #[.int .i64 n, .int .i64 d] w fun e w' => e = .returned (.int .i64 (upL n d)) ∧ w = w' := by
  have e : (n + d - 1).tdiv d = upL n d := by rw [upL, Int.tdiv_eq_ediv_of_nonneg (by omega)]
  have hd : (d == 0) = false := by simp; omega
  have hd2 : ¬ d = 0 := by omega
  have hd3 : ¬ d = -1 := by omega
  have hb : 0 ≤ upL n d ∧ upL n d ≤ 2000000000 := by
    rw [upL]
    refine ⟨Int.ediv_nonneg (by omega) (by omega), ?_⟩
    have := Int.ediv_le_self (a := n + d - 1) d (by omega)
    omega
  generalize upL n d = q at *
  go_enter Try.func82, Try.ntmps82
  go_wp2
  go_ret
  exact ⟨by first | rfl | rw [e], rfl⟩

theorem implUp_any (n d : Int) (h1 : 0 ≤ n ∧ n ≤ 1000000000) (h2 : 1 ≤ d ∧ d ≤ 1000000) (w : World) :
    Calls Try.prog 67 #[.int .i64 n, .int .i64 d] w fun e w' => e = .returned (.int .i64 (upL n d)) ∧ w = w' := by
  have e : (n + d - 1).tdiv d = upL n d := by rw [upL, Int.tdiv_eq_ediv_of_nonneg (by omega)]
  have hd : (d == 0) = false := by simp; omega
  have hd2 : ¬ d = 0 := by omega
  have hd3 : ¬ d = -1 := by omega
  have hb : 0 ≤ upL n d ∧ upL n d ≤ 2000000000 := by
    rw [upL]
    refine ⟨Int.ediv_nonneg (by omega) (by omega), ?_⟩
    have := Int.ediv_le_self (a := n + d - 1) d (by omega)
    omega
  generalize upL n d = q at *
  go_enter Try.func67, Try.ntmps67
  go_wp2
  go_ret
  exact ⟨by first | rfl | rw [e], rfl⟩

theorem max_any (a b : Int) (w : World) :
    Calls Try.prog 93 #[.int .i64 a, .int .i64 b] w fun e w' => e = .returned (.int .i64 (max a b)) ∧ w = w' := by
  by_cases h : b < a
  · rw [show max a b = a by omega]
    go_enter Try.func93, Try.ntmps93
    go_wp2
    go_ret
    exact ⟨rfl, rfl⟩
  · rw [show max a b = b by omega]
    go_enter Try.func93, Try.ntmps93
    go_wp2
    go_ret
    exact ⟨rfl, rfl⟩

theorem isNaN_any (x : Int) (w : World) : Calls Try.prog 81 #[.int .i64 x] w fun e w' => e = .returned (.bool false) ∧ w = w' := by
  go_enter Try.func81, Try.ntmps81
  go_wp2
  go_ret
  exact ⟨by simp, rfl⟩

/-- cmp.Compare at whole numbers. -/
theorem compare_any (x y : Int) (w : World) :
    Calls Try.prog 58 #[.int .i64 x, .int .i64 y] w fun e w' => e = .returned (.int .i64 (if x < y then -1 else if y < x then 1 else 0)) ∧ w = w' := by
  by_cases h1 : x < y
  · rw [if_pos h1]
    go_enter Try.func58, Try.ntmps58
    go_wp2_with fail
    refine (isNaN_any x w).mono ?_
    rintro e w' ⟨rfl, rfl⟩
    go_wp2_with fail
    refine (isNaN_any y w).mono ?_
    rintro e w' ⟨rfl, rfl⟩
    go_wp2
    go_ret
    exact ⟨rfl, rfl⟩
  · by_cases h2 : y < x
    · rw [if_neg h1, if_pos h2]
      go_enter Try.func58, Try.ntmps58
      go_wp2_with fail
      refine (isNaN_any x w).mono ?_
      rintro e w' ⟨rfl, rfl⟩
      go_wp2_with fail
      refine (isNaN_any y w).mono ?_
      rintro e w' ⟨rfl, rfl⟩
      go_wp2
      go_ret
      exact ⟨rfl, rfl⟩
    · rw [if_neg h1, if_neg h2]
      go_enter Try.func58, Try.ntmps58
      go_wp2_with fail
      refine (isNaN_any x w).mono ?_
      rintro e w' ⟨rfl, rfl⟩
      go_wp2_with fail
      refine (isNaN_any y w).mono ?_
      rintro e w' ⟨rfl, rfl⟩
      go_wp2
      go_ret
      exact ⟨rfl, rfl⟩

/-- A datum that is a list of n elements. -/
def DataLen {H : Type} (d : DataW H) (n : Nat) : Prop := (d = .nil ∧ n = 0) ∨ ∃ es rs, d = .slice es rs ∧ es.length = n

theorem min_any (x y : Int) (w : World) :
    Calls Try.prog 92 #[.int .i64 x, .int .i64 y] w fun e w' => e = .returned (.int .i64 (min x y)) ∧ w = w' := by
  by_cases h : x < y
  · rw [show min x y = x by omega]
    go_enter Try.func92, Try.ntmps92
    go_wp2
    go_ret
    exact ⟨rfl, rfl⟩
  · rw [show min x y = y by omega]
    go_enter Try.func92, Try.ntmps92
    go_wp2
    go_ret
    exact ⟨rfl, rfl⟩

/-- The first place at which p holds; -1 if there is none. -/
def idxL {α : Type} (p : α → Bool) (zs : List α) : Int := if zs.findIdx p < zs.length then (zs.findIdx p : Int) else -1

theorem idxL_is {α : Type} {p : α → Bool} {zs : List α} {k : Nat} (h : k < zs.length) (hk : p zs[k] = true) (hb : ∀ j (hj : j < zs.length), j < k → p zs[j] = false) : idxL p zs = (k : Int) := by
  unfold idxL
  have e : zs.findIdx p = k := by
    rw [List.findIdx_eq h]
    exact ⟨hk, fun j hj => hb j (by omega) hj⟩
  rw [e, if_pos h]

theorem idxL_none {α : Type} {p : α → Bool} {zs : List α} (hb : ∀ j (hj : j < zs.length), p zs[j] = false) : idxL p zs = -1 := by
  unfold idxL
  have e : zs.findIdx p = zs.length := by
    rw [List.findIdx_eq_length]
    intro x hx
    obtain ⟨i, hi, rfl⟩ := List.mem_iff_getElem.1 hx
    exact hb i hi
  rw [e, if_neg (by omega)]

theorem idxL_any {α : Type} (p : α → Bool) (zs : List α) : decide (0 ≤ idxL p zs) = zs.any p := by
  unfold idxL
  by_cases h : zs.findIdx p < zs.length
  · rw [if_pos h]
    have := List.findIdx_lt_length.1 h
    simp
    obtain ⟨x, hx, hp⟩ := this
    exact ⟨x, hx, hp⟩
  · rw [if_neg h]
    have : ¬ ∃ x ∈ zs, p x = true := fun hx => h (List.findIdx_lt_length.2 hx)
    simp at this ⊢
    exact this

theorem idxL_bd {α : Type} (p : α → Bool) (zs : List α) : -1 ≤ idxL p zs ∧ idxL p zs ≤ zs.length := by
  unfold idxL
  split <;> omega

/-- The indices below n that are wanted. -/
def idxsL (p : Nat → Bool) : Nat → List Int
  | 0 => []
  | n + 1 => if p n then idxsL p n ++ [(n : Int)] else idxsL p n

theorem idxsL_len (p : Nat → Bool) (n : Nat) : (idxsL p n).length ≤ n := by
  induction n with
  | zero => simp [idxsL]
  | succ n ih =>
    unfold idxsL
    split
    · simp; omega
    · omega

theorem info_intJ : (Try.prog.info? 3).map (fun i => (i.zero, i.size, i.bytes)) = some (some (.int .i64 0), 1, 8) := by kernel_rfl

/-- A row of numbers of the call's own, in a block from lo on and below hi. -/
def RowJ (w : World) (lo hi : Nat) (v : Value) (zs : List Int) : Prop :=
  w.ownsRow lo 3 1 v zs.length (zs.map (Value.int .i64)) ∧ ∀ g, v.ownBlock = some g → lo ≤ g ∧ g < hi

theorem RowJ_form {w : World} {lo hi : Nat} {v : Value} {zs : List Int} (h : RowJ w lo hi v zs) :
    (zs = [] ∧ v = .slice none 0 0) ∨ ∃ g cap, v = .slice (some ⟨g, 0, none⟩) zs.length cap ∧ lo ≤ g ∧ g < hi ∧ g < w.heap.size ∧ zs.length ≤ cap ∧ cap ≤ maxLen := by
  rcases h.1.2 with ⟨h1, h2⟩ | ⟨g, cap, cur, rfl, hg, hh, h3, h4, _⟩
  · exact Or.inl ⟨List.eq_nil_of_length_eq_zero h2, h1⟩
  · exact Or.inr ⟨g, cap, rfl, hg, (h.2 g rfl).2, (h.1.lt g rfl).2, h3, h4⟩

theorem RowJ_rd {w : World} {lo hi : Nat} {v : Value} {zs : List Int} (h : RowJ w lo hi v zs) : RdI w v zs := by
  rcases RowJ_form h with ⟨rfl, rfl⟩ | ⟨g, cap, rfl, _, _, hlt, h3, h4⟩
  · exact ⟨by simp, none, 0, rfl, fun k hk => by simp at hk⟩
  · unfold maxLen at h4
    refine ⟨by omega, some ⟨g, 0, none⟩, cap, rfl, fun k hk => ⟨g, 0, rfl, hlt, ?_⟩⟩
    rw [Nat.zero_add, h.1.cellAt k (by simpa using hk)]
    simp [hk]

theorem RowJ_kept {W w1 : World} {lo hi : Nat} {v : Value} {zs : List Int} (h : RowJ W lo hi v zs) (hb : Below W.heap.size W w1) : RowJ w1 lo hi v zs := ⟨own_kept h.1 hb, h.2⟩

/-- append of one number to a row of the call's own. -/
theorem wp_appendJ {ops : Array Oper} {rest : List Oper} {o : Oper} {a : Act} {Q : Exit → Act → World → Prop} {W wr : World} (hgd : o.guard = none) (s x : Operand)
    (ho : o.op = .call { callee := .builtin .append, args := #[s, x], argTypes := #[67, 67] })
    (lo : Nat) (v : Value) (zs : List Int) (z : Int) (hs : a.eval s = v) (hrow : RowJ wr lo wr.heap.size v zs) (hx : a.eval x = .slice (some ⟨wr.heap.size, 0, none⟩) 1 1)
    (hW : Below W.heap.size W wr) (hlo : W.heap.size ≤ lo) (hlo2 : lo ≤ wr.heap.size) (hn : zs.length < 17592186044416)
    (h : ∀ v' w', RowJ w' lo w'.heap.size v' (zs ++ [z]) → Below W.heap.size W w' → wr.heap.size ≤ w'.heap.size → wpList Try.prog ops Q rest (a.put o.dst v') w') :
    wpList Try.prog ops Q (o :: rest) a (wr.alloc (.cells #[.int .i64 z] 3)) := by
  obtain ⟨i0, hi, hz0, hz1, hz2⟩ := info_parts info_intJ
  refine wpList_append_own _ hgd s x _ ho lo 3 i0 (.int .i64 0) 1 8 Try.underlying67 hi hz0 hz1 hz2 rfl (by decide) v zs.length _ hs (hrow.1.alloc _) ⟨wr.heap.size, 0, none⟩ 1 1 [.int .i64 z] hx rfl ?_ ?_ ?_ ?_ ?_ ?_
  · intro j u hj
    cases j with
    | zero => simp at hj; subst hj; simp [Addr.add]
    | succ j => simp at hj
  · intro u hu; simp at hu; subst hu; rfl
  · unfold maxLen; omega
  · omega
  · simp; omega
  · intro v' w' hown hg _
    have e : (zs.map (Value.int .i64) ++ [.int .i64 z]) = (zs ++ [z]).map (Value.int .i64) := by simp
    rw [e] at hown
    have hrow' : RowJ w' lo w'.heap.size v' (zs ++ [z]) := ⟨by simpa using hown, hown.lt⟩
    refine h v' w' hrow' ?_ (Nat.le_trans (by simp) hg.size)
    refine grown_below (hW.alloc hW.size _) hg (fun g hg2 => ?_)
    have := (hrow.2 g hg2).1
    omega

theorem RowJ_lo {w : World} {lo lo' hi hi' : Nat} {v : Value} {zs : List Int} (h : RowJ w lo hi v zs) (hl : lo' ≤ lo) (hh : hi ≤ hi') : RowJ w lo' hi' v zs :=
  ⟨Joins.ownsRow_le h.1 hl, fun g hg => ⟨by have := (h.2 g hg).1; omega, by have := (h.2 g hg).2; omega⟩⟩

theorem RowJ_new (w : World) : RowJ (w.alloc (.cells #[] 3)) w.heap.size (w.alloc (.cells #[] 3)).heap.size (.slice (some ⟨w.heap.size, 0, none⟩) 0 0) [] :=
  ⟨World.ownsRow_lit w #[] 0 (Nat.le_refl _) (by decide) (by rfl), fun g hg => by simp [Value.ownBlock] at hg; subst hg; simp⟩

/-- A moment without its sign. -/
def tiltL (n : Int) : Int := max n (-n)

theorem specSize_any (n : Int) (h : -1000000000000000000 ≤ n ∧ n ≤ 1000000000000000000) (w : World) :
    Calls Try.prog 91 #[.int .i64 n] w fun e w' => e = .returned (.int .i64 (tiltL n)) ∧ w = w' := by
  unfold tiltL
  go_enter Try.func91, Try.ntmps91
  go_wp2_with (go_at_call 93; refine (max_any _ _ _).mono ?_; rintro e w1 ⟨rfl, rfl⟩)
  go_ret
  exact ⟨rfl, rfl⟩

theorem tilt_abs (n : Int) : tiltL n = (n.natAbs : Int) := by unfold tiltL; omega

/-- A fraction in lowest terms. -/
def lowL (n d : Int) : Int × Int := (n.tdiv (Nat.gcd n.natAbs d.natAbs : Nat), d.tdiv (Nat.gcd n.natAbs d.natAbs : Nat))

theorem tdiv_bd (n : Int) (g : Nat) (k : Int) (h : -k ≤ n ∧ n ≤ k) : -k ≤ n.tdiv g ∧ n.tdiv g ≤ k := by
  have := Int.natAbs_tdiv n g
  have h2 := Nat.div_le_self n.natAbs (g : Int).natAbs
  have h3 : (n.tdiv g).natAbs ≤ n.natAbs := by rw [this]; exact h2
  omega

theorem gcd_pos' (n d : Int) (hd : 0 < d) : 0 < Nat.gcd n.natAbs d.natAbs := Nat.gcd_pos_of_pos_right _ (by omega)

theorem gcd_step (x y : Nat) : Nat.gcd y (x % y) = Nat.gcd x y := by rw [Nat.gcd_comm x y, Nat.gcd_rec y x, Nat.gcd_comm]

theorem specGcd_any (x y : Nat) (hx : x ≤ 9000000000000000000) (hy : y ≤ 9000000000000000000) (w : World) :
    Calls Try.prog 90 #[.int .i64 x, .int .i64 y] w fun e w' => e = .returned (.int .i64 (Nat.gcd x y : Nat)) ∧ Below w.heap.size w w' := by
  have HE := Lib.hid (rfl : Nat.gcd x y = Nat.gcd x y)
  generalize hG : Nat.gcd x y = G at *
  have HG := Lib.hid hG; clear hG HE
  go_enter Try.func90, Try.ntmps90
  go_wp2_with fail
  go_loopw [0, 1] (fun u v wr => ∃ a b : Nat, a ≤ 9000000000000000000 ∧ b ≤ 9000000000000000000 ∧ u = .int .i64 a ∧ v = .int .i64 b ∧ Nat.gcd a b = G ∧ Below w.heap.size w wr) (fun _ v _ => (intOf v).toNat)
  case atStart => exact ⟨x, y, hx, hy, rfl, rfl, HG.out, Below.refl _ _⟩
  case round =>
    obtain ⟨a, b, ha, hb0, rfl, rfl, hgab, hb⟩ := hrel
    by_cases hz : b = 0
    · subst hz
      rw [Nat.gcd_zero_right] at hgab
      subst hgab
      go_wp2
      go_ret
      exact ⟨rfl, hb⟩
    · have b0 : ((b : Int) == 0) = false := by simp; omega
      have b1 : ¬ (b : Int) = 0 := by omega
      have b2 : ¬ (b : Int) = -1 := by omega
      have b3 : ((b : Int) != 0) = true := by simp; omega
      have b4 : decide (0 < b) = true := by simp; omega
      have e1 : (a : Int).tmod (b : Int) = ((a % b : Nat) : Int) := by rw [Int.tmod_eq_emod_of_nonneg (by omega)]; rfl
      have hlt := Nat.mod_lt a (show 0 < b by omega)
      have hgs := gcd_step a b
      rw [hgab] at hgs
      have HGS := Lib.hid hgs; clear hgs
      have hw1 : IntKind.i64.wrap ((a % b : Nat) : Int) = ((a % b : Nat) : Int) := IntWalk.i64_in _ (by omega)
      generalize a % b = t at *
      go_wp2_with fail
      go_quiet (fail)
      go_wp2
      go_roundw
      case rel => exact ⟨b, t, hb0, by omega, by go_num, by simp [e1], HGS.out, kept_drewN hb _⟩
      case measure => simp [intOf, e1]; omega

theorem RdI_of (w : World) (g c : Nat) (zs : List Int) (hl : zs.length ≤ 9223372036854775807) (hg : g < w.heap.size) (hc : ∀ k, (hk : k < zs.length) → w.cell? ⟨g, k, none⟩ = some (.int .i64 zs[k])) : RdI w (.slice (some ⟨g, 0, none⟩) zs.length c) zs :=
  ⟨hl, _, _, rfl, fun k hk => ⟨g, 0, rfl, hg, by rw [Nat.zero_add]; exact hc k hk⟩⟩

theorem rdI1 {w : World} {g c : Nat} {x : Int} (hg : g < w.heap.size) (h0 : w.cell? ⟨g, 0, none⟩ = some (.int .i64 x)) : RdI w (.slice (some ⟨g, 0, none⟩) 1 c) [x] :=
  RdI_of w g c [x] (by simp) hg (fun k hk => by simp at hk; subst hk; exact h0)

set_option maxRecDepth 100000 in
theorem indexFuncI_any (v : Value) (zs : List Int) (g : FuncId) (he : Enters Try.prog g) (cap : Array Value) (p : Int → Bool) (w : World) (h : RdI w v zs)
    (hf : ∀ k (hk : k < zs.length) w1, Below w.heap.size w w1 → Calls Try.prog g (#[.int .i64 zs[k]] ++ cap) w1 fun e w2 => e = .returned (.bool (p zs[k])) ∧ Below w1.heap.size w1 w2) :
    Calls Try.prog 89 #[v, .func (.func g) #[] cap] w fun e w' => e = .returned (.int .i64 (idxL p zs)) ∧ Below w.heap.size w w' := by
  obtain ⟨hl, A, c, rfl, r1⟩ := h
  have R := Lib.hid r1; clear r1
  have Hf := Lib.hid hf; clear hf
  have HIS := Lib.hid (fun k (h : k < zs.length) => @idxL_is _ p zs k h)
  have HNO := Lib.hid (@idxL_none _ p zs)
  generalize idxL p zs = G at *
  go_enter Try.func89, Try.ntmps89
  go_wp2_with fail
  go_loopw [8] (fun i wr => ∃ k : Nat, k ≤ zs.length ∧ i = .int .i64 k ∧ (∀ j (hj : j < zs.length), j < k → p zs[j] = false) ∧ Below w.heap.size w wr) (fun i _ => zs.length - (intOf i).toNat)
  case atStart => exact ⟨0, by omega, rfl, fun j _ h => by omega, Below.refl _ _⟩
  case round =>
    obtain ⟨k, hk, rfl, hall, hb⟩ := hrel
    by_cases hlt : k < zs.length
    · obtain ⟨b, off, rfl, hbl, hc0⟩ := R.out k hlt
      rw [← kept_cell hb b _ hbl] at hc0
      have hc := Hf.out k hlt wr hb
      cases hp : p zs[k]
      · have hnx : ∀ j (hj : j < zs.length), j < k + 1 → p zs[j] = false := fun j hj hjk => by
          rcases Nat.lt_or_ge j k with h1 | h1
          · exact hall j hj h1
          · obtain rfl : j = k := by omega
            exact hp
        rw [hp] at hc
        have HNX := Lib.hid hnx; clear hnx hall hp
        have Hc := Lib.hid hc; clear hc
        generalize zs[k] = x at *
        go_wp2_with fail
        rw [he, Oper.upon_enter]
        refine Hc.out.mono ?_
        rintro e w1 ⟨rfl, hb1⟩
        go_wp2
        go_roundw
        case rel => exact ⟨k + 1, by omega, by go_num, HNX.out, kept_trans hb hb1⟩
        case measure => simp [intOf]; omega
      · have hE := HIS.out k hlt hp hall
        subst hE
        rw [hp] at hc
        have Hc := Lib.hid hc; clear hc hall hp
        generalize zs[k] = x at *
        go_wp2_with fail
        rw [he, Oper.upon_enter]
        refine Hc.out.mono ?_
        rintro e w1 ⟨rfl, hb1⟩
        go_wp2
        go_ret
        exact ⟨rfl, kept_trans hb hb1⟩
    · have : k = zs.length := by omega
      subst this
      have hE := HNO.out (fun j hj => hall j hj hj)
      clear hall
      subst hE
      go_wp2
      go_ret
      exact ⟨rfl, hb⟩

theorem containsFuncI_any (v : Value) (zs : List Int) (g : FuncId) (he : Enters Try.prog g) (cap : Array Value) (p : Int → Bool) (w : World) (h : RdI w v zs)
    (hf : ∀ k (hk : k < zs.length) w1, Below w.heap.size w w1 → Calls Try.prog g (#[.int .i64 zs[k]] ++ cap) w1 fun e w2 => e = .returned (.bool (p zs[k])) ∧ Below w1.heap.size w1 w2) :
    Calls Try.prog 79 #[v, .func (.func g) #[] cap] w fun e w' => e = .returned (.bool (zs.any p)) ∧ Below w.heap.size w w' := by
  have H := Lib.hid (indexFuncI_any v zs g he cap p w h hf)
  obtain ⟨hl, A, c, rfl, r1⟩ := h
  clear hf r1
  have hbd := idxL_bd p zs
  rw [← idxL_any]
  generalize idxL p zs = G at *
  go_enter Try.func79, Try.ntmps79
  go_wp2_with fail
  refine H.out.mono ?_
  rintro e w1 ⟨rfl, hb1⟩
  go_wp2
  go_ret
  exact ⟨rfl, hb1⟩

theorem outside_any (n lo hi : Int) (b1 b2 : Nat) (w : World) (h1 : w.cell? ⟨b1, 0, none⟩ = some (.int .i64 lo)) (h2 : w.cell? ⟨b2, 0, none⟩ = some (.int .i64 hi)) :
    Calls Try.prog 80 #[.int .i64 n, .pointer (some ⟨b1, 0, none⟩), .pointer (some ⟨b2, 0, none⟩)] w fun e w' => e = .returned (.bool (!inB n lo hi)) ∧ Below w.heap.size w w' := by
  unfold inB
  by_cases g1 : lo ≤ n <;> by_cases g2 : n ≤ hi
  all_goals
    go_enter Try.func80, Try.ntmps80
    go_wp2
    go_ret
    exact ⟨by simp [*], Below.refl _ _⟩

theorem within_any (lo hi : Int) (v : Value) (zs : List Int) (w : World) (h : RdI w v zs) :
    Calls Try.prog 53 #[.int .i64 lo, .int .i64 hi, v] w fun e w' => e = .returned (.bool (zs.all fun n => inB n lo hi)) ∧ Below w.heap.size w w' := by
  have hall : (zs.all fun n => inB n lo hi) = !(zs.any fun n => !inB n lo hi) := by simp [List.any_eq_not_all_not]
  rw [hall]
  clear hall
  have HC := Lib.hid (fun u (q : RdI u v zs) b1 b2 (l1 : b1 < u.heap.size) (l2 : b2 < u.heap.size) (c1 : u.cell? ⟨b1, 0, none⟩ = some (.int .i64 lo)) (c2 : u.cell? ⟨b2, 0, none⟩ = some (.int .i64 hi)) =>
    containsFuncI_any v zs 80 (enters_of Try.func80 (by kernel_rfl) rfl) #[.pointer (some ⟨b1, 0, none⟩), .pointer (some ⟨b2, 0, none⟩)] (fun n => !inB n lo hi) u q
      (fun k hk w1 hb => outside_any zs[k] lo hi b1 b2 w1 (by rw [kept_cell hb b1 0 l1]; exact c1) (by rw [kept_cell hb b2 0 l2]; exact c2)))
  obtain ⟨hl, A, c, rfl, r1⟩ := h
  have H := Lib.hid (show RdI w (.slice A zs.length c) zs from ⟨hl, A, c, rfl, r1⟩); clear r1
  generalize (zs.any fun n => !inB n lo hi) = X at *
  have hmf : ∀ (fn : Fn) (first cap : Array Value) (w : World), (Instr.makeFunc fn first cap).run Try.prog w = .ok (.func fn first cap) w := fun _ _ _ _ => rfl
  go_enter Try.func53, Try.ntmps53
  go_wp2_with fail
  refine (HC.out _ (RdI_kept H.out (by go_grown)) w.heap.size (w.heap.size + 1) (by simp; try omega) (by simp) (by simp) (by simp)).mono ?_
  rintro e w1 ⟨rfl, hb1⟩
  have b1 := kept_trans (a := w) (by go_grown) hb1
  go_wp2
  go_ret
  exact ⟨rfl, b1⟩

theorem specMake_any (n d : Int) (hn : -1000000000000000000 ≤ n ∧ n ≤ 1000000000000000000) (hd : 1 ≤ d ∧ d ≤ 1000000000000000000) (w : World) :
    Calls Try.prog 85 #[.int .i64 n, .int .i64 d] w fun e w' => e = .returned (.agg #[.int .i64 (lowL n d).1, .int .i64 (lowL n d).2]) ∧ Below w.heap.size w w' := by
  have hp := gcd_pos' n d (by omega)
  have hle := Nat.gcd_le_right n.natAbs (show 0 < d.natAbs by omega)
  have hq1 := tdiv_bd n (Nat.gcd n.natAbs d.natAbs) 1000000000000000000 hn
  have hq2 := tdiv_bd d (Nat.gcd n.natAbs d.natAbs) 1000000000000000000 (by omega)
  have HA := Lib.hid (fun u => specSize_any n (by omega) u)
  have HG := specGcd_any n.natAbs d.natAbs (by omega) (by omega)
  rw [tilt_abs, show ((d.natAbs : Nat) : Int) = d by omega] at *
  unfold lowL
  generalize Nat.gcd n.natAbs d.natAbs = g at *
  have HG := Lib.hid HG
  have g0 : ((g : Int) == 0) = false := by simp; omega
  have g1 : ¬ (g : Int) = 0 := by omega
  have g2 : ¬ (g : Int) = -1 := by omega
  have w1 : IntKind.i64.wrap (n.tdiv g) = n.tdiv g := IntWalk.i64_in _ (by omega)
  have w2 : IntKind.i64.wrap (d.tdiv g) = d.tdiv g := IntWalk.i64_in _ (by omega)
  generalize hX : n.tdiv g = X at *
  generalize hY : d.tdiv g = Y at *
  have HX := Lib.hid hX; clear hX
  have HY := Lib.hid (show d / (g : Int) = Y by rw [← hY, Int.tdiv_eq_ediv_of_nonneg (by omega)]); clear hY
  go_enter Try.func85, Try.ntmps85
  go_wp2_with fail
  refine (HA.out _).mono ?_
  rintro e w1 ⟨rfl, rfl⟩
  go_wp2_with fail
  refine (HG.out _).mono ?_
  rintro e w2 ⟨rfl, hb2⟩
  refine kept_at hb2 w.heap.size (by go_size) fun c2_0 z2_0 s2_0 => ?_
  have b2 := kept_trans (a := w) (by go_grown) hb2
  go_wp2_with fail
  go_region
  all_goals
    go_wp2
    (try simp only [Exit.inBlock, Exit.then])
    refine bodyPost_ret (v := .agg #[.int .i64 X, .int .i64 Y]) ?_ rfl ⟨rfl, ?_⟩
    · rw [results_cell1 rfl]
      go_simp
      exact ⟨HX.out, HY.out⟩
    · go_grown

theorem mul_ge (a b p q : Int) (h1 : 0 ≤ p ∧ p ≤ a) (h2 : 0 ≤ q ∧ q ≤ b) : p * q ≤ a * b := Int.mul_le_mul h1.2 h2.2 h2.1 (by omega)

theorem four (p0 p1 p2 p3 : Bool) : p0 = false ∨ (p0 = true ∧ p1 = false) ∨ (p0 = true ∧ p1 = true ∧ p2 = false) ∨ (p0 = true ∧ p1 = true ∧ p2 = true ∧ p3 = false) ∨ (p0 = true ∧ p1 = true ∧ p2 = true ∧ p3 = true) := by
  cases p0 <;> cases p1 <;> cases p2 <;> cases p3 <;> simp

theorem validLoad_any (n : Int) (w : World) :
    Calls Try.prog 52 #[.int .i64 n] w fun e w' => e = .returned (.bool (inB n 0 50000)) ∧ Below w.heap.size w w' := by
  have H := fun v u q => within_any 0 50000 v [n] u q
  rw [show ([n].all fun n => inB n 0 50000) = inB n 0 50000 by simp] at H
  have H := Lib.hid H
  generalize inB n 0 50000 = p at *
  go_enter Try.func52, Try.ntmps52
  go_wp2_with fail
  refine (H.out _ _ (rdI1 (by go_size) (by go_simp))).mono ?_
  rintro e w1 ⟨rfl, hb1⟩
  have b1 := kept_trans (a := w) (by go_grown) hb1
  go_wp2
  go_ret
  exact ⟨rfl, b1⟩

theorem low_mul (n d : Int) (hd : 0 < d) : ∃ g : Int, 0 < g ∧ n = (lowL n d).1 * g ∧ d = (lowL n d).2 * g := by
  have hp := gcd_pos' n d hd
  refine ⟨(Nat.gcd n.natAbs d.natAbs : Nat), by omega, ?_, ?_⟩
  · unfold lowL
    rw [Int.tdiv_mul_cancel (Int.ofNat_dvd_left.2 (Nat.gcd_dvd_left _ _))]
  · unfold lowL
    rw [Int.tdiv_mul_cancel (Int.ofNat_dvd_left.2 (Nat.gcd_dvd_right _ _))]

/-- A world in which all that was there in W stands as it was. -/
structure BelowBy (W : World) where
  w : World
  h : Below W.heap.size W w
instance belowBy_some (W : World) : Inhabited (BelowBy W) := ⟨⟨W, Below.refl _ _⟩⟩

/-- A region that draws its order, whose operations only read and whose callees only make memory: walked once. -/
theorem wp_region_below {P : Program} {id : Nat} {Q : Exit → Act → World → Prop} {a : Act} {w : World} {l : List Oper} (hm : P.follows .mixedOrders = true) (hB : Region.lexB .any l.toArray = true)
    (h : wpQuiet P l.toArray (fun w' => ∃ p : BelowBy w, w' = p.w) (fun a' => ∀ w', (∃ p : BelowBy w, w' = p.w) → Q .normal a' w') l a) : (Code.region id l.toArray true).wp P Q a w :=
  wp_region_quiet (C := fun w' => ∃ p : BelowBy w, w' = p.w) hm hB ⟨⟨{ w with drawn := w.drawn + 1 }, ⟨rfl, rfl, rfl, Nat.le_refl _, fun _ _ => rfl⟩⟩, rfl⟩ (by simpa using h)

theorem below_call {P : Program} {f : FuncId} {args : Array Value} {W : World} {x : BelowBy W} {v : Value}
    (h : Below W.heap.size W x.w → Calls P f args x.w fun e w' => e = .returned v ∧ Below x.w.heap.size x.w w') : Calls P f args x.w fun e w'' => e = .returned v ∧ ∃ p : BelowBy W, w'' = p.w :=
  (h x.h).mono fun _ w' ⟨he, hb⟩ => ⟨he, ⟨w', kept_trans x.h hb⟩, rfl⟩

/-- The numbers of a sling (legs, span, rise, mass) are as asked. -/
def slB (g p r m : Int) : Bool := inB g 1 4 && inB p 0 400 && inB r 1 400 && inB m 0 1000 && (decide (1 < g) || decide (p = 0))

theorem slB_bd {g p r m : Int} (h : slB g p r m = true) : (1 ≤ g ∧ g ≤ 4) ∧ (0 ≤ p ∧ p ≤ 400) ∧ (1 ≤ r ∧ r ≤ 400) ∧ (0 ≤ m ∧ m ≤ 1000) := by
  simp only [slB, Bool.and_eq_true] at h
  obtain ⟨⟨⟨⟨h0, h1⟩, h2⟩, h3⟩, _⟩ := h
  exact ⟨inB_true h0, inB_true h1, inB_true h2, inB_true h3⟩

def slSq (p r : Int) : Int := p * p + 4 * r * r

/-- Twice the length of a leg, rounded up. -/
noncomputable def slD (p r : Int) : Int := rootL (slSq p r)

theorem root_ex (n : Nat) : ∃ r : Int, IsRoot n r := by
  induction n with
  | zero => exact ⟨0, by omega, by simp, fun q h1 h2 => by omega⟩
  | succ n ih =>
    obtain ⟨r, h1, h2, h3⟩ := ih
    by_cases h : (n : Int) + 1 ≤ r * r
    · exact ⟨r, h1, by omega, fun q a b => by have := h3 q a b; omega⟩
    · have e : (r + 1) * (r + 1) = r * r + 2 * r + 1 := by grind
      refine ⟨r + 1, by omega, by omega, fun q a b => ?_⟩
      have : q * q ≤ r * r := Int.mul_le_mul (by omega) (by omega) a h1
      omega

theorem root_is (n : Int) (h : 0 ≤ n) : IsRoot n (rootL n) := by
  obtain ⟨r, hr⟩ := root_ex n.toNat
  rw [show ((n.toNat : Nat) : Int) = n by omega] at hr
  rw [rootL_eq hr]
  exact hr

theorem slSq_bd (p r : Int) (hp : 0 ≤ p ∧ p ≤ 400) (hr : 1 ≤ r ∧ r ≤ 400) : 4 ≤ slSq p r ∧ slSq p r ≤ 800000 := by
  have h1 := sq_bd p 400 (by omega) (by omega)
  have h2 := sq_bd r 400 (by omega) (by omega)
  have h3 : 1 * 1 ≤ r * r := Int.mul_le_mul hr.1 hr.1 (by omega) (by omega)
  have e : 4 * r * r = 4 * (r * r) := by grind
  unfold slSq
  omega

theorem slD_bd (p r : Int) (hp : 0 ≤ p ∧ p ≤ 400) (hr : 1 ≤ r ∧ r ≤ 400) : 2 ≤ slD p r ∧ slD p r ≤ p + 2 * r := by
  have hb := slSq_bd p r hp hr
  have h := root_is (slSq p r) (by omega)
  unfold slD
  obtain ⟨h1, h2, h3⟩ := h
  generalize hR : rootL (slSq p r) = R at *
  constructor
  · rcases Int.lt_or_le R 2 with h | h
    · have : R = 0 ∨ R = 1 := by omega
      rcases this with rfl | rfl <;> omega
    · exact h
  · rcases Int.lt_or_le (p + 2 * r) R with h | h
    · have h4 := h3 (p + 2 * r) (by omega) h
      have h5 : (p + 2 * r) * (p + 2 * r) = slSq p r + 4 * (p * r) := by unfold slSq; grind
      have h6 := Int.mul_nonneg hp.1 (show 0 ≤ r by omega)
      omega
    · exact h

/-- A step of Newton's never passes the root, rounded down. -/
theorem newton_step (n x : Int) (hn : 0 ≤ n) (hx : 0 < x) : n < ((x + n / x) / 2 + 1) * ((x + n / x) / 2 + 1) := by
  have h1 : n < x * (n / x + 1) := by
    have := Int.lt_ediv_add_one_mul_self n hx
    rw [Int.mul_comm]; exact this
  have h0 : 0 ≤ n / x := Int.ediv_nonneg hn (by omega)
  generalize n / x = q at *
  have h2 : x + q + 1 ≤ 2 * ((x + q) / 2 + 1) := by omega
  generalize (x + q) / 2 + 1 = y at *
  have h3 : (x + q + 1) * (x + q + 1) ≤ (2 * y) * (2 * y) := Int.mul_le_mul h2 h2 (by omega) (by omega)
  have h4 : 0 ≤ (x - (q + 1)) * (x - (q + 1)) := by
    rcases Int.le_total 0 (x - (q + 1)) with h | h
    · exact Int.mul_nonneg h h
    · exact Int.mul_nonneg_of_nonpos_of_nonpos h h
  have e1 : (x + q + 1) * (x + q + 1) = (x - (q + 1)) * (x - (q + 1)) + 4 * (x * (q + 1)) := by grind
  have e2 : (2 * y) * (2 * y) = 4 * (y * y) := by grind
  omega

theorem newton_down (n x : Int) (hn : 0 ≤ n) (hx : 0 < x) (h : n < x * x) : (x + n / x) / 2 < x := by
  have : n / x < x := Int.ediv_lt_of_lt_mul hx h
  omega

/-- Where Newton's steps end, the root is there or one less than it. -/
theorem newton_end (n x : Int) (hx : 0 ≤ x) (h1 : n < (x + 1) * (x + 1)) (h2 : x * x ≤ n) : rootL n = if x * x < n then x + 1 else x := by
  apply rootL_eq
  split
  · refine ⟨by omega, by omega, fun q a b => ?_⟩
    have : q * q ≤ x * x := Int.mul_le_mul (by omega) (by omega) a hx
    omega
  · refine ⟨by omega, by omega, fun q a b => ?_⟩
    have e : x * x = (x - 1) * (x - 1) + 2 * x - 1 := by grind
    have : q * q ≤ (x - 1) * (x - 1) := Int.mul_le_mul (by omega) (by omega) a (by omega)
    omega

/-- The legs that bear. -/
def bearL (g : Int) : Int := if 3 < g then 3 else g

theorem bearL_bd {g : Int} (h : 1 ≤ g ∧ g ≤ 4) : 1 ≤ bearL g ∧ bearL g ≤ 3 := by unfold bearL; split <;> omega

/-- What a force is divided by. -/
def slE (g r : Int) : Int := 2 * bearL g * r

theorem slE_bd (g r : Int) (hg : 1 ≤ g ∧ g ≤ 4) (hr : 1 ≤ r ∧ r ≤ 400) : 2 ≤ slE g r ∧ slE g r ≤ 2400 := by
  have h := bearL_bd hg
  unfold slE
  have h1 := mul_bd (2 * bearL g) r 6 400 (by omega) (by omega)
  have h2 := mul_ge (2 * bearL g) r 2 1 (by omega) (by omega)
  omega

theorem up_iff (n d k : Int) (hd : 0 < d) : upL n d ≤ k ↔ n ≤ k * d := by
  unfold upL
  have e : (k + 1) * d = k * d + d := by grind
  rw [← Int.lt_add_one_iff, Int.ediv_lt_iff_lt_mul hd, e]
  omega

theorem up_scale (c x y : Int) (hc : 0 < c) (hy : 0 < y) : upL (c * x) (c * y) = upL x y := by
  have h : ∀ k, upL (c * x) (c * y) ≤ k ↔ upL x y ≤ k := fun k => by
    rw [up_iff _ _ _ (Int.mul_pos hc hy), up_iff _ _ _ hy, show k * (c * y) = c * (k * y) by grind]
    exact Int.mul_le_mul_left hc
  exact Int.le_antisymm ((h _).2 (Int.le_refl _)) ((h _).1 (Int.le_refl _))

theorem up_low (n d : Int) (hd : 0 < d) : upL (lowL n d).1 (lowL n d).2 = upL n d := by
  have hp := gcd_pos' n d hd
  have d1 : ((Nat.gcd n.natAbs d.natAbs : Nat) : Int) ∣ n := Int.ofNat_dvd_left.2 (Nat.gcd_dvd_left _ _)
  have d2 : ((Nat.gcd n.natAbs d.natAbs : Nat) : Int) ∣ d := Int.ofNat_dvd_left.2 (Nat.gcd_dvd_right _ _)
  unfold lowL
  dsimp only
  generalize Nat.gcd n.natAbs d.natAbs = c at *
  have e1 := Int.mul_tdiv_cancel' d1
  have e2 := Int.mul_tdiv_cancel' d2
  generalize n.tdiv c = x at *
  generalize d.tdiv c = y at *
  rw [← e1, ← e2]
  refine (up_scale _ _ _ (by omega) ?_).symm
  have hc : (0 : Int) < c := by omega
  rcases Int.lt_or_le 0 y with h | h
  · exact h
  · have := Int.mul_nonpos_of_nonneg_of_nonpos (show (0 : Int) ≤ c by omega) h
    omega

/-- The force in a leg, rounded up. -/
noncomputable def slUp (g p r w : Int) : Int := upL (w * slD p r) (slE g r)

/-- How far the legs are spread. -/
def slK (g p r : Int) : Int := if g = 1 then 0 else if p ≤ 2 * r then 1 else if p * p ≤ 12 * r * r then 2 else 3

noncomputable def slHolds (g p r w k : Int) : Bool := decide (slK g p r < 3) && decide (slUp g p r w ≤ k)

/-- The fields of a sling. -/
structure Sl where
  g : Int
  p : Int
  r : Int
  m : Int

def okSl (z : Sl) : Bool := slB z.g z.p z.r z.m

noncomputable def holdsSl (z : Sl) (w k : Int) : Bool := slHolds z.g z.p z.r w k

theorem slK_le (g p r : Int) : slK g p r ≤ 3 := by unfold slK; split <;> (try split) <;> (try split) <;> omega

/-- A sling, cell by cell. -/
def encSl (z : Sl) : List Value := [.int .i64 z.g, .int .i64 z.p, .int .i64 z.r, .int .i64 z.m]

def flatSl (zs : List Sl) : List Value := zs.flatMap encSl

theorem flatSl_len (zs : List Sl) : (flatSl zs).length = zs.length * 4 := flat_len (enc := encSl) (fun _ => rfl) zs

theorem flatSl_at (zs : List Sl) (k j : Nat) (h : k < zs.length) (hj : j < 4) : (flatSl zs)[k * 4 + j]? = (encSl zs[k])[j]? := flat_at (enc := encSl) (sz := 4) (fun _ => rfl) zs k j h hj

/-- The slice value reads as a list of slings. -/
def RdSl (w : World) (v : Value) (zs : List Sl) : Prop := RdF w v zs.length 4 (flatSl zs)

theorem RdSl_kept {W w1 : World} {v : Value} {zs : List Sl} (h : RdSl W v zs) (hb : Below W.heap.size W w1) : RdSl w1 v zs := RdF_kept h hb

/-- A sling at a place of a block. -/
def SlAt (w : World) (b o : Nat) (z : Sl) : Prop :=
  b < w.heap.size ∧ w.cell? ⟨b, o, none⟩ = some (.int .i64 z.g) ∧ w.cell? ⟨b, o + 1, none⟩ = some (.int .i64 z.p) ∧ w.cell? ⟨b, o + 2, none⟩ = some (.int .i64 z.r) ∧ w.cell? ⟨b, o + 3, none⟩ = some (.int .i64 z.m)

theorem SlAt_kept {W w1 : World} {b o : Nat} {z : Sl} (h : SlAt W b o z) (hb : Below W.heap.size W w1) : SlAt w1 b o z := by
  obtain ⟨hl, h0, h1, h2, h3⟩ := h
  refine ⟨Nat.lt_of_lt_of_le hl hb.size, ?_, ?_, ?_, ?_⟩ <;> (rw [kept_cell hb b _ hl]; assumption)

theorem RdSl_at {w : World} {v : Value} {zs : List Sl} (h : RdSl w v zs) : ∃ A c, v = .slice A zs.length c ∧ zs.length ≤ 9223372036854775807 ∧
    ∀ i, (hi : i < zs.length) → ∃ b off, A = some ⟨b, off, none⟩ ∧ SlAt w b (off + i * 4) zs[i] := by
  obtain ⟨hl, hx, A, c, rfl, hr⟩ := h
  refine ⟨A, c, rfl, hl, fun i hi => ?_⟩
  obtain ⟨b, off, rfl, hlt, h0⟩ := hr (i * 4) (by omega)
  have at_ : ∀ j, j < 4 → w.cell? ⟨b, off + (i * 4 + j), none⟩ = (encSl zs[i])[j]? := by
    intro j hj
    obtain ⟨b', off', e, _, h1⟩ := hr (i * 4 + j) (by omega)
    simp only [Option.some.injEq, Addr.mk.injEq, and_true] at e
    obtain ⟨rfl, rfl⟩ := e
    rw [h1, flatSl_at zs i j hi hj]
  exact ⟨b, off, rfl, hlt, at_ 0 (by omega), at_ 1 (by omega), at_ 2 (by omega), at_ 3 (by omega)⟩

theorem szSl_any (A : Option Addr) (n c : Nat) (left : Int) (h : -9223372036854775808 ≤ left - n ∧ left ≤ 1000000) (hn : n ≤ 9223372036854775807) (w : World) :
    Calls Try.prog 37 #[.slice A n c, .int .i64 left] w fun e w' => e = .returned (.int .i64 (if (n : Int) ≤ left then left - n else -1)) ∧ w = w' := by
  by_cases h1 : (n : Int) ≤ left
  · rw [if_pos h1]
    go_enter Try.func37, Try.ntmps37
    go_wp2
    go_ret
    exact ⟨rfl, rfl⟩
  · rw [if_neg h1]
    go_enter Try.func37, Try.ntmps37
    go_wp2
    go_ret
    exact ⟨rfl, rfl⟩

theorem toSl_any (g p r m : Int) (w : World) :
    Calls Try.prog 25 #[.agg #[.int .i64 g, .int .i64 p, .int .i64 r, .int .i64 m]] w fun e w' => e = .returned (.agg #[.int .i64 g, .int .i64 p, .int .i64 r, .int .i64 m]) ∧ Below w.heap.size w w' := by
  go_enter Try.func25, Try.ntmps25
  go_wp2
  go_returns
  exact ⟨rfl, by go_grown⟩

def fillSl : Sl := ⟨-7000000000000000101, -7000000000000000101, -7000000000000000101, -7000000000000000101⟩

theorem fillSl_any (w : World) :
    Calls Try.prog 72 #[] w fun e w' => e = .returned (.agg #[.int .i64 fillSl.g, .int .i64 fillSl.p, .int .i64 fillSl.r, .int .i64 fillSl.m]) ∧ Below w.heap.size w w' := by
  unfold fillSl
  go_enter Try.func72, Try.ntmps72
  go_wp2
  go_returns
  exact ⟨rfl, by go_grown⟩

theorem eqSl_same (g p r m : Int) (w : World) :
    Calls Try.prog 88 #[.agg #[.int .i64 g, .int .i64 p, .int .i64 r, .int .i64 m], .agg #[.int .i64 g, .int .i64 p, .int .i64 r, .int .i64 m]] w fun e w' => e = .returned (.bool true) ∧ Below w.heap.size w w' := by
  go_enter Try.func88, Try.ntmps88
  go_wp2
  go_ret
  exact ⟨rfl, by go_grown⟩

theorem info_sling : (Try.prog.info? 31).map (fun i => (i.zero, i.size, i.bytes)) = some (some (.agg #[.int .i64 0, .int .i64 0, .int .i64 0, .int .i64 0]), 4, 32) := by kernel_rfl

set_option maxHeartbeats 1000000 in
theorem eqSls_same (v1 v2 : Value) (zs : List Sl) (w : World) (h1 : RdSl w v1 zs) (h2 : RdSl w v2 zs) :
    Calls Try.prog 73 #[v1, v2] w fun e w' => e = .returned (.bool true) ∧ Below w.heap.size w w' := by
  obtain ⟨A, c, rfl, hl, r1⟩ := RdSl_at h1
  obtain ⟨A2, c2, rfl, _, r2⟩ := RdSl_at h2
  clear h1 h2
  have R1 := Lib.hid r1; clear r1
  have R2 := Lib.hid r2; clear r2
  go_enter Try.func73, Try.ntmps73
  go_wp2_with fail
  go_loopw [5] (fun i wr => ∃ k : Nat, k ≤ zs.length ∧ i = .int .i64 k ∧ Below w.heap.size w wr) (fun i _ => zs.length - (intOf i).toNat)
  case atStart => exact ⟨0, by omega, rfl, Below.refl _ _⟩
  case round =>
    obtain ⟨k, hk, rfl, hb⟩ := hrel
    by_cases hlt : k < zs.length
    · obtain ⟨b, off, rfl, q1⟩ := R1.out k hlt
      obtain ⟨b2, off2, rfl, q2⟩ := R2.out k hlt
      obtain ⟨hbl, c0, c1, c2, c3⟩ := SlAt_kept q1 hb
      obtain ⟨hbl2, d0, d1, d2, d3⟩ := SlAt_kept q2 hb
      clear q1 q2
      generalize zs[k] = z at *
      obtain ⟨g, p, r, m⟩ := z
      dsimp only at c0 c1 c2 c3 d0 d1 d2 d3
      go_wp2_with fail
      go_region_held3 (fun w' => w'.cell? ⟨b, off + k * 4, none⟩ = some (.int .i64 g) ∧ w'.cell? ⟨b, off + k * 4 + 1, none⟩ = some (.int .i64 p) ∧ w'.cell? ⟨b, off + k * 4 + 2, none⟩ = some (.int .i64 r) ∧ w'.cell? ⟨b, off + k * 4 + 3, none⟩ = some (.int .i64 m) ∧ w'.cell? ⟨b2, off2 + k * 4, none⟩ = some (.int .i64 g) ∧ w'.cell? ⟨b2, off2 + k * 4 + 1, none⟩ = some (.int .i64 p) ∧ w'.cell? ⟨b2, off2 + k * 4 + 2, none⟩ = some (.int .i64 r) ∧ w'.cell? ⟨b2, off2 + k * 4 + 3, none⟩ = some (.int .i64 m)) (go_keep)
        ((go_at_call 88; refine (eqSl_same _ _ _ _ _).mono ?_; rintro e w1 ⟨rfl, hb1⟩; replace hb1 := kept_trans (a := wr) (by go_grown) hb1; have hcl := kept_cell hb1))
      go_wp2
      go_roundw
      case rel => exact ⟨k + 1, by omega, by go_num, kept_trans hb (by assumption)⟩
      case measure => simp [intOf]; omega
    · have : k = zs.length := by omega
      subst this
      go_wp2
      go_ret
      exact ⟨rfl, hb⟩

theorem flatSl_set (l : List Sl) (j : Nat) (z : Sl) : ((((flatSl l).set (j * 4) (.int .i64 z.g)).set (j * 4 + 1) (.int .i64 z.p)).set (j * 4 + 2) (.int .i64 z.r)).set (j * 4 + 3) (.int .i64 z.m) = flatSl (l.set j z) := by
  induction l generalizing j with
  | nil => simp [flatSl]
  | cons y l ih =>
    cases j with
    | zero => simp [flatSl, encSl]
    | succ j =>
      have := ih j
      simp only [flatSl, encSl, List.flatMap_cons, List.cons_append, List.nil_append, Nat.succ_mul, List.set_cons_succ] at this ⊢
      rw [← this]

/-- What a copy's block holds: the list, and behind it the filler. -/
def copySl (zs : List Sl) : List Sl := zs ++ List.replicate (roomL zs.length) fillSl

theorem copySl_len (zs : List Sl) : (copySl zs).length = zs.length + roomL zs.length := by simp [copySl]

/-- A copy of a list of slings that the law made: the whole block is a row of the call's own. -/
def CopySl (w : World) (lo hi : Nat) (v : Value) (zs : List Sl) : Prop :=
  zs.length ≤ 1000000 ∧ ∃ g, v = .slice (some ⟨g, 0, none⟩) zs.length (copySl zs).length ∧ RowF 31 4 w lo hi (.slice (some ⟨g, 0, none⟩) (copySl zs).length (copySl zs).length) (copySl zs).length (flatSl (copySl zs))

theorem CopySl_kept {W w1 : World} {lo hi : Nat} {v : Value} {zs : List Sl} (h : CopySl W lo hi v zs) (hb : Below W.heap.size W w1) : CopySl w1 lo hi v zs := by
  obtain ⟨hl, g, e, hr⟩ := h
  exact ⟨hl, g, e, RowF_kept hr hb⟩

theorem CopySl_row {w : World} {lo hi : Nat} {v : Value} {zs : List Sl} (h : CopySl w lo hi v zs) : RowF 31 4 w lo hi v zs.length (flatSl zs) := by
  obtain ⟨hl, g, rfl, hr⟩ := h
  have := RowF_short hr (n := zs.length) (by rw [copySl_len]; omega)
  have e : (flatSl (copySl zs)).take (zs.length * 4) = flatSl zs := by
    rw [show flatSl (copySl zs) = flatSl zs ++ flatSl (List.replicate (roomL zs.length) fillSl) by simp [flatSl, copySl]]
    rw [← flatSl_len, List.take_left]
  rwa [e] at this

theorem CopySl_rd {w : World} {lo hi : Nat} {v : Value} {zs : List Sl} (h : CopySl w lo hi v zs) : RdSl w v zs := RowF_rd (CopySl_row h)

theorem make_slings (n : Nat) (h : n ≤ 4000000) (w : World) :
    (Instr.makeSlice 24 (.int .i64 (n : Int)) (.int .i64 (n : Int))).run Try.prog w = .ok (.slice (some ⟨w.heap.size, 0, none⟩) n n) (w.alloc (.cells (madeCells #[.int .i64 0, .int .i64 0, .int .i64 0, .int .i64 0] (n * 4)) 31)) := by
  obtain ⟨i, hi, hz, hs, hb⟩ := info_parts info_sling
  have hb' : (i.bytes : Int) * (n : Int) ≤ 281474976710656 := by rw [hb]; omega
  have hr := run_make (P := Try.prog) w 24 31 i (.agg #[.int .i64 0, .int .i64 0, .int .i64 0, .int .i64 0]) Try.underlying24 hi hz .i64 .i64 n n (by omega) (Int.le_refl _) hb' (by omega)
  simp only [Int.toNat_natCast, hs] at hr
  exact hr

def zeroSl : Sl := ⟨0, 0, 0, 0⟩

theorem madeSl_flat (n : Nat) : (madeCells #[.int .i64 0, .int .i64 0, .int .i64 0, .int .i64 0] (n * 4)).toList = flatSl (List.replicate n zeroSl) := by
  apply List.ext_getElem?
  intro j
  by_cases hj : j < n * 4
  · have h := flatSl_at (List.replicate n zeroSl) (j / 4) (j % 4) (by simp; omega) (by omega)
    rw [show j / 4 * 4 + j % 4 = j by omega, List.getElem_replicate] at h
    rw [h]
    have hm := Nat.mod_lt j (show 0 < 4 by omega)
    rcases (show j % 4 = 0 ∨ j % 4 = 1 ∨ j % 4 = 2 ∨ j % 4 = 3 by omega) with hp | hp | hp | hp <;> simp [madeCells, hj, hp, encSl, zeroSl]
  · rw [List.getElem?_eq_none (by rw [Array.length_toList, size_madeCells]; omega), List.getElem?_eq_none (by rw [flatSl_len]; simp; omega)]

theorem copySl_at (zs : List Sl) (j : Nat) : (h : j < zs.length) → (copySl zs)[j]'(by rw [copySl_len]; omega) = zs[j] := by
  intro h
  simp [copySl, h]

theorem copySl_fill (zs : List Sl) (j : Nat) (h : zs.length ≤ j) : (h2 : j < (copySl zs).length) → (copySl zs)[j] = fillSl := by
  intro h2
  simp [copySl, h]

/-- A sling is stored in a row, cell by cell. -/
def setSl4 (w : World) (g o : Nat) (z : Sl) : World :=
  (((w.setCell ⟨g, o, none⟩ (.int .i64 z.g)).setCell ⟨g, o + 1, none⟩ (.int .i64 z.p)).setCell ⟨g, o + 2, none⟩ (.int .i64 z.r)).setCell ⟨g, o + 3, none⟩ (.int .i64 z.m)

theorem row_setSl4 {w : World} {base g n cap : Nat} {L : List Sl} (h : w.ownsRow base 31 4 (.slice (some ⟨g, 0, none⟩) n cap) n (flatSl L)) (j : Nat) (z : Sl) :
    (setSl4 w g (j * 4) z).ownsRow base 31 4 (.slice (some ⟨g, 0, none⟩) n cap) n (flatSl (L.set j z)) ∧ w.grownBy (setSl4 w g (j * 4) z) (some g) := by
  have h0 := h.stored (j * 4) (.int .i64 z.g)
  have h1 := h0.1.stored (j * 4 + 1) (.int .i64 z.p)
  have h2 := h1.1.stored (j * 4 + 2) (.int .i64 z.r)
  have h3 := h2.1.stored (j * 4 + 3) (.int .i64 z.m)
  rw [flatSl_set] at h3
  exact ⟨h3.1, grown_step h0.2 (grown_step h1.2 (grown_step h2.2 h3.2))⟩

theorem row_cellsSl {w : World} {base g n cap : Nat} {L : List Sl} (h : w.ownsRow base 31 4 (.slice (some ⟨g, 0, none⟩) n cap) n (flatSl L)) (j : Nat) (hj : j < n) :
    ∃ u0 u1 u2 u3, w.cell? ⟨g, j * 4, none⟩ = some u0 ∧ w.cell? ⟨g, j * 4 + 1, none⟩ = some u1 ∧ w.cell? ⟨g, j * 4 + 2, none⟩ = some u2 ∧ w.cell? ⟨g, j * 4 + 3, none⟩ = some u3 := by
  have hl : (flatSl L).length = n * 4 := h.1
  have at_ : ∀ o, o < n * 4 → ∃ u, w.cell? ⟨g, o, none⟩ = some u := fun o ho => ⟨_, by rw [h.cellAt o ho]; exact List.getElem?_eq_getElem (by omega)⟩
  obtain ⟨u0, h0⟩ := at_ (j * 4) (by omega)
  obtain ⟨u1, h1⟩ := at_ (j * 4 + 1) (by omega)
  obtain ⟨u2, h2⟩ := at_ (j * 4 + 2) (by omega)
  obtain ⟨u3, h3⟩ := at_ (j * 4 + 3) (by omega)
  exact ⟨u0, u1, u2, u3, h0, h1, h2, h3⟩

set_option maxHeartbeats 1000000 in
theorem toSls_row (v : Value) (zs : List Sl) (bare : Bool) (w : World) (h : RdSl w v zs) (hn : zs.length ≤ 1000000) (hbare : bare = false ∨ zs ≠ []) :
    Calls Try.prog 38 #[v, .bool bare] w fun e w' => ∃ v', e = .returned v' ∧ CopySl w' w.heap.size w'.heap.size v' zs ∧ Below w.heap.size w w' := by
  obtain ⟨A, c, rfl, hl, r1⟩ := RdSl_at h
  clear h
  have R := Lib.hid r1; clear r1
  have hN := copySl_len zs
  have hr := roomL_le zs.length
  have hmk : ∀ w : World, (Instr.makeSlice 24 (.int .i64 ((zs.length : Int) + (roomL zs.length : Int))) (.int .i64 ((zs.length : Int) + (roomL zs.length : Int)))).run Try.prog w = .ok (.slice (some ⟨w.heap.size, 0, none⟩) (copySl zs).length (copySl zs).length) (w.alloc (.cells (madeCells #[.int .i64 0, .int .i64 0, .int .i64 0, .int .i64 0] ((copySl zs).length * 4)) 31)) := by
    intro w
    have := make_slings (copySl zs).length (by omega) w
    rwa [show (((copySl zs).length : Nat) : Int) = (zs.length : Int) + (roomL zs.length : Int) by omega] at this
  have hcap : (copySl zs).length ≤ maxLen := by unfold maxLen; omega
  have hrow0 : ∀ wa : World, w.heap.size ≤ wa.heap.size → (wa.alloc (.cells (madeCells #[.int .i64 0, .int .i64 0, .int .i64 0, .int .i64 0] ((copySl zs).length * 4)) 31)).ownsRow w.heap.size 31 4 (.slice (some ⟨wa.heap.size, 0, none⟩) (copySl zs).length (copySl zs).length) (copySl zs).length (flatSl ((copySl zs).take 0 ++ List.replicate ((copySl zs).length - 0) zeroSl)) := by
    intro wa hwa
    have := World.ownsRow_lit wa (e := 31) (size := 4) (madeCells #[.int .i64 0, .int .i64 0, .int .i64 0, .int .i64 0] ((copySl zs).length * 4)) (copySl zs).length hwa hcap (size_madeCells _ _)
    rw [madeSl_flat] at this
    simpa using this
  have Hrow := Lib.hid hrow0; clear hrow0
  have hb0 : bare = true → ((zs.length : Int) == 0) = false := by
    intro hb
    have : zs.length ≠ 0 := fun h => by
      rcases hbare with h1 | h1
      · rw [hb] at h1; cases h1
      · exact h1 (List.eq_nil_of_length_eq_zero h)
    simpa using this
  clear hbare
  generalize hNN : (copySl zs).length = N at *
  have HNN := Lib.hid hNN; clear hNN
  have hNb : N ≤ 2000002 ∧ zs.length ≤ N := by omega
  have HN := Lib.hid hN; clear hN
  cases bare
  all_goals
    have hbn := hb0
    simp only [forall_const, reduceCtorEq, false_implies, Bool.false_eq_true] at hbn
    clear hb0
    go_enter Try.func38, Try.ntmps38
    go_wp2_with (go_at_call 71; refine (room_any _ (by omega) _).mono ?_; rintro e w1 ⟨rfl, rfl⟩)
    go_loopw [6] (fun i wr => ∃ j : Nat, j ≤ zs.length ∧ i = .int .i64 j ∧ wr.ownsRow w.heap.size 31 4 (.slice (some ⟨w.heap.size, 0, none⟩) N N) N (flatSl ((copySl zs).take j ++ List.replicate (N - j) zeroSl)) ∧ Below w.heap.size w wr) (fun i _ => zs.length - (intOf i).toNat)
    case atStart => exact ⟨0, by omega, rfl, Hrow.out w (Nat.le_refl _), by go_grown⟩
    case round =>
      obtain ⟨j, hj, rfl, hown, hb⟩ := hrel
      have hsz := hb.size
      by_cases hlt : j < zs.length
      · obtain ⟨b, off, rfl, q⟩ := R.out j hlt
        obtain ⟨hbl, c0, c1, c2, c3⟩ := SlAt_kept q hb
        clear q
        have hstep := fill_step (copySl zs) zeroSl j (by rw [HNN.out]; omega)
        rw [copySl_at zs j hlt, HNN.out] at hstep
        generalize zs[j] = z at *
        have Hstep := Lib.hid hstep; clear hstep
        go_wp2_with fail
        refine (toSl_any _ _ _ _ _).mono ?_
        rintro e w1 ⟨rfl, hb1⟩
        have hown1 := own_kept hown hb1
        obtain ⟨u0, u1, u2, u3, hu0, hu1, hu2, hu3⟩ := row_cellsSl hown1 j (by omega)
        have hz0 := hown1.frozenAt (j * 4)
        have hz1 := hown1.frozenAt (j * 4 + 1)
        have hz2 := hown1.frozenAt (j * 4 + 2)
        have hz3 := hown1.frozenAt (j * 4 + 3)
        have hs := row_setSl4 hown1 j z
        rw [Hstep.out] at hs
        unfold setSl4 at hs
        have Hs := Lib.hid hs.1
        have Hg := Lib.hid hs.2
        clear hs hown hown1
        go_wp2
        go_roundw
        case rel => exact ⟨j + 1, by omega, by go_num, Hs.out, grown_below (kept_trans hb hb1) Hg.out (fun g hg => by simp at hg; omega)⟩
        case measure => simp [intOf]; omega
      · have : j = zs.length := by omega
        subst this
        go_wp2_with fail
        go_loopw [7] (fun i wr => ∃ j : Nat, zs.length ≤ j ∧ j ≤ N ∧ i = .int .i64 j ∧ wr.ownsRow w.heap.size 31 4 (.slice (some ⟨w.heap.size, 0, none⟩) N N) N (flatSl ((copySl zs).take j ++ List.replicate (N - j) zeroSl)) ∧ Below w.heap.size w wr) (fun i _ => N - (intOf i).toNat)
        case atStart => exact ⟨zs.length, by omega, by omega, rfl, hown, hb⟩
        case round =>
          obtain ⟨j, hj0, hj, rfl, hown, hb⟩ := hrel
          have hsz := hb.size
          by_cases hlt : j < N
          · have hstep := fill_step (copySl zs) zeroSl j (by rw [HNN.out]; omega)
            rw [copySl_fill zs j hj0 (by rw [HNN.out]; omega), HNN.out] at hstep
            have Hstep := Lib.hid hstep; clear hstep
            go_wp2_with fail
            refine (fillSl_any _).mono ?_
            rintro e w1 ⟨rfl, hb1⟩
            have hown1 := own_kept hown hb1
            obtain ⟨u0, u1, u2, u3, hu0, hu1, hu2, hu3⟩ := row_cellsSl hown1 j (by omega)
            have hz0 := hown1.frozenAt (j * 4)
            have hz1 := hown1.frozenAt (j * 4 + 1)
            have hz2 := hown1.frozenAt (j * 4 + 2)
            have hz3 := hown1.frozenAt (j * 4 + 3)
            have hs := row_setSl4 hown1 j fillSl
            rw [Hstep.out] at hs
            unfold setSl4 at hs
            have Hs := Lib.hid hs.1
            have Hg := Lib.hid hs.2
            clear hs hown hown1
            go_wp2
            go_roundw
            case rel => exact ⟨j + 1, by omega, by omega, by go_num, Hs.out, grown_below (kept_trans hb hb1) Hg.out (fun g hg => by simp at hg; omega)⟩
            case measure => simp [intOf]; omega
          · have : j = N := by omega
            subst this
            have Hown := Lib.hid hown; clear hown
            go_wp2
            go_ret
            have hT : (copySl zs).take j ++ List.replicate (j - j) zeroSl = copySl zs := by rw [List.take_of_length_le (by rw [HNN.out]; exact Nat.le_refl _)]; simp
            refine ⟨_, rfl, ⟨hn, w.heap.size, by rw [HNN.out]; rfl, ?_⟩, hb⟩
            rw [HNN.out, ← hT]
            exact ⟨Hown.out, fun g hg => by simp [Value.ownBlock] at hg; subst hg; exact ⟨Nat.le_refl _, (Hown.out.lt _ rfl).2⟩⟩

theorem toSls_false (v : Value) (zs : List Sl) (w : World) (h : RdSl w v zs) (hn : zs.length ≤ 1000000) :
    Calls Try.prog 38 #[v, .bool false] w fun e w' => ∃ v', e = .returned v' ∧ CopySl w' w.heap.size w'.heap.size v' zs ∧ Below w.heap.size w w' := toSls_row v zs false w h hn (Or.inl rfl)

theorem toSls_true (v : Value) (zs : List Sl) (w : World) (h : RdSl w v zs) (hn : zs.length ≤ 1000000) :
    Calls Try.prog 38 #[v, .bool true] w fun e w' => ∃ v', e = .returned v' ∧ RdSl w' v' zs ∧ Below w.heap.size w w' := by
  by_cases hz : zs = []
  · subst hz
    obtain ⟨A, c, rfl, hl, _⟩ := RdSl_at h
    go_enter Try.func38, Try.ntmps38
    go_wp2
    go_ret
    exact ⟨_, rfl, RowF_rd (RowF_nil 31 4 _ 0 0), Below.refl _ _⟩
  · refine (toSls_row v zs true w h hn (Or.inr hz)).mono ?_
    rintro e w' ⟨v', rfl, hc, hb⟩
    exact ⟨v', rfl, CopySl_rd hc, hb⟩

theorem intactSls_same (v1 v2 : Value) (zs : List Sl) (lo1 hi1 lo2 hi2 : Nat) (w : World) (h1 : CopySl w lo1 hi1 v1 zs) (h2 : CopySl w lo2 hi2 v2 zs) :
    Calls Try.prog 40 #[v1, v2] w fun e w' => e = .returned (.bool true) ∧ Below w.heap.size w w' := by
  obtain ⟨hn, g1, rfl, r1⟩ := h1
  obtain ⟨_, g2, rfl, r2⟩ := h2
  have q1 : RdSl w _ (copySl zs) := RowF_rd r1
  have q2 : RdSl w _ (copySl zs) := RowF_rd r2
  clear r1 r2
  have hN := copySl_len zs
  have hr := roomL_le zs.length
  generalize hT : copySl zs = T at *
  clear hT
  have Q1 := Lib.hid q1; clear q1
  have Q2 := Lib.hid q2; clear q2
  generalize hTl : T.length = N at *
  have hN' : (zs.length : Int) + (roomL zs.length : Int) = (N : Int) := by omega
  have hcap : zs.length ≤ N := by omega
  clear hN
  go_enter Try.func40, Try.ntmps40
  go_wp2_with (go_at_call 71; refine (room_any _ (by omega) _).mono ?_; rintro e w1 ⟨rfl, rfl⟩)
  go_region_held3 (fun _ => True) (trivial)
    ((go_at_call 73; refine (eqSls_same _ _ T _ (by exact Q1.out) (by exact Q2.out)).mono ?_; rintro e w1 ⟨rfl, hb1⟩; replace hb1 := kept_trans (a := w) (by go_grown) hb1))
  go_wp2
  go_ret
  exact ⟨rfl, by assumption⟩

/-- Whether the sling with an index holds a weight with its force. -/
noncomputable def heldAt (zs : List Sl) (qs : List Int) (w : Int) (i : Nat) : Bool := match zs[i]?, qs[i]? with
  | some z, some q => holdsSl z w q
  | _, _ => false

def massAt (zs : List Sl) (i : Int) : Int := ((zs[i.toNat]?).map Sl.m).getD 0

/-- The first one of the lightest, of an index and further ones. -/
def pickL (ms : Int → Int) (b : Int) : List Int → Int
  | [] => b
  | i :: t => pickL ms (if ms i < ms b then i else b) t

def bestL (ms : Int → Int) : List Int → Int
  | [] => -1
  | i :: t => pickL ms i t

theorem pickL_snoc (ms : Int → Int) (k : Int) : ∀ (l : List Int) (b : Int), pickL ms b (l ++ [k]) = if ms k < ms (pickL ms b l) then k else pickL ms b l := by
  intro l
  induction l with
  | nil => intro b; rfl
  | cons i l ih => intro b; exact ih _

theorem bestL_snoc (ms : Int → Int) (l : List Int) (k : Int) : bestL ms (l ++ [k]) = if l = [] then k else if ms k < ms (bestL ms l) then k else bestL ms l := by
  cases l with
  | nil => rfl
  | cons i l =>
    rw [if_neg (by simp)]
    exact pickL_snoc ms k l i

theorem pickL_mem (ms : Int → Int) : ∀ (l : List Int) (b : Int), pickL ms b l = b ∨ pickL ms b l ∈ l := by
  intro l
  induction l with
  | nil => intro b; exact Or.inl rfl
  | cons i l ih =>
    intro b
    rcases ih (if ms i < ms b then i else b) with h | h
    · have e : pickL ms b (i :: l) = (if ms i < ms b then i else b) := h
      rw [e]
      split
      · exact Or.inr (by simp)
      · exact Or.inl rfl
    · exact Or.inr (List.mem_cons_of_mem _ h)

theorem bestL_mem (ms : Int → Int) (l : List Int) (h : l ≠ []) : bestL ms l ∈ l := by
  cases l with
  | nil => exact absurd rfl h
  | cons i l =>
    rcases pickL_mem ms l i with e | e
    · rw [show bestL ms (i :: l) = i from e]; simp
    · exact List.mem_cons_of_mem _ e

theorem idxsL_mem (p : Nat → Bool) (n : Nat) : ∀ i ∈ idxsL p n, ∃ k : Nat, i = (k : Int) ∧ k < n ∧ p k = true := by
  induction n with
  | zero => intro i hi; simp [idxsL] at hi
  | succ n ih =>
    intro i hi
    unfold idxsL at hi
    cases hp : p n
    · rw [hp] at hi
      obtain ⟨k, e, hk, hpk⟩ := ih i (by simpa using hi)
      exact ⟨k, e, by omega, hpk⟩
    · rw [hp] at hi
      simp only [if_true, List.mem_append, List.mem_singleton] at hi
      rcases hi with hi | hi
      · obtain ⟨k, e, hk, hpk⟩ := ih i hi
        exact ⟨k, e, by omega, hpk⟩
      · exact ⟨n, hi, by omega, hp⟩

/-- What ChooseSling returns. -/
noncomputable def chL (zs : List Sl) (qs : List Int) (w : Int) : Int × Int :=
  if zs.all okSl then (if inB w 0 50000 && qs.all (fun n => inB n 0 50000) && decide (qs.length = zs.length) then (if idxsL (heldAt zs qs w) zs.length = [] then (0, 3) else (bestL (massAt zs) (idxsL (heldAt zs qs w) zs.length), 0)) else (0, 2)) else (0, 1)

set_option maxRecDepth 100000 in
/-- Cells that read as a sling. -/
theorem open_slingC {H : Type} {enc : TypeId × Value → H} {W : World} {base fuel : Nat} {sp : Nat → Bool} {held : Bool} {cs : List Value} {z : DataW H × List MemPlace}
    (h : DataW.trod enc Try.prog W base sp held fuel 35 cs = some z) : ∃ k : Sl, cs = encSl k := by
  obtain ⟨xs, n, _, _, hl, hlen, hf⟩ := DataW.trod_struct Try.underlying35 h
  have hl4 : cs.length = 4 := hl.trans (by kernel_rfl)
  have h0 : DataW.trod enc Try.prog W base sp held n 2 ((cs.drop 0).take (Try.prog.cellsOf 2)) = xs[0]? := hf 0 _ rfl
  have h1 : DataW.trod enc Try.prog W base sp held n 2 ((cs.drop 1).take (Try.prog.cellsOf 2)) = xs[1]? := hf 1 _ rfl
  have h2 : DataW.trod enc Try.prog W base sp held n 2 ((cs.drop 2).take (Try.prog.cellsOf 2)) = xs[2]? := hf 2 _ rfl
  have h3 : DataW.trod enc Try.prog W base sp held n 2 ((cs.drop 3).take (Try.prog.cellsOf 2)) = xs[3]? := hf 3 _ rfl
  have z2 : Try.prog.cellsOf 2 = 1 := by kernel_rfl
  match cs, hl4 with
  | [c0, c1, c2, c3], _ =>
    have i0 : xs[0]? = some (xs[0]'(by rw [hlen]; decide)) := List.getElem?_eq_getElem _
    have i1 : xs[1]? = some (xs[1]'(by rw [hlen]; decide)) := List.getElem?_eq_getElem _
    have i2 : xs[2]? = some (xs[2]'(by rw [hlen]; decide)) := List.getElem?_eq_getElem _
    have i3 : xs[3]? = some (xs[3]'(by rw [hlen]; decide)) := List.getElem?_eq_getElem _
    simp only [i0, i1, i2, i3, z2, List.drop_succ_cons, List.drop_zero, List.take_succ_cons, List.take_zero] at h0 h1 h2 h3
    obtain ⟨a, e0, _, w0⟩ := DataW.trod_int Try.underlying2 h0
    obtain ⟨b, e1, _, w1⟩ := DataW.trod_int Try.underlying2 h1
    obtain ⟨d, e2, _, w2⟩ := DataW.trod_int Try.underlying2 h2
    obtain ⟨f, e3, _, w3⟩ := DataW.trod_int Try.underlying2 h3
    simp only [List.cons.injEq, and_true] at e0 e1 e2 e3
    subst e0 e1 e2 e3
    exact ⟨⟨a, b, d, f⟩, rfl⟩

set_option maxRecDepth 100000 in
/-- An argument that is a slice of slings. -/
theorem open_slings {H : Type} {enc : TypeId × Value → H} {W : World} {base : Nat} {v : Value} {d : DataW H} {p : List MemPlace}
    (hv : Value.okWide Try.prog W .any base 48 v) (h : DataW.Trod enc Try.prog W 0 (fun _ => true) true 48 v d p) :
    ∃ ks : List Sl, RdSl W v ks ∧ ks.length ≤ maxLen ∧ DataLen d ks.length := by
  obtain ⟨a1, len, cap, rfl⟩ := okWide_slice Try.underlying48 hv
  obtain ⟨fuel, hf⟩ := h
  rcases Deep.open_slice Try.underlying48 (show DataW.trod enc Try.prog W 0 (fun _ => true) true fuel 48 [.slice a1 len cap] = some (d, p) from by simpa [Value.cells] using hf) with ⟨hcs, hx⟩ | ⟨a, len', cap', m, n, D, Pl, hcs, _, hl, hm, hmm, hx, hi⟩
  · simp only [List.cons.injEq, and_true, Value.slice.injEq] at hcs
    obtain ⟨rfl, rfl, rfl⟩ := hcs
    exact ⟨[], ⟨by simp, rfl, none, 0, rfl, fun i hi => by simp at hi⟩, by simp, Or.inl ⟨congrArg Prod.fst hx, rfl⟩⟩
  · simp only [List.cons.injEq, and_true, Value.slice.injEq] at hcs
    obtain ⟨rfl, rfl, rfl⟩ := hcs
    simp only [if_true] at hmm
    have ce : Try.prog.cellsOf 35 = 4 := by kernel_rfl
    have each : ∀ i, i < len → ∃ q : Sl, W.cells? 0 (a.add (i * 4)) 4 = some (encSl q) := by
      intro i hlt
      obtain ⟨cs', g0, g1⟩ := hi i (by omega)
      obtain ⟨k, e⟩ := open_slingC g1
      rw [ce, e] at g0
      exact ⟨k, g0⟩
    have : Inhabited Sl := ⟨⟨0, 0, 0, 0⟩⟩
    obtain ⟨q, hq⟩ := Deep.choose_lt each
    obtain ⟨b, off, spot⟩ := a
    refine ⟨(List.range len).map q, ⟨by simp; unfold maxLen at hm; omega, by rw [flatSl_len], some ⟨b, off, spot⟩, cap, by simp, fun j hj => ?_⟩, by simp; omega, Or.inr ⟨_, _, congrArg Prod.fst hx, by simp⟩⟩
    simp only [List.length_map, List.length_range] at hj
    have hc := hq (j / 4) (by omega)
    obtain ⟨_, _, hcell⟩ := World.cells?_some hc
    have hspot : spot = none := by
      have hc0 := hq 0 (by omega)
      obtain ⟨_, _, hcell0⟩ := World.cells?_some hc0
      have := hcell0 0 (by omega)
      rw [show (encSl (q 0))[0]? = some (.int .i64 (q 0).g) from rfl] at this
      simpa [Addr.add] using World.cell?_spot this
    subst hspot
    have h4 := hcell (j % 4) (by omega)
    have hat := flatSl_at ((List.range len).map q) (j / 4) (j % 4) (by simp; omega) (by omega)
    simp only [List.getElem_map, List.getElem_range] at hat
    rw [add_plain, add_plain, ← hat, show j / 4 * 4 + j % 4 = j by omega, Nat.add_assoc, show j / 4 * 4 + j % 4 = j by omega] at h4
    refine ⟨b, off, rfl, ?_, h4⟩
    have hx : (flatSl ((List.range len).map q))[j]? = some ((flatSl ((List.range len).map q))[j]'(by rw [flatSl_len]; simp; omega)) := List.getElem?_eq_getElem _
    rw [hx] at h4
    exact World.block_lt_of_cell? _ _ h4

theorem rdI0' (w : World) : RdI w (.slice none 0 0) [] := ⟨by simp, none, 0, rfl, fun k hk => by simp at hk⟩

/-- A slice of numbers that came in, opened. -/
theorem open_i64s {H : Type} {enc : TypeId × Value → H} {P : Program} {W : World} {r : Reach} {b0 base : Nat} {t e : TypeId} {v : Value} {d : DataW H} {p : List MemPlace}
    (ht : P.underlying t = some (.slice e)) (he : P.underlying e = some (.int .i64)) (hc : P.cellsOf e = 1) (hv : Value.okWide P W r b0 t v) (hd : DataW.Trod enc P W base (fun _ => true) true t v d p) :
    ∃ zs : List Int, RdI W v zs ∧ zs.length ≤ maxLen ∧ DataLen d zs.length := by
  obtain ⟨A, n, c, rfl⟩ := okWide_slice ht hv
  obtain ⟨fuel, hf⟩ := hd
  rcases Deep.open_slice1 ht hc (show DataW.trod enc P W base (fun _ => true) true fuel t [.slice A n c] = some (d, p) from by simpa [Value.cells] using hf) with ⟨hcs, hx⟩ | ⟨a, len, cap, m, n', V, D, Pl, hcs, _, hl, hm, hmm, hx, hi⟩
  · simp only [List.cons.injEq, and_true, Value.slice.injEq] at hcs
    obtain ⟨rfl, rfl, rfl⟩ := hcs
    exact ⟨[], rdI0' W, by simp, Or.inl ⟨congrArg Prod.fst hx, rfl⟩⟩
  · simp only [List.cons.injEq, and_true, Value.slice.injEq] at hcs
    obtain ⟨rfl, rfl, rfl⟩ := hcs
    simp only [if_true] at hmm
    have each : ∀ i, i < n → ∃ q : Int, V i = .int .i64 q := by
      intro i hlt
      obtain ⟨_, g0⟩ := hi i (by omega)
      obtain ⟨x, e0, _, _⟩ := DataW.trod_int he g0
      simp at e0
      exact ⟨x, e0⟩
    obtain ⟨q, hq⟩ := Deep.choose_lt each
    obtain ⟨b, off, spot⟩ := a
    refine ⟨(List.range n).map q, ⟨by simp; unfold maxLen at hm; omega, some ⟨b, off, spot⟩, c, by simp, fun j hj => ?_⟩, by simp; omega, Or.inr ⟨_, _, congrArg Prod.fst hx, by simp⟩⟩
    simp only [List.length_map, List.length_range] at hj
    obtain ⟨h0, _⟩ := hi j (by omega)
    have hspot : spot = none := by simpa [Addr.add] using World.cell?_spot (hi 0 (by omega)).1
    subst hspot
    rw [add_plain, hq j hj] at h0
    exact ⟨b, off, rfl, World.block_lt_of_cell? _ _ h0, by rw [h0]; simp⟩

/-- A slice that was read is not too long. -/
theorem slice_reach {H : Type} {P : Program} {ts : List TypeId} {ds : List (DataW H)} {d : DataW H} {t e : TypeId} {n j : Nat} (h : (DataW.weightsEach P ts ds).all (· ≤ reachBytes) = true) (ht : ts[j]? = some t) (hd : ds[j]? = some d) (hu : P.underlying t = some (.slice e)) (hb : 1 ≤ P.bytesOf e) (hl : DataLen d n) : n ≤ 140737488351232 := by
  rcases hl with ⟨_, rfl⟩ | ⟨es, rs, rfl, rfl⟩
  · omega
  · have := sized_slice h ht hd hu
    unfold reachBytes at this
    have h2 := Nat.mul_le_mul_left (es.length + rs.length) hb
    omega

def fillI : Int := -7000000000000000101

def copyI (zs : List Int) : List Int := zs ++ List.replicate (roomL zs.length) fillI

theorem copyI_len (zs : List Int) : (copyI zs).length = zs.length + roomL zs.length := by simp [copyI]

theorem copyI_at (zs : List Int) (j : Nat) : (h : j < zs.length) → (copyI zs)[j]'(by rw [copyI_len]; omega) = zs[j] := by
  intro h
  simp [copyI, h]

theorem copyI_fill (zs : List Int) (j : Nat) (h : zs.length ≤ j) : (h2 : j < (copyI zs).length) → (copyI zs)[j] = fillI := by
  intro h2
  simp [copyI, h]

/-- A copy of a list of numbers that the law made. -/
def CopyI (w : World) (lo hi : Nat) (v : Value) (zs : List Int) : Prop :=
  zs.length ≤ 1000000 ∧ ∃ g, v = .slice (some ⟨g, 0, none⟩) zs.length (copyI zs).length ∧ RowI w lo hi (.slice (some ⟨g, 0, none⟩) (copyI zs).length (copyI zs).length) (copyI zs)

theorem CopyI_kept {W w1 : World} {lo hi : Nat} {v : Value} {zs : List Int} (h : CopyI W lo hi v zs) (hb : Below W.heap.size W w1) : CopyI w1 lo hi v zs := by
  obtain ⟨hl, g, e, hr⟩ := h
  exact ⟨hl, g, e, RowI_kept hr hb⟩

theorem CopyI_rd {w : World} {lo hi : Nat} {v : Value} {zs : List Int} (h : CopyI w lo hi v zs) : RdI w v zs := by
  obtain ⟨hl, g, rfl, hr⟩ := h
  obtain ⟨h1, A, c, e, h2⟩ := RowI_rd hr
  injection e with e1 e2 e3
  subst e1
  refine ⟨by omega, _, _, rfl, fun k hk => ?_⟩
  obtain ⟨b, off, e4, h3, h4⟩ := h2 k (by rw [copyI_len]; omega)
  refine ⟨b, off, e4, h3, ?_⟩
  rw [h4]
  simp [copyI, hk]

theorem make_i64s (n : Nat) (h : n ≤ 4000000) (w : World) :
    (Instr.makeSlice 25 (.int .i64 (n : Int)) (.int .i64 (n : Int))).run Try.prog w = .ok (.slice (some ⟨w.heap.size, 0, none⟩) n n) (w.alloc (.cells (madeCells #[.int .i64 0] (n * 1)) 2)) := by
  obtain ⟨i, hi, hz, hs, hb⟩ := info_parts info_int64
  have hb' : (i.bytes : Int) * (n : Int) ≤ 281474976710656 := by rw [hb]; omega
  have hr := run_make (P := Try.prog) w 25 2 i (.int .i64 0) Try.underlying25 hi hz .i64 .i64 n n (by omega) (Int.le_refl _) hb' (by omega)
  simp only [Int.toNat_natCast, hs] at hr
  exact hr

theorem madeI_flat (n : Nat) : (madeCells #[.int .i64 0] (n * 1)).toList = (List.replicate n (0 : Int)).map (Value.int .i64) := by
  apply List.ext_getElem?
  intro j
  by_cases hj : j < n
  · simp [madeCells, hj, Nat.mod_one]
  · rw [List.getElem?_eq_none (by rw [Array.length_toList, size_madeCells]; omega), List.getElem?_eq_none (by simp; omega)]

set_option maxHeartbeats 1000000 in
theorem toI_row (v : Value) (zs : List Int) (bare : Bool) (w : World) (h : RdI w v zs) (hn : zs.length ≤ 1000000) (hbare : bare = false ∨ zs ≠ []) :
    Calls Try.prog 39 #[v, .bool bare] w fun e w' => ∃ v', e = .returned v' ∧ CopyI w' w.heap.size w'.heap.size v' zs ∧ Below w.heap.size w w' := by
  obtain ⟨hl, A, c, rfl, r1⟩ := h
  have R := Lib.hid r1; clear r1
  have hN := copyI_len zs
  have hr := roomL_le zs.length
  have hmk : ∀ w : World, (Instr.makeSlice 25 (.int .i64 ((zs.length : Int) + (roomL zs.length : Int))) (.int .i64 ((zs.length : Int) + (roomL zs.length : Int)))).run Try.prog w = .ok (.slice (some ⟨w.heap.size, 0, none⟩) (copyI zs).length (copyI zs).length) (w.alloc (.cells (madeCells #[.int .i64 0] ((copyI zs).length * 1)) 2)) := by
    intro w
    have := make_i64s (copyI zs).length (by omega) w
    rwa [show (((copyI zs).length : Nat) : Int) = (zs.length : Int) + (roomL zs.length : Int) by omega] at this
  have hcap : (copyI zs).length ≤ maxLen := by unfold maxLen; omega
  have hrow0 : ∀ wa : World, w.heap.size ≤ wa.heap.size → (wa.alloc (.cells (madeCells #[.int .i64 0] ((copyI zs).length * 1)) 2)).ownsRow w.heap.size 2 1 (.slice (some ⟨wa.heap.size, 0, none⟩) (copyI zs).length (copyI zs).length) (copyI zs).length (((copyI zs).take 0 ++ List.replicate ((copyI zs).length - 0) 0).map (Value.int .i64)) := by
    intro wa hwa
    have := World.ownsRow_lit wa (e := 2) (size := 1) (madeCells #[.int .i64 0] ((copyI zs).length * 1)) (copyI zs).length hwa hcap (size_madeCells _ _)
    rw [madeI_flat] at this
    simpa using this
  have Hrow := Lib.hid hrow0; clear hrow0
  have hb0 : bare = true → ((zs.length : Int) == 0) = false := by
    intro hb
    have : zs.length ≠ 0 := fun h => by
      rcases hbare with h1 | h1
      · rw [hb] at h1; cases h1
      · exact h1 (List.eq_nil_of_length_eq_zero h)
    simpa using this
  clear hbare
  generalize hNN : (copyI zs).length = N at *
  have HNN := Lib.hid hNN; clear hNN
  have hNb : N ≤ 2000002 ∧ zs.length ≤ N := by omega
  have HN := Lib.hid hN; clear hN
  cases bare
  all_goals
    have hbn := hb0
    simp only [forall_const, reduceCtorEq, false_implies, Bool.false_eq_true] at hbn
    clear hb0
    go_enter Try.func39, Try.ntmps39
    go_wp2_with (go_at_call 71; refine (room_any _ (by omega) _).mono ?_; rintro e w1 ⟨rfl, rfl⟩)
    go_loopw [6] (fun i wr => ∃ j : Nat, j ≤ zs.length ∧ i = .int .i64 j ∧ wr.ownsRow w.heap.size 2 1 (.slice (some ⟨w.heap.size, 0, none⟩) N N) N (((copyI zs).take j ++ List.replicate (N - j) 0).map (Value.int .i64)) ∧ Below w.heap.size w wr) (fun i _ => zs.length - (intOf i).toNat)
    case atStart => exact ⟨0, by omega, rfl, by have := Hrow.out w (Nat.le_refl _); rw [Nat.mul_one] at this; exact this, by go_grown⟩
    case round =>
      obtain ⟨j, hj, rfl, hown, hb⟩ := hrel
      have hsz := hb.size
      by_cases hlt : j < zs.length
      · obtain ⟨b, off, rfl, hbl, hc0⟩ := R.out j hlt
        rw [← kept_cell hb b _ hbl] at hc0
        have hstep := fill_step (copyI zs) (0 : Int) j (by rw [HNN.out]; omega)
        rw [copyI_at zs j hlt, HNN.out] at hstep
        generalize zs[j] = z at *
        have hlen : (((copyI zs).take j ++ List.replicate (N - j) 0).map (Value.int .i64)).length = N * 1 := hown.1
        obtain ⟨u0, hu0⟩ : ∃ u, wr.cell? ⟨w.heap.size, j, none⟩ = some u := by
          rw [hown.cellAt _ (by omega)]
          exact ⟨_, List.getElem?_eq_getElem (by omega)⟩
        have hz0 := hown.frozenAt j
        have hs0 := hown.stored j (.int .i64 z)
        rw [← List.map_set, hstep] at hs0
        have Hs := Lib.hid hs0.1
        have Hg := Lib.hid hs0.2
        clear hs0 hstep hown hlen
        go_wp2
        go_roundw
        case rel => exact ⟨j + 1, by omega, by go_num, Hs.out, grown_below hb Hg.out (fun g hg => by simp at hg; omega)⟩
        case measure => simp [intOf]; omega
      · have : j = zs.length := by omega
        subst this
        go_wp2_with fail
        go_loopw [7] (fun i wr => ∃ j : Nat, zs.length ≤ j ∧ j ≤ N ∧ i = .int .i64 j ∧ wr.ownsRow w.heap.size 2 1 (.slice (some ⟨w.heap.size, 0, none⟩) N N) N (((copyI zs).take j ++ List.replicate (N - j) 0).map (Value.int .i64)) ∧ Below w.heap.size w wr) (fun i _ => N - (intOf i).toNat)
        case atStart => exact ⟨zs.length, by omega, by omega, rfl, hown, hb⟩
        case round =>
          obtain ⟨j, hj0, hj, rfl, hown, hb⟩ := hrel
          have hsz := hb.size
          by_cases hlt : j < N
          · have hstep := fill_step (copyI zs) (0 : Int) j (by rw [HNN.out]; omega)
            rw [copyI_fill zs j hj0 (by rw [HNN.out]; omega), HNN.out] at hstep
            have hlen : (((copyI zs).take j ++ List.replicate (N - j) 0).map (Value.int .i64)).length = N * 1 := hown.1
            obtain ⟨u0, hu0⟩ : ∃ u, wr.cell? ⟨w.heap.size, j, none⟩ = some u := by
              rw [hown.cellAt _ (by omega)]
              exact ⟨_, List.getElem?_eq_getElem (by omega)⟩
            have hz0 := hown.frozenAt j
            have hs0 := hown.stored j (.int .i64 fillI)
            rw [← List.map_set, hstep] at hs0
            have Hs := Lib.hid hs0.1
            have Hg := Lib.hid hs0.2
            clear hs0 hstep hown hlen
            go_wp2
            go_roundw
            case rel => exact ⟨j + 1, by omega, by omega, by go_num, Hs.out, grown_below hb Hg.out (fun g hg => by simp at hg; omega)⟩
            case measure => simp [intOf]; omega
          · have : j = N := by omega
            subst this
            have Hown := Lib.hid hown; clear hown
            go_wp2
            go_ret
            have hT : (copyI zs).take j ++ List.replicate (j - j) 0 = copyI zs := by rw [List.take_of_length_le (by rw [HNN.out]; exact Nat.le_refl _)]; simp
            refine ⟨_, rfl, ⟨hn, w.heap.size, by rw [HNN.out]; rfl, ?_⟩, hb⟩
            have hO := Hown.out
            rw [hT] at hO
            unfold RowI
            rw [HNN.out]
            exact ⟨hO, fun g hg => by simp [Value.ownBlock] at hg; subst hg; exact ⟨Nat.le_refl _, (hO.lt _ rfl).2⟩⟩

theorem toI_false (v : Value) (zs : List Int) (w : World) (h : RdI w v zs) (hn : zs.length ≤ 1000000) :
    Calls Try.prog 39 #[v, .bool false] w fun e w' => ∃ v', e = .returned v' ∧ CopyI w' w.heap.size w'.heap.size v' zs ∧ Below w.heap.size w w' := toI_row v zs false w h hn (Or.inl rfl)

theorem toI_true (v : Value) (zs : List Int) (w : World) (h : RdI w v zs) (hn : zs.length ≤ 1000000) :
    Calls Try.prog 39 #[v, .bool true] w fun e w' => ∃ v', e = .returned v' ∧ RdI w' v' zs ∧ Below w.heap.size w w' := by
  by_cases hz : zs = []
  · subst hz
    obtain ⟨hl, A, c, rfl, _⟩ := h
    go_enter Try.func39, Try.ntmps39
    go_wp2
    go_ret
    exact ⟨_, rfl, rdI0' _, Below.refl _ _⟩
  · refine (toI_row v zs true w h hn (Or.inr hz)).mono ?_
    rintro e w' ⟨v', rfl, hc, hb⟩
    exact ⟨v', rfl, CopyI_rd hc, hb⟩

theorem intactI_same (v1 v2 : Value) (zs : List Int) (lo1 hi1 lo2 hi2 : Nat) (w : World) (h1 : CopyI w lo1 hi1 v1 zs) (h2 : CopyI w lo2 hi2 v2 zs) :
    Calls Try.prog 41 #[v1, v2] w fun e w' => e = .returned (.bool true) ∧ Below w.heap.size w w' := by
  obtain ⟨hn, g1, rfl, r1⟩ := h1
  obtain ⟨_, g2, rfl, r2⟩ := h2
  have q1 : RdI w _ (copyI zs) := RowI_rd r1
  have q2 : RdI w _ (copyI zs) := RowI_rd r2
  clear r1 r2
  have hN := copyI_len zs
  have hr := roomL_le zs.length
  generalize hT : copyI zs = T at *
  clear hT
  have Q1 := Lib.hid q1; clear q1
  have Q2 := Lib.hid q2; clear q2
  generalize hTl : T.length = N at *
  have hN' : (zs.length : Int) + (roomL zs.length : Int) = (N : Int) := by omega
  have hcap : zs.length ≤ N := by omega
  clear hN
  go_enter Try.func41, Try.ntmps41
  go_wp2_with (go_at_call 71; refine (room_any _ (by omega) _).mono ?_; rintro e w1 ⟨rfl, rfl⟩)
  go_region_held3 (fun _ => True) (trivial)
    ((go_at_call 74; refine (eqInts_same _ _ T _ (by exact Q1.out) (by exact Q2.out)).mono ?_; rintro e w1 ⟨rfl, hb1⟩; replace hb1 := kept_trans (a := w) (by go_grown) hb1))
  go_wp2
  go_ret
  exact ⟨rfl, by assumption⟩

theorem specSlOk_any (b o : Nat) (z : Sl) (w : World) (h : SlAt w b o z) :
    Calls Try.prog 47 #[.pointer (some ⟨b, o, none⟩)] w fun e w' => e = .returned (.bool (okSl z)) ∧ w = w' := by
  obtain ⟨g, p, r, m⟩ := z
  obtain ⟨_, h0, h1, h2, h3⟩ := h
  unfold okSl slB
  dsimp only at *
  rcases four (inB g 1 4) (inB p 0 400) (inB r 1 400) (inB m 0 1000) with e | ⟨e0, e⟩ | ⟨e0, e1, e⟩ | ⟨e0, e1, e2, e⟩ | ⟨e0, e1, e2, e⟩
  case inr.inr.inr.inr =>
    by_cases hg : 1 < g
    · go_enter Try.func47, Try.ntmps47
      go_wp2_with (go_at_call 48; refine (in_any _ _ _ _).mono ?_; rintro e w1 ⟨rfl, rfl⟩)
      go_ret
      exact ⟨by simp [*], rfl⟩
    · by_cases hp : p = 0
      · go_enter Try.func47, Try.ntmps47
        go_wp2_with (go_at_call 48; refine (in_any _ _ _ _).mono ?_; rintro e w1 ⟨rfl, rfl⟩)
        go_ret
        exact ⟨by simp [*], rfl⟩
      · have hp1 : (p == 0) = false := by simpa using hp
        go_enter Try.func47, Try.ntmps47
        go_wp2_with (go_at_call 48; refine (in_any _ _ _ _).mono ?_; rintro e w1 ⟨rfl, rfl⟩)
        go_ret
        exact ⟨by simp [*], rfl⟩
  all_goals
    go_enter Try.func47, Try.ntmps47
    go_wp2_with (go_at_call 48; refine (in_any _ _ _ _).mono ?_; rintro e w1 ⟨rfl, rfl⟩)
    go_ret
    exact ⟨by simp [*], rfl⟩

theorem specSlSq_any (b o : Nat) (z : Sl) (w : World) (h : SlAt w b o z) (hv : okSl z = true) :
    Calls Try.prog 84 #[.pointer (some ⟨b, o, none⟩)] w fun e w' => e = .returned (.int .i64 (slSq z.p z.r)) ∧ ∃ n, w' = w.drewN n := by
  obtain ⟨hg, hp, hr, _⟩ := slB_bd hv
  obtain ⟨g, p, r, m⟩ := z
  obtain ⟨_, h0, h1, h2, h3⟩ := h
  dsimp only at *
  have hb := slSq_bd p r hp hr
  have q1 := mul_bd p p 400 400 hp hp
  have q2 := mul_bd (4 * r) r 1600 400 (by omega) (by omega)
  unfold slSq at *
  have w1 : IntKind.i64.wrap (p * p) = p * p := IntWalk.i64_in _ (by omega)
  have w2 : IntKind.i64.wrap (4 * r) = 4 * r := IntWalk.i64_in _ (by omega)
  have w3 : IntKind.i64.wrap (4 * r * r) = 4 * r * r := IntWalk.i64_in _ (by omega)
  have w4 : IntKind.i64.wrap (p * p + 4 * r * r) = p * p + 4 * r * r := IntWalk.i64_in _ (by omega)
  go_enter Try.func84, Try.ntmps84
  go_wp2_with fail
  go_quiet (fail)
  go_wp2
  go_ret
  exact ⟨rfl, _, rfl⟩

theorem specSlD_any (b o : Nat) (z : Sl) (w : World) (h : SlAt w b o z) (hv : okSl z = true) :
    Calls Try.prog 66 #[.pointer (some ⟨b, o, none⟩)] w fun e w' => e = .returned (.int .i64 (slD z.p z.r)) ∧ Below w.heap.size w w' := by
  have HQ := Lib.hid (specSlSq_any b o z w h hv)
  obtain ⟨hg, hp, hr, _⟩ := slB_bd hv
  have hb := slSq_bd z.p z.r hp hr
  unfold slD
  clear h hv
  generalize slSq z.p z.r = N at *
  have HR := Lib.hid (fun u => l02Root_any N u (by omega) (by omega))
  generalize rootL N = R at *
  go_enter Try.func66, Try.ntmps66
  go_wp2_with fail
  refine HQ.out.mono ?_
  rintro e w1 ⟨rfl, n1, rfl⟩
  go_wp2_with fail
  refine (HR.out _).mono ?_
  rintro e w2 ⟨rfl, rfl⟩
  go_wp2
  go_ret
  exact ⟨rfl, kept_drewN (Below.refl _ _) _⟩

theorem specBear_any (b o : Nat) (z : Sl) (w : World) (h : SlAt w b o z) :
    Calls Try.prog 86 #[.pointer (some ⟨b, o, none⟩)] w fun e w' => e = .returned (.int .i64 (bearL z.g)) ∧ w = w' := by
  obtain ⟨g, p, r, m⟩ := z
  obtain ⟨_, h0, h1, h2, h3⟩ := h
  unfold bearL
  dsimp only at *
  have HM := Lib.hid (fun u => min_any 3 g u)
  by_cases hg : 3 < g
  all_goals
    go_enter Try.func86, Try.ntmps86
    go_wp2_with fail
    refine (HM.out _).mono ?_
    rintro e w1 ⟨rfl, rfl⟩
    go_wp2
    go_ret
    exact ⟨by simp <;> omega, rfl⟩

set_option maxHeartbeats 1000000 in
theorem specSlF_any (b o : Nat) (z : Sl) (k : Int) (w : World) (h : SlAt w b o z) (hv : okSl z = true) (hk : 0 ≤ k ∧ k ≤ 50000) :
    Calls Try.prog 69 #[.pointer (some ⟨b, o, none⟩), .int .i64 k] w fun e w' => e = .returned (.agg #[.int .i64 (lowL (k * slD z.p z.r) (slE z.g z.r)).1, .int .i64 (lowL (k * slD z.p z.r) (slE z.g z.r)).2]) ∧ Below w.heap.size w w' := by
  have HD := Lib.hid (fun u (q : SlAt u b o z) => specSlD_any b o z u q hv)
  have HB := Lib.hid (fun u (q : SlAt u b o z) => specBear_any b o z u q)
  obtain ⟨hg, hp, hr, _⟩ := slB_bd hv
  have hD := slD_bd z.p z.r hp hr
  have hE := slE_bd z.g z.r hg hr
  have hBe := bearL_bd hg
  have hN := mul_bd k (slD z.p z.r) 50000 1200 hk (by omega)
  unfold slE at *
  generalize slD z.p z.r = D at *
  generalize bearL z.g = Be at *
  have HM := Lib.hid (fun u => specMake_any (k * D) (2 * Be * z.r) (by omega) (by omega) u)
  generalize lowL (k * D) (2 * Be * z.r) = Z at *
  obtain ⟨z0, z1⟩ := Z
  have w1 : IntKind.i64.wrap (k * D) = k * D := IntWalk.i64_in _ (by omega)
  have w2 : IntKind.i64.wrap (2 * Be) = 2 * Be := IntWalk.i64_in _ (by omega)
  have w3 : IntKind.i64.wrap (2 * Be * z.r) = 2 * Be * z.r := IntWalk.i64_in _ (by omega)
  have w4 : wrap64 (k * D) = k * D := IntWalk.wrap64_in _ (by omega)
  have w5 : wrap64 (2 * Be) = 2 * Be := IntWalk.wrap64_in _ (by omega)
  have w6 : wrap64 (2 * Be * z.r) = 2 * Be * z.r := IntWalk.wrap64_in _ (by omega)
  have H := Lib.hid h
  obtain ⟨hlt, h0, h1, h2, h3⟩ := h
  have hne : ¬ b = w.heap.size := by omega
  clear hv hp hg hE
  obtain ⟨g, p, r, m⟩ := z
  dsimp only at *
  go_enter Try.func69, Try.ntmps69
  go_wp2_with fail
  go_region_with (first
        | (go_at_call 66; refine (HD.out _ (SlAt_kept H.out (by first | (go_grown; done) | (refine kept_drewN ?_ _; go_grown; done) | (go_grown; refine kept_drewN ?_ _; go_grown)))).mono ?_; rintro e w1 ⟨rfl, hb1⟩; refine kept_at hb1 (w.heap.size) (by go_size) fun c1_0 z1_0 s1_0 => ?_; have b1 := kept_trans (a := w) (by first | (go_grown; done) | (refine kept_drewN ?_ _; go_grown; done) | (go_grown; refine kept_drewN ?_ _; go_grown)) hb1; have hcl := (kept_cell b1 b (o + 2) hlt).trans h2)
        | (go_at_call 86; refine (HB.out _ (SlAt_kept H.out (by first | (go_grown; done) | (refine kept_drewN ?_ _; go_grown; done) | (go_grown; refine kept_drewN ?_ _; go_grown)))).mono ?_; rintro e w2 ⟨rfl, rfl⟩)
        | (go_at_call 85; refine (HM.out _).mono ?_; rintro e w3 ⟨rfl, hb3⟩; refine kept_at hb3 (w.heap.size) (by go_size) fun c3_0 z3_0 s3_0 => ?_; have b3 := kept_trans (a := w) (by first | (go_grown; done) | (refine kept_drewN ?_ _; go_grown; done) | (go_grown; refine kept_drewN ?_ _; go_grown)) hb3))
  all_goals
    go_wp2
    (try simp only [Exit.inBlock, Exit.then])
    refine bodyPost_ret (v := .agg #[.int .i64 z0, .int .i64 z1]) ?_ rfl ⟨rfl, ?_⟩
    · rw [results_cell1 rfl]
      go_simp
    · exact (by first | (go_grown; done) | (refine kept_drewN ?_ _; go_grown; done) | (go_grown; refine kept_drewN ?_ _; go_grown))

theorem low_fr (n d : Int) (hn : 0 ≤ n ∧ n ≤ 60000000) (hd : 1 ≤ d ∧ d ≤ 2400) : (0 ≤ (lowL n d).1 ∧ (lowL n d).1 ≤ 60000000) ∧ (1 ≤ (lowL n d).2 ∧ (lowL n d).2 ≤ 2400) ∧ upL (lowL n d).1 (lowL n d).2 = upL n d := by
  have hu := up_low n d (by omega)
  have hN1 := tdiv_bd n (Nat.gcd n.natAbs d.natAbs) 60000000 (by omega)
  have hE1 := tdiv_bd d (Nat.gcd n.natAbs d.natAbs) 2400 (by omega)
  obtain ⟨c, hc, e1, e2⟩ := low_mul n d (by omega)
  have hpos : 0 < (lowL n d).2 := by
    rcases Int.lt_or_le 0 (lowL n d).2 with h | h
    · exact h
    · have := Int.mul_nonpos_of_nonpos_of_nonneg h (show (0 : Int) ≤ c by omega)
      omega
  have hnn : 0 ≤ (lowL n d).1 := by
    rcases Int.lt_or_le (lowL n d).1 0 with h | h
    · have := Int.mul_neg_of_neg_of_pos h hc
      omega
    · exact h
  exact ⟨⟨hnn, hN1.2⟩, ⟨by omega, hE1.2⟩, hu⟩

theorem specSlUp_any (b o : Nat) (z : Sl) (k : Int) (w : World) (h : SlAt w b o z) (hv : okSl z = true) (hk : 0 ≤ k ∧ k ≤ 50000) :
    Calls Try.prog 62 #[.pointer (some ⟨b, o, none⟩), .int .i64 k] w fun e w' => e = .returned (.int .i64 (slUp z.g z.p z.r k)) ∧ Below w.heap.size w w' := by
  have HF := fun u (q : SlAt u b o z) => specSlF_any b o z k u q hv hk
  obtain ⟨hg, hp, hr, _⟩ := slB_bd hv
  have hD := slD_bd z.p z.r hp hr
  have hE := slE_bd z.g z.r hg hr
  have hN := mul_bd k (slD z.p z.r) 50000 1200 hk (by omega)
  have hl := low_fr (k * slD z.p z.r) (slE z.g z.r) (by omega) (by omega)
  unfold slUp
  generalize upL (k * slD z.p z.r) (slE z.g z.r) = U at *
  generalize lowL (k * slD z.p z.r) (slE z.g z.r) = Z at *
  obtain ⟨z0, z1⟩ := Z
  dsimp only at *
  have HU := Lib.hid (fun u => specUp_any z0 z1 (by omega) (by omega) u)
  rw [hl.2.2] at HU
  have HF := Lib.hid HF
  have H := Lib.hid h; clear h hl hN hE hD hp hg hr hv
  go_enter Try.func62, Try.ntmps62
  go_wp2_with fail
  refine (HF.out _ (SlAt_kept H.out (by go_grown))).mono ?_
  rintro e w1 ⟨rfl, hb1⟩
  go_wp2_with fail
  refine (HU.out _).mono ?_
  rintro e w2 ⟨rfl, rfl⟩
  go_wp2
  go_ret
  exact ⟨rfl, kept_trans hb1 (by go_grown)⟩

theorem specSlK_any (b o : Nat) (z : Sl) (w : World) (h : SlAt w b o z) (hv : okSl z = true) :
    Calls Try.prog 61 #[.pointer (some ⟨b, o, none⟩)] w fun e w' => e = .returned (.int .i64 (slK z.g z.p z.r)) ∧ Below w.heap.size w w' := by
  obtain ⟨hg, hp, hr, _⟩ := slB_bd hv
  obtain ⟨g, p, r, m⟩ := z
  obtain ⟨_, h0, h1, h2, h3⟩ := h
  dsimp only at *
  clear hv
  have q1 := mul_bd p p 400 400 hp hp
  have q2 := mul_bd (12 * r) r 4800 400 (by omega) (by omega)
  have w1 : IntKind.i64.wrap (p * p) = p * p := IntWalk.i64_in _ (by omega)
  have w2 : IntKind.i64.wrap (12 * r) = 12 * r := IntWalk.i64_in _ (by omega)
  have w3 : IntKind.i64.wrap (12 * r * r) = 12 * r * r := IntWalk.i64_in _ (by omega)
  have w4 : IntKind.i64.wrap (2 * r) = 2 * r := IntWalk.i64_in _ (by omega)
  unfold slK
  by_cases h1g : g = 1
  · subst h1g
    go_enter Try.func61, Try.ntmps61
    go_wp2
    go_ret
    exact ⟨rfl, Below.refl _ _⟩
  have h1b : (g == 1) = false := by simpa using h1g
  rw [if_neg h1g]
  by_cases h2r : p ≤ 2 * r
  · have d2 : decide (p ≤ 2 * r) = true := by simpa using h2r
    rw [if_pos h2r]
    go_enter Try.func61, Try.ntmps61
    go_wp2_with fail
    go_quiet (fail)
    go_wp2
    go_ret
    exact ⟨rfl, kept_drewN (Below.refl _ _) _⟩
  have d2 : decide (p ≤ 2 * r) = false := by simpa using h2r
  rw [if_neg h2r]
  by_cases h3r : p * p ≤ 12 * r * r
  · have d3 : decide (p * p ≤ 12 * r * r) = true := by simpa using h3r
    rw [if_pos h3r]
    go_enter Try.func61, Try.ntmps61
    go_wp2_with fail
    go_quiet (fail)
    go_wp2_with fail
    go_quiet (fail)
    go_wp2
    go_ret
    exact ⟨rfl, kept_drewN (kept_drewN (Below.refl _ _) _) _⟩
  · have d3 : decide (p * p ≤ 12 * r * r) = false := by simpa using h3r
    rw [if_neg h3r]
    go_enter Try.func61, Try.ntmps61
    go_wp2_with fail
    go_quiet (fail)
    go_wp2_with fail
    go_quiet (fail)
    go_wp2
    go_ret
    exact ⟨rfl, kept_drewN (kept_drewN (Below.refl _ _) _) _⟩

theorem specSlH_any (b o : Nat) (z : Sl) (k q : Int) (w : World) (h : SlAt w b o z) (hv : okSl z = true) (hk : 0 ≤ k ∧ k ≤ 50000) :
    Calls Try.prog 49 #[.pointer (some ⟨b, o, none⟩), .int .i64 k, .int .i64 q] w fun e w' => e = .returned (.bool (holdsSl z k q)) ∧ Below w.heap.size w w' := by
  have HK := Lib.hid (specSlK_any b o z w h hv)
  have HU := Lib.hid (fun u (x : SlAt u b o z) => specSlUp_any b o z k u x hv hk)
  have H := Lib.hid h; clear h hv hk
  unfold holdsSl slHolds
  generalize slK z.g z.p z.r = K at *
  generalize slUp z.g z.p z.r k = U at *
  by_cases hK : K < 3
  · have d1 : decide (K < 3) = true := by simpa using hK
    go_enter Try.func49, Try.ntmps49
    go_wp2_with fail
    refine HK.out.mono ?_
    rintro e w1 ⟨rfl, hb1⟩
    go_wp2_with fail
    refine (HU.out _ (SlAt_kept H.out hb1)).mono ?_
    rintro e w2 ⟨rfl, hb2⟩
    go_wp2
    go_ret
    exact ⟨by simp [d1], kept_trans hb1 hb2⟩
  · have d1 : decide (K < 3) = false := by simpa using hK
    go_enter Try.func49, Try.ntmps49
    go_wp2_with fail
    refine HK.out.mono ?_
    rintro e w1 ⟨rfl, hb1⟩
    go_wp2
    go_ret
    exact ⟨by simp [d1], hb1⟩

set_option maxHeartbeats 1000000 in
theorem implSlV_any (g p r m : Int) (w : World) :
    Calls Try.prog 26 #[.agg #[.int .i64 g, .int .i64 p, .int .i64 r, .int .i64 m]] w fun e w' => e = .returned (.bool (slB g p r m)) ∧ Below w.heap.size w w' := by
  have e1 : slB g p r m = ([g].all (fun n => inB n 1 4) && [p].all (fun n => inB n 0 400) && (decide (1 < g) || decide (p = 0)) && [r].all (fun n => inB n 1 400) && [m].all (fun n => inB n 0 1000)) := by
    simp only [slB, List.all_cons, List.all_nil, Bool.and_true]
    cases inB g 1 4 <;> cases inB p 0 400 <;> cases inB r 1 400 <;> cases inB m 0 1000 <;> simp
  rw [e1]; clear e1
  have H0 := fun v u q => within_any 1 4 v [g] u q
  have H1 := fun v u q => within_any 0 400 v [p] u q
  have H2 := fun v u q => within_any 1 400 v [r] u q
  have H3 := fun v u q => within_any 0 1000 v [m] u q
  generalize [g].all (fun n => inB n 1 4) = p0 at *
  generalize [p].all (fun n => inB n 0 400) = p1 at *
  generalize [r].all (fun n => inB n 1 400) = p2 at *
  generalize [m].all (fun n => inB n 0 1000) = p3 at *
  cases p0
  case false =>
    have H0 := Lib.hid H0
    go_enter Try.func26, Try.ntmps26
    go_wp2_with fail
    refine (H0.out _ _ (rdI1 (by go_size) (by go_simp))).mono ?_
    rintro e w1 ⟨rfl, hb1⟩
    have b1 := kept_trans (a := w) (by go_grown) hb1
    go_wp2
    go_ret
    exact ⟨rfl, b1⟩
  cases p1
  case false =>
    have H0 := Lib.hid H0
    have H1 := Lib.hid H1
    go_enter Try.func26, Try.ntmps26
    go_wp2_with fail
    refine (H0.out _ _ (rdI1 (by go_size) (by go_simp))).mono ?_
    rintro e w1 ⟨rfl, hb1⟩
    refine kept_at hb1 w.heap.size (by go_size) fun c1_0 z1_0 s1_0 => ?_
    have b1 := kept_trans (a := w) (by go_grown) hb1
    go_wp2_with fail
    refine (H1.out _ _ (rdI1 (by go_size) (by go_simp))).mono ?_
    rintro e w2 ⟨rfl, hb2⟩
    have b2 := kept_trans (a := w) (by go_grown) hb2
    go_wp2
    go_ret
    exact ⟨rfl, b2⟩
  by_cases hc : 1 < g ∨ p = 0
  case neg =>
    have d0 : decide (1 < g) = false := by simp; omega
    have d1 : (p == 0) = false := by simp; omega
    have d2 : (decide (1 < g) || decide (p = 0)) = false := by simp; omega
    have d3 : ¬ 1 < g := by omega
    have d4 : ¬ p = 0 := by omega
    rw [d2]
    clear hc d2
    have H0 := Lib.hid H0
    have H1 := Lib.hid H1
    go_enter Try.func26, Try.ntmps26
    go_wp2_with fail
    refine (H0.out _ _ (rdI1 (by go_size) (by go_simp))).mono ?_
    rintro e w1 ⟨rfl, hb1⟩
    refine kept_at hb1 w.heap.size (by go_size) fun c1_0 z1_0 s1_0 => ?_
    have b1 := kept_trans (a := w) (by go_grown) hb1
    go_wp2_with fail
    refine (H1.out _ _ (rdI1 (by go_size) (by go_simp))).mono ?_
    rintro e w2 ⟨rfl, hb2⟩
    refine kept_at hb2 w.heap.size (by go_size) fun c2_0 z2_0 s2_0 => ?_
    have b2 := kept_trans (a := w) (by go_grown) hb2
    go_wp2
    go_ret
    exact ⟨by simp, b2⟩
  have d2 : (decide (1 < g) || decide (p = 0)) = true := by simp; omega
  rw [d2]
  clear d2
  have hc2 : (1 < g) ∨ (¬ 1 < g ∧ p = 0) := by omega
  clear hc
  cases p2
  case false =>
    rcases hc2 with hg | ⟨hg, hp⟩
    all_goals
      (try subst hp)
      have H0 := Lib.hid H0
      have H1 := Lib.hid H1
      have H2 := Lib.hid H2
      go_enter Try.func26, Try.ntmps26
      go_wp2_with fail
      refine (H0.out _ _ (rdI1 (by go_size) (by go_simp))).mono ?_
      rintro e w1 ⟨rfl, hb1⟩
      refine kept_at hb1 w.heap.size (by go_size) fun c1_0 z1_0 s1_0 => ?_
      have b1 := kept_trans (a := w) (by go_grown) hb1
      go_wp2_with fail
      refine (H1.out _ _ (rdI1 (by go_size) (by go_simp))).mono ?_
      rintro e w2 ⟨rfl, hb2⟩
      refine kept_at hb2 w.heap.size (by go_size) fun c2_0 z2_0 s2_0 => ?_
      have b2 := kept_trans (a := w) (by go_grown) hb2
      go_wp2_with fail
      refine (H2.out _ _ (rdI1 (by go_size) (by go_simp))).mono ?_
      rintro e w3 ⟨rfl, hb3⟩
      have b3 := kept_trans (a := w) (by go_grown) hb3
      go_wp2
      go_ret
      exact ⟨by simp, b3⟩
  case true =>
    rcases hc2 with hg | ⟨hg, hp⟩
    all_goals
      (try subst hp)
      have H0 := Lib.hid H0
      have H1 := Lib.hid H1
      have H2 := Lib.hid H2
      have H3 := Lib.hid H3
      go_enter Try.func26, Try.ntmps26
      go_wp2_with fail
      refine (H0.out _ _ (rdI1 (by go_size) (by go_simp))).mono ?_
      rintro e w1 ⟨rfl, hb1⟩
      refine kept_at hb1 w.heap.size (by go_size) fun c1_0 z1_0 s1_0 => ?_
      have b1 := kept_trans (a := w) (by go_grown) hb1
      go_wp2_with fail
      refine (H1.out _ _ (rdI1 (by go_size) (by go_simp))).mono ?_
      rintro e w2 ⟨rfl, hb2⟩
      refine kept_at hb2 w.heap.size (by go_size) fun c2_0 z2_0 s2_0 => ?_
      have b2 := kept_trans (a := w) (by go_grown) hb2
      go_wp2_with fail
      refine (H2.out _ _ (rdI1 (by go_size) (by go_simp))).mono ?_
      rintro e w3 ⟨rfl, hb3⟩
      refine kept_at hb3 w.heap.size (by go_size) fun c3_0 z3_0 s3_0 => ?_
      have b3 := kept_trans (a := w) (by go_grown) hb3
      go_wp2_with fail
      refine (H3.out _ _ (rdI1 (by go_size) (by go_simp))).mono ?_
      rintro e w4 ⟨rfl, hb4⟩
      have b4 := kept_trans (a := w) (by go_grown) hb4
      go_wp2
      go_ret
      exact ⟨by simp, b4⟩

set_option maxHeartbeats 1000000 in
theorem doubleLen_any (g p r m : Int) (hp : 0 ≤ p ∧ p ≤ 400) (hr : 1 ≤ r ∧ r ≤ 400) (w : World) :
    Calls Try.prog 68 #[.agg #[.int .i64 g, .int .i64 p, .int .i64 r, .int .i64 m]] w fun e w' => e = .returned (.int .i64 (slD p r)) ∧ Below w.heap.size w w' := by
  have hb := slSq_bd p r hp hr
  have q1 := mul_bd p p 400 400 hp hp
  have q2 := mul_bd (4 * r) r 1600 400 (by omega) (by omega)
  have hini : slSq p r < (p + 2 * r + 1) * (p + 2 * r + 1) := by
    have e : (p + 2 * r + 1) * (p + 2 * r + 1) = slSq p r + 4 * (p * r) + 2 * p + 4 * r + 1 := by unfold slSq; grind
    have := Int.mul_nonneg hp.1 (show 0 ≤ r by omega)
    omega
  have HN := Lib.hid (fun x => newton_end (slSq p r) x)
  unfold slD
  have eS : slSq p r = p * p + 4 * r * r := rfl
  have w1 : IntKind.i64.wrap (p * p) = p * p := IntWalk.i64_in _ (by omega)
  have w2 : IntKind.i64.wrap (4 * r) = 4 * r := IntWalk.i64_in _ (by omega)
  have w3 : IntKind.i64.wrap (4 * r * r) = 4 * r * r := IntWalk.i64_in _ (by omega)
  have w4 : IntKind.i64.wrap (p * p + 4 * r * r) = slSq p r := by rw [eS]; exact IntWalk.i64_in _ (by omega)
  have v1 : wrap64 (p * p) = p * p := IntWalk.wrap64_in _ (by omega)
  have v2 : wrap64 (4 * r) = 4 * r := IntWalk.wrap64_in _ (by omega)
  have v3 : wrap64 (4 * r * r) = 4 * r * r := IntWalk.wrap64_in _ (by omega)
  have v4 : wrap64 (p * p + 4 * r * r) = slSq p r := by rw [eS]; exact IntWalk.wrap64_in _ (by omega)
  clear eS
  generalize slSq p r = S at *
  generalize rootL S = D at *
  go_enter Try.func68, Try.ntmps68
  go_wp2_with fail
  clear w1 w2 w3 w4 v1 v2 v3 v4
  go_loopw [4] (fun i wr => ∃ x : Int, 0 ≤ x ∧ x ≤ 1200 ∧ i = .int .i64 x ∧ S < (x + 1) * (x + 1) ∧ Below w.heap.size w wr) (fun i _ => (intOf i).toNat)
  case atStart => exact ⟨p + 2 * r, by omega, by omega, rfl, hini, by go_grown⟩
  case round =>
    obtain ⟨x, h0, h1, rfl, h2, hb⟩ := hrel
    have hx := sq_bd x 1200 (by omega) h1
    have y1 : IntKind.i64.wrap (x * x) = x * x := IntWalk.i64_in _ (by omega)
    have y2 : wrap64 (x * x) = x * x := IntWalk.wrap64_in _ (by omega)
    by_cases hlt : S < x * x
    · have hx0 : 0 < x := by
        rcases Int.lt_or_le 0 x with h | h
        · exact h
        · have : x = 0 := by omega
          subst this
          omega
      have hne : ¬ x = 0 := by omega
      have hne1 : ¬ x = -1 := by omega
      have hneb : (x == 0) = false := by simpa using hne
      have hd1 : S.tdiv x = S / x := Int.tdiv_eq_ediv_of_nonneg (by omega)
      have hst := newton_step S x (by omega) hx0
      have hdn := newton_down S x (by omega) hx0 hlt
      have hq0 : 0 ≤ S / x := Int.ediv_nonneg (by omega) (by omega)
      have hqx : S / x < x := Int.ediv_lt_of_lt_mul hx0 hlt
      have HD1 := Lib.hid hd1; clear hd1
      have hw5 : IntKind.i64.wrap (S.tdiv x) = S / x := by rw [HD1.out]; exact IntWalk.i64_in _ (by omega)
      have hw6 : wrap64 (S.tdiv x) = S / x := by rw [HD1.out]; exact IntWalk.wrap64_in _ (by omega)
      generalize S / x = q at *
      have hd2 : (x + q).tdiv 2 = (x + q) / 2 := Int.tdiv_eq_ediv_of_nonneg (by omega)
      have HST := Lib.hid hst; clear hst
      go_wp2
      go_roundw
      case rel => exact ⟨(x + q) / 2, by omega, by omega, by simp [*, HD1.out] <;> omega, HST.out, hb⟩
      case measure => simp [intOf] <;> omega
    · have hE := HN.out x h0 h2 (by omega)
      by_cases hlt2 : x * x < S
      · rw [if_pos hlt2] at hE
        subst hE
        have y3 : IntKind.i64.wrap (x + 1) = x + 1 := IntWalk.i64_in _ (by omega)
        have y4 : wrap64 (x + 1) = x + 1 := IntWalk.wrap64_in _ (by omega)
        clear h2
        go_wp2
        go_ret
        exact ⟨rfl, hb⟩
      · rw [if_neg hlt2] at hE
        subst hE
        clear h2
        go_wp2
        go_ret
        exact ⟨rfl, hb⟩

/-- What depends on whether a sling has one leg or several. -/
def shapeL (g p r m : Int) : Value := if g = 1 then .iface 94 (.agg #[]) else .iface 96 (.agg #[.int .i64 g, .int .i64 p, .int .i64 r, .int .i64 m])

theorem rigged_any (g p r m : Int) (w : World) :
    Calls Try.prog 54 #[.agg #[.int .i64 g, .int .i64 p, .int .i64 r, .int .i64 m]] w fun e w' => e = .returned (.agg #[.int .i64 g, .int .i64 p, .int .i64 r, .int .i64 m, shapeL g p r m]) ∧ Below w.heap.size w w' := by
  unfold shapeL
  by_cases h : g = 1
  · rw [if_pos h]
    subst h
    go_enter Try.func54, Try.ntmps54
    go_wp2
    (try simp only [Exit.inBlock, Exit.then])
    refine bodyPost_ret (v := .agg #[.int .i64 1, .int .i64 p, .int .i64 r, .int .i64 m, .iface 94 (.agg #[])]) ?_ rfl ⟨rfl, ?_⟩
    · rw [results_cell1 rfl]
      go_simp
    · go_grown
  · rw [if_neg h]
    have hb : (g == 1) = false := by simpa using h
    go_enter Try.func54, Try.ntmps54
    go_wp2
    (try simp only [Exit.inBlock, Exit.then])
    refine bodyPost_ret (v := .agg #[.int .i64 g, .int .i64 p, .int .i64 r, .int .i64 m, .iface 96 (.agg #[.int .i64 g, .int .i64 p, .int .i64 r, .int .i64 m])]) ?_ rfl ⟨rfl, ?_⟩
    · rw [results_cell1 rfl]
      go_simp
    · go_grown

theorem plumbB_any (w : World) : Calls Try.prog 109 #[.agg #[]] w fun e w' => e = .returned (.int .i64 1) ∧ Below w.heap.size w w' := by
  go_enter Try.func109, Try.ntmps109
  go_wp2
  go_ret
  exact ⟨rfl, by go_grown⟩

theorem plumbK_any (w : World) : Calls Try.prog 110 #[.agg #[]] w fun e w' => e = .returned (.int .i64 0) ∧ Below w.heap.size w w' := by
  go_enter Try.func110, Try.ntmps110
  go_wp2
  go_ret
  exact ⟨rfl, by go_grown⟩

theorem spreadB_any (g p r m : Int) (w : World) : Calls Try.prog 111 #[.agg #[.int .i64 g, .int .i64 p, .int .i64 r, .int .i64 m]] w fun e w' => e = .returned (.int .i64 (bearL g)) ∧ Below w.heap.size w w' := by
  unfold bearL
  by_cases h : 3 < g
  · rw [if_pos h]
    go_enter Try.func111, Try.ntmps111
    go_wp2
    all_goals
      go_ret
      exact ⟨by simp <;> omega, by go_grown⟩
  · rw [if_neg h]
    go_enter Try.func111, Try.ntmps111
    go_wp2
    all_goals
      go_ret
      exact ⟨by simp <;> omega, by go_grown⟩

theorem spreadK_any (g p r m : Int) (hp : 0 ≤ p ∧ p ≤ 400) (hr : 1 ≤ r ∧ r ≤ 400) (hg : ¬ g = 1) (w : World) : Calls Try.prog 112 #[.agg #[.int .i64 g, .int .i64 p, .int .i64 r, .int .i64 m]] w fun e w' => e = .returned (.int .i64 (slK g p r)) ∧ Below w.heap.size w w' := by
  have q1 := mul_bd p p 400 400 hp hp
  have q2 := mul_bd (12 * r) r 4800 400 (by omega) (by omega)
  have w1 : IntKind.i64.wrap (p * p) = p * p := IntWalk.i64_in _ (by omega)
  have w2 : IntKind.i64.wrap (12 * r) = 12 * r := IntWalk.i64_in _ (by omega)
  have w3 : IntKind.i64.wrap (12 * r * r) = 12 * r * r := IntWalk.i64_in _ (by omega)
  have w4 : IntKind.i64.wrap (2 * r) = 2 * r := IntWalk.i64_in _ (by omega)
  have v1 : wrap64 (p * p) = p * p := IntWalk.wrap64_in _ (by omega)
  have v2 : wrap64 (12 * r) = 12 * r := IntWalk.wrap64_in _ (by omega)
  have v3 : wrap64 (12 * r * r) = 12 * r * r := IntWalk.wrap64_in _ (by omega)
  have v4 : wrap64 (2 * r) = 2 * r := IntWalk.wrap64_in _ (by omega)
  unfold slK
  rw [if_neg hg]
  clear hg
  by_cases h2 : p ≤ 2 * r
  · have d2 : decide (p ≤ 2 * r) = true := by simpa using h2
    rw [if_pos h2]
    go_enter Try.func112, Try.ntmps112
    go_wp2
    go_ret
    exact ⟨rfl, by go_grown⟩
  have d2 : decide (p ≤ 2 * r) = false := by simpa using h2
  rw [if_neg h2]
  by_cases h3 : p * p ≤ 12 * r * r
  · have d3 : decide (p * p ≤ 12 * r * r) = true := by simpa using h3
    rw [if_pos h3]
    go_enter Try.func112, Try.ntmps112
    go_wp2
    go_ret
    exact ⟨rfl, by go_grown⟩
  · have d3 : decide (p * p ≤ 12 * r * r) = false := by simpa using h3
    rw [if_neg h3]
    go_enter Try.func112, Try.ntmps112
    go_wp2
    go_ret
    exact ⟨rfl, by go_grown⟩

set_option maxHeartbeats 4000000 in
theorem force_any (g p r m : Int) (k : Int) (w : World) (hv : slB g p r m = true) (hk : 0 ≤ k ∧ k ≤ 50000) :
    Calls Try.prog 64 #[.agg #[.int .i64 g, .int .i64 p, .int .i64 r, .int .i64 m, shapeL g p r m], .int .i64 k] w fun e w' => e = .returned (.agg #[.int .i64 (k * slD p r), .int .i64 (slE g r)]) ∧ Below w.heap.size w w' := by
  obtain ⟨hg, hp, hr, _⟩ := slB_bd hv
  clear hv
  have HD := Lib.hid (fun u => doubleLen_any g p r m hp hr u)
  have hD := slD_bd p r hp hr
  have hN := mul_bd k (slD p r) 50000 1200 hk (by omega)
  generalize slD p r = D at *
  have w1 : IntKind.i64.wrap (k * D) = k * D := IntWalk.i64_in _ (by omega)
  have v1 : wrap64 (k * D) = k * D := IntWalk.wrap64_in _ (by omega)
  unfold slE shapeL
  by_cases h1 : g = 1
  · rw [if_pos h1]
    subst h1
    rw [show 2 * bearL 1 * r = 2 * r from rfl]
    have kw2 : IntKind.i64.wrap (2 * r) = 2 * r := IntWalk.i64_in _ (by omega)
    have v2 : wrap64 (2 * r) = 2 * r := IntWalk.wrap64_in _ (by omega)
    go_enter Try.func64, Try.ntmps64
    go_wp2_with fail
    first
      | go_region_held3 (fun w' => w'.cell? ⟨w.heap.size, 0, none⟩ = some (.int .i64 1) ∧ w'.cell? ⟨w.heap.size, 1, none⟩ = some (.int .i64 p) ∧ w'.cell? ⟨w.heap.size, 2, none⟩ = some (.int .i64 r) ∧ w'.cell? ⟨w.heap.size, 3, none⟩ = some (.int .i64 m) ∧ w'.cell? ⟨w.heap.size, 4, none⟩ = some (.iface 94 (.agg #[])))
          (first | go_keep | (simp [*]; done)) (first
          | (go_at_call 68; refine (HD.out _).mono ?_; rintro e w1 ⟨rfl, hb1⟩; refine kept_at hb1 (w.heap.size) (by go_size) fun c1_0 z1_0 s1_0 => ?_; refine kept_at hb1 (w.heap.size + 1) (by go_size) fun c1_1 z1_1 s1_1 => ?_; have b1 := kept_trans (a := w) (by first | (go_grown; done) | (refine kept_drewN ?_ _; go_grown; done) | (go_grown; refine kept_drewN ?_ _; go_grown)) hb1)
          | (go_at_call 109; refine (plumbB_any _).mono ?_; rintro e w2 ⟨rfl, hb2⟩; refine kept_at hb2 (w.heap.size) (by go_size) fun c2_0 z2_0 s2_0 => ?_; refine kept_at hb2 (w.heap.size + 1) (by go_size) fun c2_1 z2_1 s2_1 => ?_; have b2 := kept_trans (a := w) (by first | (go_grown; done) | (refine kept_drewN ?_ _; go_grown; done) | (go_grown; refine kept_drewN ?_ _; go_grown)) hb2))
      | fail
    all_goals
      go_wp2
      (try simp only [Exit.inBlock, Exit.then])
      refine bodyPost_ret (v := .agg #[.int .i64 (k * D), .int .i64 (2 * r)]) ?_ rfl ⟨rfl, ?_⟩
      · rw [results_cell1 rfl]
        go_simp
        first | done | (rw [show IntKind.i64.wrap 2 = 2 from rfl]; exact kw2)
      · exact (by first | (go_grown; done) | (refine kept_drewN ?_ _; go_grown; done) | (go_grown; refine kept_drewN ?_ _; go_grown))
  · rw [if_neg h1]
    have hB := bearL_bd hg
    have HB := Lib.hid (fun u => spreadB_any g p r m u)
    generalize bearL g = Be at *
    have q2 := mul_bd (2 * Be) r 6 400 (by omega) (by omega)
    have w2 : IntKind.i64.wrap (2 * Be) = 2 * Be := IntWalk.i64_in _ (by omega)
    have v2 : wrap64 (2 * Be) = 2 * Be := IntWalk.wrap64_in _ (by omega)
    have w3 : IntKind.i64.wrap (2 * Be * r) = 2 * Be * r := IntWalk.i64_in _ (by omega)
    have v3 : wrap64 (2 * Be * r) = 2 * Be * r := IntWalk.wrap64_in _ (by omega)
    go_enter Try.func64, Try.ntmps64
    go_wp2_with fail
    first
      | go_region_held3 (fun w' => w'.cell? ⟨w.heap.size, 0, none⟩ = some (.int .i64 g) ∧ w'.cell? ⟨w.heap.size, 1, none⟩ = some (.int .i64 p) ∧ w'.cell? ⟨w.heap.size, 2, none⟩ = some (.int .i64 r) ∧ w'.cell? ⟨w.heap.size, 3, none⟩ = some (.int .i64 m) ∧ w'.cell? ⟨w.heap.size, 4, none⟩ = some (.iface 96 (.agg #[.int .i64 g, .int .i64 p, .int .i64 r, .int .i64 m])))
          (first | go_keep | (simp [*]; done)) (first
          | (go_at_call 68; refine (HD.out _).mono ?_; rintro e w1 ⟨rfl, hb1⟩; refine kept_at hb1 (w.heap.size) (by go_size) fun c1_0 z1_0 s1_0 => ?_; refine kept_at hb1 (w.heap.size + 1) (by go_size) fun c1_1 z1_1 s1_1 => ?_; have b1 := kept_trans (a := w) (by first | (go_grown; done) | (refine kept_drewN ?_ _; go_grown; done) | (go_grown; refine kept_drewN ?_ _; go_grown)) hb1)
          | (go_at_call 111; refine (HB.out _).mono ?_; rintro e w2 ⟨rfl, hb2⟩; refine kept_at hb2 (w.heap.size) (by go_size) fun c2_0 z2_0 s2_0 => ?_; refine kept_at hb2 (w.heap.size + 1) (by go_size) fun c2_1 z2_1 s2_1 => ?_; have b2 := kept_trans (a := w) (by first | (go_grown; done) | (refine kept_drewN ?_ _; go_grown; done) | (go_grown; refine kept_drewN ?_ _; go_grown)) hb2))
      | fail
    all_goals
      go_wp2
      (try simp only [Exit.inBlock, Exit.then])
      refine bodyPost_ret (v := .agg #[.int .i64 (k * D), .int .i64 (2 * Be * r)]) ?_ rfl ⟨rfl, ?_⟩
      · rw [results_cell1 rfl]
        go_simp
      · exact (by first | (go_grown; done) | (refine kept_drewN ?_ _; go_grown; done) | (go_grown; refine kept_drewN ?_ _; go_grown))

theorem forceUp_any (g p r m : Int) (k : Int) (w : World) (hv : slB g p r m = true) (hk : 0 ≤ k ∧ k ≤ 50000) :
    Calls Try.prog 65 #[.agg #[.int .i64 g, .int .i64 p, .int .i64 r, .int .i64 m, shapeL g p r m], .int .i64 k] w fun e w' => e = .returned (.int .i64 (slUp g p r k)) ∧ Below w.heap.size w w' := by
  have HF := Lib.hid (fun u => force_any g p r m k u hv hk)
  obtain ⟨hg, hp, hr, _⟩ := slB_bd hv
  have hD := slD_bd p r hp hr
  have hE := slE_bd g r hg hr
  have hN := mul_bd k (slD p r) 50000 1200 hk (by omega)
  have HU := Lib.hid (fun u => implUp_any (k * slD p r) (slE g r) (by omega) (by omega) u)
  unfold slUp
  clear hv
  generalize upL (k * slD p r) (slE g r) = U at *
  generalize k * slD p r = X at *
  generalize slE g r = Y at *
  have hs : ∃ t v, shapeL g p r m = .iface t v := by unfold shapeL; split <;> exact ⟨_, _, rfl⟩
  obtain ⟨t, v, hs⟩ := hs
  rw [hs] at HF ⊢
  clear hs
  go_enter Try.func65, Try.ntmps65
  go_wp2_with fail
  refine (HF.out _).mono ?_
  rintro e w1 ⟨rfl, hb1⟩
  have b1 := kept_trans (a := w) (by go_grown) hb1
  go_wp2_with fail
  refine (HU.out _).mono ?_
  rintro e w2 ⟨rfl, rfl⟩
  go_wp2
  go_ret
  exact ⟨rfl, kept_trans b1 (by go_grown)⟩

theorem holds_any (g p r m : Int) (k q : Int) (w : World) (hv : slB g p r m = true) (hk : 0 ≤ k ∧ k ≤ 50000) :
    Calls Try.prog 55 #[.agg #[.int .i64 g, .int .i64 p, .int .i64 r, .int .i64 m, shapeL g p r m], .int .i64 k, .int .i64 q] w fun e w' => e = .returned (.bool (slHolds g p r k q)) ∧ Below w.heap.size w w' := by
  have hU := fun u => forceUp_any g p r m k u hv hk
  obtain ⟨hg, hp, hr, _⟩ := slB_bd hv
  clear hv hk
  unfold slHolds
  unfold shapeL at *
  by_cases h1 : g = 1
  · rw [if_pos h1] at hU ⊢
    have eK : slK g p r = 0 := by unfold slK; rw [if_pos h1]
    rw [eK]
    clear eK
    subst h1
    generalize slUp 1 p r k = U at *
    have HU := Lib.hid hU
    go_enter Try.func55, Try.ntmps55
    go_wp2_with fail
    refine (plumbK_any _).mono ?_
    rintro e w1 ⟨rfl, hb1⟩
    refine kept_at hb1 w.heap.size (by go_size) fun c1_0 z1_0 s1_0 => ?_
    have b1 := kept_trans (a := w) (by go_grown) hb1
    go_wp2_with fail
    refine (HU.out _).mono ?_
    rintro e w2 ⟨rfl, hb2⟩
    have b2 := kept_trans b1 hb2
    go_wp2
    go_ret
    exact ⟨by simp, b2⟩
  · rw [if_neg h1] at hU ⊢
    have HK := fun u => spreadK_any g p r m hp hr h1 u
    have hle := slK_le g p r
    generalize slK g p r = K at *
    generalize slUp g p r k = U at *
    have HK := Lib.hid HK
    have HU := Lib.hid hU
    by_cases hK : K = 3
    · subst hK
      go_enter Try.func55, Try.ntmps55
      go_wp2_with fail
      refine (HK.out _).mono ?_
      rintro e w1 ⟨rfl, hb1⟩
      have b1 := kept_trans (a := w) (by go_grown) hb1
      go_wp2
      go_ret
      exact ⟨by simp, b1⟩
    · have hKb : (K != 3) = true := by simpa using hK
      have hKc : (K == 3) = false := by simpa using hK
      have hlt : decide (K < 3) = true := by simp; omega
      rw [hlt]
      go_enter Try.func55, Try.ntmps55
      go_wp2_with fail
      refine (HK.out _).mono ?_
      rintro e w1 ⟨rfl, hb1⟩
      refine kept_at hb1 w.heap.size (by go_size) fun c1_0 z1_0 s1_0 => ?_
      have b1 := kept_trans (a := w) (by go_grown) hb1
      go_wp2_with fail
      refine (HU.out _).mono ?_
      rintro e w2 ⟨rfl, hb2⟩
      have b2 := kept_trans b1 hb2
      go_wp2
      go_ret
      exact ⟨by simp, b2⟩

theorem heldAt_is (zs : List Sl) (qs : List Int) (k : Int) (j : Nat) (h1 : j < zs.length) (h2 : j < qs.length) : heldAt zs qs k j = holdsSl zs[j] k qs[j] := by
  unfold heldAt
  rw [List.getElem?_eq_getElem h1, List.getElem?_eq_getElem h2]

theorem massAt_is (zs : List Sl) (j : Nat) (h : j < zs.length) : massAt zs (j : Int) = zs[j].m := by simp [massAt, h]

/-- A further index. -/
theorem best_step (ms : Int → Int) (p : Nat → Bool) (j : Nat) : bestL ms (idxsL p (j + 1)) = if p j then (if idxsL p j = [] then (j : Int) else if ms j < ms (bestL ms (idxsL p j)) then (j : Int) else bestL ms (idxsL p j)) else bestL ms (idxsL p j) := by
  rw [show idxsL p (j + 1) = if p j then idxsL p j ++ [(j : Int)] else idxsL p j from rfl]
  cases p j
  · rfl
  · simp only [if_true]
    exact bestL_snoc ms _ _

theorem best_bd (ms : Int → Int) (p : Nat → Bool) (j : Nat) : (idxsL p j = [] ∧ bestL ms (idxsL p j) = -1) ∨ (idxsL p j ≠ [] ∧ ∃ b : Nat, b < j ∧ bestL ms (idxsL p j) = (b : Int)) := by
  by_cases h : idxsL p j = []
  · exact Or.inl ⟨h, by rw [h]; rfl⟩
  · obtain ⟨b, e, hb, _⟩ := idxsL_mem _ _ _ (bestL_mem ms _ h)
    exact Or.inr ⟨h, b, hb, e⟩

theorem ch_bad {zs : List Sl} {qs : List Int} {k : Int} (j : Nat) (h : j < zs.length) (hb : okSl zs[j] = false) : chL zs qs k = (0, 1) := by
  unfold chL
  rw [if_neg]
  intro hall
  have := List.all_eq_true.1 hall _ (List.getElem_mem h)
  rw [hb] at this
  cases this

theorem ch_all {zs : List Sl} (h : ∀ i (hi : i < zs.length), okSl zs[i] = true) : zs.all okSl = true := List.all_eq_true.2 fun x hx => by
  obtain ⟨i, hi, rfl⟩ := List.mem_iff_getElem.1 hx
  exact h i hi

set_option maxHeartbeats 8000000 in
theorem specCh_any (vz vq : Value) (zs : List Sl) (qs : List Int) (k : Int) (w : World) (h : RdSl w vz zs) (hq : RdI w vq qs) (hn : zs.length ≤ 1000000) (hm : qs.length ≤ 1000000) :
    Calls Try.prog 15 #[vz, vq, .int .i64 k] w fun e w' => e = .returned (.tuple #[.int .i64 (chL zs qs k).1, .int .i64 (chL zs qs k).2]) ∧ Below w.heap.size w w' := by
  obtain ⟨A, c, rfl, _, r1⟩ := RdSl_at h
  obtain ⟨_, B, d, rfl, r2⟩ := hq
  clear h
  have R := Lib.hid r1; clear r1
  have Q := Lib.hid r2; clear r2
  have HBAD := Lib.hid (fun j hj hb => @ch_bad zs qs k j hj hb)
  have HALL := Lib.hid (@ch_all zs)
  have HCH : Hid (chL zs qs k = if zs.all okSl then (if inB k 0 50000 && qs.all (fun n => inB n 0 50000) && decide (qs.length = zs.length) then (if idxsL (heldAt zs qs k) zs.length = [] then (0, 3) else (bestL (massAt zs) (idxsL (heldAt zs qs k) zs.length), 0)) else (0, 2)) else (0, 1)) := Lib.hid rfl
  have HOK := Lib.hid (fun b o z u (x : SlAt u b o z) => specSlOk_any b o z u x)
  generalize chL zs qs k = C at *
  go_enter Try.func15, Try.ntmps15
  go_wp2_with fail
  go_loop [8] (fun i => ∃ j : Nat, j ≤ zs.length ∧ i = .int .i64 j ∧ ∀ i (hi : i < zs.length), i < j → okSl zs[i] = true) (fun i => zs.length - (intOf i).toNat)
  case atStart => exact ⟨0, by omega, rfl, fun i hi h => by omega⟩
  case round =>
    obtain ⟨j, hj, rfl, hall⟩ := hrel
    have HJ := Lib.hid hall; clear hall
    by_cases hlt : j < zs.length
    · obtain ⟨b, off, rfl, q⟩ := R.out j hlt
      have HO := HOK.out b (off + j * 4) zs[j] w q
      cases hz : okSl zs[j]
      · have hC := HBAD.out j hlt hz
        rw [hz] at HO
        have HO := Lib.hid HO
        subst hC
        clear q
        go_wp2_with fail
        refine HO.out.mono ?_
        rintro e w1 ⟨rfl, rfl⟩
        go_wp2
        go_ret2
        exact ⟨rfl, Below.refl _ _⟩
      · rw [hz] at HO
        have HO := Lib.hid HO
        have HNX : Hid (∀ i (hi : i < zs.length), i < j + 1 → okSl zs[i] = true) := Lib.hid fun i hi hij => by
          rcases Nat.lt_or_ge i j with h1 | h1
          · exact HJ.out i hi h1
          · obtain rfl : i = j := by omega
            exact hz
        clear q hz
        go_wp2_with fail
        refine HO.out.mono ?_
        rintro e w1 ⟨rfl, rfl⟩
        go_wp2
        go_round
        case rel => exact ⟨j + 1, by omega, by go_num, HNX.out⟩
        case measure => simp [intOf]; omega
    · have : j = zs.length := by omega
      subst this
      have hA := HALL.out (fun i hi => HJ.out i hi hi)
      have hC := HCH.out
      rw [if_pos hA] at hC
      clear HBAD HALL HCH HOK hlt
      cases hk : inB k 0 50000
      · rw [hk] at hC
        simp only [Bool.false_and, Bool.false_eq_true, if_false] at hC
        subst hC
        go_wp2_with fail
        refine (in_any _ _ _ _).mono ?_
        rintro e w1 ⟨rfl, rfl⟩
        rw [hk]
        go_wp2
        go_ret2
        exact ⟨rfl, Below.refl _ _⟩
      by_cases hl : qs.length = zs.length
      case neg =>
        have hlb : decide (qs.length = zs.length) = false := by simpa using hl
        rw [hlb] at hC
        simp only [Bool.and_false, Bool.false_eq_true, if_false] at hC
        subst hC
        have hlc : ((qs.length : Int) != (zs.length : Int)) = true := by rw [bne_iff_ne]; omega
        have hld : ¬ (qs.length : Int) = (zs.length : Int) := by omega
        have hle : ((qs.length : Int) == (zs.length : Int)) = false := by simp; omega
        clear hlb hl
        go_wp2_with fail
        refine (in_any _ _ _ _).mono ?_
        rintro e w1 ⟨rfl, rfl⟩
        rw [hk]
        go_wp2
        go_ret2
        exact ⟨rfl, Below.refl _ _⟩
      have hlb : decide (qs.length = zs.length) = true := by simpa using hl
      rw [hlb, hk] at hC
      simp only [Bool.and_true, Bool.true_and] at hC
      have HC := Lib.hid hC; clear hC hlb hA
      have hkb := inB_true hk
      have HST := Lib.hid (fun j => best_step (massAt zs) (heldAt zs qs k) j)
      have HBD := Lib.hid (fun j => best_bd (massAt zs) (heldAt zs qs k) j)
      have HHA := Lib.hid (fun j h1 h2 => heldAt_is zs qs k j h1 h2)
      have HMA := Lib.hid (fun j h1 => massAt_is zs j h1)
      have HHO := Lib.hid (fun b o z q u (x : SlAt u b o z) (v : okSl z = true) => specSlH_any b o z k q u x v hkb)
      have hqn : (qs.length : Int) = (zs.length : Int) := by omega
      generalize heldAt zs qs k = P at *
      generalize massAt zs = M at *
      go_wp2_with fail
      refine (in_any _ _ _ _).mono ?_
      rintro e w1 ⟨rfl, rfl⟩
      rw [hk]
      go_wp2_with fail
      go_loopw [9, 10] (fun b i wr => ∃ j : Nat, j ≤ zs.length ∧ i = .int .i64 j ∧ b = .int .i64 (bestL M (idxsL P j)) ∧ (∀ i (hi : i < qs.length), i < j → inB qs[i] 0 50000 = true) ∧ Below w.heap.size w wr) (fun _ i _ => zs.length - (intOf i).toNat)
      case atStart => exact ⟨0, by omega, rfl, rfl, fun i hi h => by omega, Below.refl _ _⟩
      case round =>
        obtain ⟨j, hj, rfl, rfl, hall, hb⟩ := hrel
        have HJ2 := Lib.hid hall; clear hall
        by_cases hlt : j < zs.length
        · have hltq : j < qs.length := by omega
          obtain ⟨b, off, rfl, q⟩ := R.out j hlt
          obtain ⟨b2, off2, rfl, hb2l, hqc⟩ := Q.out j hltq
          have hst := HST.out j
          have hha := HHA.out j hlt hltq
          have hma := HMA.out j hlt
          have hok := HJ.out j hlt hlt
          have q := SlAt_kept q hb
          rw [← kept_cell hb b2 _ hb2l] at hqc
          have HNX : Hid (inB qs[j] 0 50000 = true → ∀ i (hi : i < qs.length), i < j + 1 → inB qs[i] 0 50000 = true) := Lib.hid fun hz i hi hij => by
            rcases Nat.lt_or_ge i j with h1 | h1
            · exact HJ2.out i hi h1
            · obtain rfl : i = j := by omega
              exact hz
          have HRE : Hid (inB qs[j] 0 50000 = false → qs.all (fun n => inB n 0 50000) = false) := Lib.hid fun hz => by
            rw [List.all_eq_false]
            exact ⟨qs[j], List.getElem_mem hltq, by simp [hz]⟩
          generalize hqj : qs[j] = y at *
          generalize hzj : zs[j] = z at *
          clear hqj hzj
          have HHO2 := fun u x => HHO.out b (off + j * 4) z y u x hok
          cases hy : inB y 0 50000
          · have hA := HRE.out hy
            have hC := HC.out
            rw [hA] at hC
            simp only [Bool.false_eq_true, if_false] at hC
            subst hC
            clear hA q hst hha hma
            go_wp2_with fail
            refine (in_any _ _ _ _).mono ?_
            rintro e w1 ⟨rfl, rfl⟩
            rw [hy]
            go_wp2
            go_ret2
            exact ⟨rfl, hb⟩
          · have HN2 := Lib.hid (HNX.out hy)
            clear HNX HRE
            rw [← hha] at HHO2
            clear hha
            cases hp : P j
            case false =>
              rw [hp] at HHO2 hst
              simp only [Bool.false_eq_true, if_false] at hst
              have HS := Lib.hid hst; clear hst hma hp
              have HH := Lib.hid (fun u x => HHO2 u x); clear HHO2
              have Q1 := Lib.hid q; clear q
              go_wp2_with fail
              refine (in_any _ _ _ _).mono ?_
              rintro e w1 ⟨rfl, rfl⟩
              rw [hy]
              go_wp2_with fail
              have hqc2 : ∀ x : BelowBy wr, x.w.cell? ⟨b2, off2 + j, none⟩ = some (.int .i64 y) := fun x => by rw [kept_cell x.h b2 _ (Nat.lt_of_lt_of_le hb2l hb.size)]; exact hqc
              refine wp_region_below (by kernel_rfl) (by kernel_rfl) ?_
              repeat (go_big_quiet_step ((go_at_call 49; exact below_call (fun hbx => HH.out _ (SlAt_kept Q1.out hbx)))))
              refine wpQuiet_nil ?_
              intro _ hw'
              obtain ⟨⟨wq, hbq⟩, hwq⟩ := hw'
              subst hwq
              (try dsimp only)
              go_wp2
              go_roundw
              case rel => exact ⟨j + 1, by omega, by go_num, by rw [HS.out], HN2.out, kept_trans hb hbq⟩
              case measure => simp [intOf]; omega
            case true =>
              rw [hp] at HHO2 hst
              simp only [if_true] at hst
              have HH := Lib.hid (fun u x => HHO2 u x); clear HHO2
              have hbl2 : b2 < wr.heap.size := Nat.lt_of_lt_of_le hb2l hb.size
              have hqc2 : ∀ x : BelowBy wr, x.w.cell? ⟨b2, off2 + j, none⟩ = some (.int .i64 y) := fun x => by rw [kept_cell x.h b2 _ hbl2]; exact hqc
              rcases HBD.out j with ⟨e1, e2⟩ | ⟨e1, bb, hbb, e2⟩
              · rw [if_pos e1] at hst
                rw [e2]
                have HS := Lib.hid hst; clear hst hma hp e1 e2
                have Q1 := Lib.hid q; clear q
                go_wp2_with fail
                refine (in_any _ _ _ _).mono ?_
                rintro e w1 ⟨rfl, rfl⟩
                rw [hy]
                go_wp2_with fail
                refine wp_region_below (by kernel_rfl) (by kernel_rfl) ?_
                repeat (go_big_quiet_step ((go_at_call 49; exact below_call (fun hbx => HH.out _ (SlAt_kept Q1.out hbx)))))
                refine wpQuiet_nil ?_
                intro _ hw'
                obtain ⟨⟨wq, hbq⟩, hwq⟩ := hw'
                subst hwq
                (try dsimp only)
                go_wp2
                go_roundw
                case rel => exact ⟨j + 1, by omega, by go_num, by rw [HS.out], HN2.out, kept_trans hb hbq⟩
                case measure => simp [intOf]; omega
              · rw [if_neg e1, e2, hma, HMA.out bb (by omega)] at hst
                rw [e2]
                obtain ⟨b', off', e', qb⟩ := R.out bb (by omega)
                simp only [Option.some.injEq, Addr.mk.injEq, and_true] at e'
                obtain ⟨rfl, rfl⟩ := e'
                have qb := SlAt_kept qb hb
                have hbz : (bb : Int) < (zs.length : Int) := by omega
                generalize zs[bb] = zb at *
                have m1 : ∀ x : BelowBy wr, x.w.cell? ⟨b, off + j * 4 + 3, none⟩ = some (.int .i64 z.m) := fun x => by rw [kept_cell x.h b _ q.1]; exact q.2.2.2.2
                have m2 : ∀ x : BelowBy wr, x.w.cell? ⟨b, off + bb * 4 + 3, none⟩ = some (.int .i64 zb.m) := fun x => by rw [kept_cell x.h b _ qb.1]; exact qb.2.2.2.2
                have hneg : decide ((bb : Int) < 0) = false := by simp
                have hneg2 : ¬ (bb : Int) < 0 := by omega
                generalize z.m = mz at *
                generalize zb.m = mb at *
                have Q1 := Lib.hid q; clear q qb
                clear hp e1 e2 hma
                cases hcm : decide (mz < mb)
                all_goals
                  have hcn := hcm
                  simp only [decide_eq_false_iff_not, decide_eq_true_eq] at hcn
                  first | rw [if_neg hcn] at hst | rw [if_pos hcn] at hst
                  have HS := Lib.hid hst; clear hst hcn
                  go_wp2_with fail
                  refine (in_any _ _ _ _).mono ?_
                  rintro e w1 ⟨rfl, rfl⟩
                  rw [hy]
                  go_wp2_with fail
                  refine wp_region_below (by kernel_rfl) (by kernel_rfl) ?_
                  repeat (go_big_quiet_step ((go_at_call 49; exact below_call (fun hbx => HH.out _ (SlAt_kept Q1.out hbx)))))
                  refine wpQuiet_nil ?_
                  intro _ hw'
                  obtain ⟨⟨wq, hbq⟩, hwq⟩ := hw'
                  subst hwq
                  (try dsimp only)
                  go_wp2
                  go_roundw
                  case rel => exact ⟨j + 1, by omega, by go_num, by rw [HS.out], HN2.out, kept_trans hb hbq⟩
                  case measure => simp [intOf]; omega
        · have : j = zs.length := by omega
          subst this
          have hA : qs.all (fun n => inB n 0 50000) = true := List.all_eq_true.2 fun x hx => by
            obtain ⟨i, hi, rfl⟩ := List.mem_iff_getElem.1 hx
            exact HJ2.out i hi (by omega)
          have hC := HC.out
          rw [hA] at hC
          simp only [if_true] at hC
          rcases HBD.out zs.length with ⟨e1, e2⟩ | ⟨e1, bb, hbb, e2⟩
          · rw [if_pos e1] at hC
            rw [e2]
            subst hC
            clear e1 e2 hA
            go_wp2
            go_ret2
            exact ⟨rfl, hb⟩
          · rw [if_neg e1, e2] at hC
            rw [e2]
            subst hC
            clear e1 e2 hA
            have hneg : decide ((bb : Int) < 0) = false := by simp
            have hneg2 : ¬ (bb : Int) < 0 := by omega
            go_wp2
            go_ret2
            exact ⟨rfl, hb⟩

set_option maxRecDepth 100000 in
theorem indexFuncSl_any (v : Value) (zs : List Sl) (g : FuncId) (he : Enters Try.prog g) (cap : Array Value) (p : Sl → Bool) (w : World) (h : RdSl w v zs)
    (hf : ∀ z w1, Below w.heap.size w w1 → Calls Try.prog g (#[.agg #[.int .i64 z.g, .int .i64 z.p, .int .i64 z.r, .int .i64 z.m]] ++ cap) w1 fun e w2 => e = .returned (.bool (p z)) ∧ Below w1.heap.size w1 w2) :
    Calls Try.prog 78 #[v, .func (.func g) #[] cap] w fun e w' => e = .returned (.int .i64 (idxL p zs)) ∧ Below w.heap.size w w' := by
  obtain ⟨A, c, rfl, hl, r1⟩ := RdSl_at h
  clear h
  have R := Lib.hid r1; clear r1
  have Hf := Lib.hid hf; clear hf
  have HIS := Lib.hid (fun k (h : k < zs.length) => @idxL_is _ p zs k h)
  have HNO := Lib.hid (@idxL_none _ p zs)
  generalize idxL p zs = G at *
  go_enter Try.func78, Try.ntmps78
  go_wp2_with fail
  go_loopw [8] (fun i wr => ∃ k : Nat, k ≤ zs.length ∧ i = .int .i64 k ∧ (∀ j (hj : j < zs.length), j < k → p zs[j] = false) ∧ Below w.heap.size w wr) (fun i _ => zs.length - (intOf i).toNat)
  case atStart => exact ⟨0, by omega, rfl, fun j _ h => by omega, Below.refl _ _⟩
  case round =>
    obtain ⟨k, hk, rfl, hall, hb⟩ := hrel
    by_cases hlt : k < zs.length
    · obtain ⟨b, off, rfl, q⟩ := R.out k hlt
      obtain ⟨hbl, hc0, hc1, hc2, hc3⟩ := SlAt_kept q hb
      have hc := Hf.out zs[k] wr hb
      cases hp : p zs[k]
      · have hnx : ∀ j (hj : j < zs.length), j < k + 1 → p zs[j] = false := fun j hj hjk => by
          rcases Nat.lt_or_ge j k with h1 | h1
          · exact hall j hj h1
          · obtain rfl : j = k := by omega
            exact hp
        rw [hp] at hc
        have HNX := Lib.hid hnx; clear hnx hall hp
        have Hc := Lib.hid hc; clear hc
        generalize zs[k].g = x at *
        generalize zs[k].p = x2 at *
        generalize zs[k].r = y at *
        generalize zs[k].m = y2 at *
        go_wp2_with fail
        rw [he, Oper.upon_enter]
        refine Hc.out.mono ?_
        rintro e w1 ⟨rfl, hb1⟩
        go_wp2
        go_roundw
        case rel => exact ⟨k + 1, by omega, by go_num, HNX.out, kept_trans hb hb1⟩
        case measure => simp [intOf]; omega
      · have hE := HIS.out k hlt hp hall
        subst hE
        rw [hp] at hc
        have Hc := Lib.hid hc; clear hc hall hp
        generalize zs[k].g = x at *
        generalize zs[k].p = x2 at *
        generalize zs[k].r = y at *
        generalize zs[k].m = y2 at *
        go_wp2_with fail
        rw [he, Oper.upon_enter]
        refine Hc.out.mono ?_
        rintro e w1 ⟨rfl, hb1⟩
        go_wp2
        go_ret
        exact ⟨rfl, kept_trans hb hb1⟩
    · have : k = zs.length := by omega
      subst this
      have hE := HNO.out (fun j hj => hall j hj hj)
      clear hall
      subst hE
      go_wp2
      go_ret
      exact ⟨rfl, hb⟩

theorem containsFuncSl_any (v : Value) (zs : List Sl) (g : FuncId) (he : Enters Try.prog g) (cap : Array Value) (p : Sl → Bool) (w : World) (h : RdSl w v zs)
    (hf : ∀ z w1, Below w.heap.size w w1 → Calls Try.prog g (#[.agg #[.int .i64 z.g, .int .i64 z.p, .int .i64 z.r, .int .i64 z.m]] ++ cap) w1 fun e w2 => e = .returned (.bool (p z)) ∧ Below w1.heap.size w1 w2) :
    Calls Try.prog 50 #[v, .func (.func g) #[] cap] w fun e w' => e = .returned (.bool (zs.any p)) ∧ Below w.heap.size w w' := by
  have H := Lib.hid (indexFuncSl_any v zs g he cap p w h hf)
  obtain ⟨A, c, rfl, hl, r1⟩ := RdSl_at h
  clear h hf r1
  have hbd := idxL_bd p zs
  rw [← idxL_any]
  generalize idxL p zs = G at *
  go_enter Try.func50, Try.ntmps50
  go_wp2_with fail
  refine H.out.mono ?_
  rintro e w1 ⟨rfl, hb1⟩
  go_wp2
  go_ret
  exact ⟨rfl, hb1⟩

theorem badSl_any (z : Sl) (w : World) :
    Calls Try.prog 51 #[.agg #[.int .i64 z.g, .int .i64 z.p, .int .i64 z.r, .int .i64 z.m]] w fun e w' => e = .returned (.bool (!okSl z)) ∧ Below w.heap.size w w' := by
  have HV := Lib.hid (fun u => implSlV_any z.g z.p z.r z.m u)
  rw [show okSl z = slB z.g z.p z.r z.m from rfl]
  generalize slB z.g z.p z.r z.m = B at *
  obtain ⟨g, p, r, m⟩ := z
  dsimp only at *
  go_enter Try.func51, Try.ntmps51
  go_wp2_with fail
  refine (HV.out _).mono ?_
  rintro e w1 ⟨rfl, hb1⟩
  have b1 := kept_trans (a := w) (by go_grown) hb1
  go_wp2
  go_ret
  exact ⟨rfl, b1⟩

theorem lighter_any (bx : Nat) (A : Option Addr) (c : Nat) (zs : List Sl) (i k : Nat) (w : World) (h : RdSl w (.slice A zs.length c) zs) (hx : w.cell? ⟨bx, 0, none⟩ = some (.slice A zs.length c)) (hi : i < zs.length) (hk : k < zs.length) :
    Calls Try.prog 57 #[.int .i64 (i : Int), .int .i64 (k : Int), .pointer (some ⟨bx, 0, none⟩)] w fun e w' => e = .returned (.int .i64 (if zs[i].m < zs[k].m then -1 else if zs[k].m < zs[i].m then 1 else 0)) ∧ Below w.heap.size w w' := by
  obtain ⟨A', c', e, hl, r⟩ := RdSl_at h
  injection e with e1 _ e2
  subst e1
  subst e2
  clear h
  obtain ⟨b, off, rfl, _, _, _, _, m1⟩ := r i hi
  obtain ⟨b', off', e', _, _, _, _, m2⟩ := r k hk
  simp only [Option.some.injEq, Addr.mk.injEq, and_true] at e'
  obtain ⟨rfl, rfl⟩ := e'
  have hC := fun u => compare_any zs[i].m zs[k].m u
  generalize zs[i].m = x at *
  generalize zs[k].m = y at *
  generalize (if x < y then (-1 : Int) else if y < x then 1 else 0) = Z at *
  have HC := Lib.hid hC; clear hC r
  go_enter Try.func57, Try.ntmps57
  go_wp2_with fail
  go_quiet ((go_at_call 58; exact Calls.quiet_of_same ((HC.out _).mono fun e w' h => ⟨h.1, h.2.symm⟩)))
  go_wp2
  go_ret
  exact ⟨rfl, kept_drewN (Below.refl _ _) _⟩

set_option maxRecDepth 100000 in
theorem minFunc_any (v : Value) (ls : List Int) (g : FuncId) (he : Enters Try.prog g) (cap : Array Value) (ms : Int → Int) (w : World) (h : RdI w v ls) (h0 : 0 < ls.length)
    (hf : ∀ i ∈ ls, ∀ k ∈ ls, ∀ w1, Below w.heap.size w w1 → Calls Try.prog g (#[.int .i64 i, .int .i64 k] ++ cap) w1 fun e w2 => e = .returned (.int .i64 (if ms i < ms k then -1 else if ms k < ms i then 1 else 0)) ∧ Below w1.heap.size w1 w2) :
    Calls Try.prog 56 #[v, .func (.func g) #[] cap] w fun e w' => e = .returned (.int .i64 (bestL ms ls)) ∧ Below w.heap.size w w' := by
  obtain ⟨hl, A, c, rfl, r1⟩ := h
  have R := Lib.hid r1; clear r1
  have Hf := Lib.hid hf; clear hf
  have hb1 : bestL ms (ls.take 1) = ls[0] := by
    cases ls with
    | nil => simp at h0
    | cons a t => rfl
  have hst : ∀ k (hk : k < ls.length), 0 < k → bestL ms (ls.take (k + 1)) = if ms ls[k] < ms (bestL ms (ls.take k)) then ls[k] else bestL ms (ls.take k) := fun k hk hk0 => by
    rw [← List.take_append_getElem hk, bestL_snoc, if_neg (fun e => by have := congrArg List.length e; simp only [List.length_take, List.length_nil] at this; omega)]
  have hmem : ∀ k, 0 < k → k ≤ ls.length → bestL ms (ls.take k) ∈ ls := fun k hk hk2 => by
    refine List.mem_of_mem_take (bestL_mem ms (ls.take k) (fun e => ?_))
    have := congrArg List.length e
    simp only [List.length_take, List.length_nil] at this
    omega
  have hend : bestL ms (ls.take ls.length) = bestL ms ls := by rw [List.take_of_length_le (Nat.le_refl _)]
  have HB1 := Lib.hid hb1; clear hb1
  have HST := Lib.hid hst; clear hst
  have HMEM := Lib.hid hmem; clear hmem
  have HEND := Lib.hid hend; clear hend
  obtain ⟨b0, o0, rfl, hbl0, hc00⟩ := R.out 0 h0
  have hnz : ¬ (ls.length : Int) < 1 := by omega
  have hnd : decide ((ls.length : Int) < 1) = false := by simp; omega
  rw [show o0 + 0 = o0 from rfl] at hc00
  go_enter Try.func56, Try.ntmps56
  go_wp2_with fail
  go_loopw [5, 6] (fun q i wr => ∃ k : Nat, 0 < k ∧ k ≤ ls.length ∧ i = .int .i64 k ∧ q = .int .i64 (bestL ms (ls.take k)) ∧ Below w.heap.size w wr) (fun _ i _ => ls.length - (intOf i).toNat)
  case atStart => exact ⟨1, by omega, by omega, rfl, by rw [HB1.out], Below.refl _ _⟩
  case round =>
    obtain ⟨k, hk0, hk, rfl, rfl, hb⟩ := hrel
    by_cases hlt : k < ls.length
    · obtain ⟨b, off, e', hbl, hc⟩ := R.out k hlt
      simp only [Option.some.injEq, Addr.mk.injEq, and_true] at e'
      obtain ⟨rfl, rfl⟩ := e'
      rw [← kept_cell hb b0 _ hbl] at hc
      have hs := HST.out k hlt hk0
      have hF := Hf.out ls[k] (List.getElem_mem hlt) _ (HMEM.out k hk0 hk) wr hb
      generalize ls[k] = x at *
      generalize bestL ms (ls.take k) = y at *
      have HF := Lib.hid hF; clear hF
      by_cases hxy : ms x < ms y
      · rw [if_pos hxy] at hs HF
        have HS := Lib.hid hs; clear hs hxy
        go_wp2_with fail
        rw [he, Oper.upon_enter]
        refine HF.out.mono ?_
        rintro e w1 ⟨rfl, hb1⟩
        rw [← kept_cell hb1 b0 _ (Nat.lt_of_lt_of_le hbl hb.size)] at hc
        go_wp2
        go_roundw
        case rel => exact ⟨k + 1, by omega, by omega, by go_num, by rw [HS.out], kept_trans hb hb1⟩
        case measure => simp [intOf]; omega
      · rw [if_neg hxy] at hs HF
        have HS := Lib.hid hs; clear hs
        have hz : ¬ (if ms y < ms x then (1 : Int) else 0) < 0 := by split <;> omega
        have hz2 : decide ((if ms y < ms x then (1 : Int) else 0) < 0) = false := by simp only [decide_eq_false_iff_not]; exact hz
        clear hxy
        generalize (if ms y < ms x then (1 : Int) else 0) = cz at *
        go_wp2_with fail
        rw [he, Oper.upon_enter]
        refine HF.out.mono ?_
        rintro e w1 ⟨rfl, hb1⟩
        go_wp2
        go_roundw
        case rel => exact ⟨k + 1, by omega, by omega, by go_num, by rw [HS.out], kept_trans hb hb1⟩
        case measure => simp [intOf]; omega
    · have : k = ls.length := by omega
      subst this
      rw [HEND.out]
      go_wp2
      go_ret
      exact ⟨rfl, hb⟩

set_option maxHeartbeats 4000000 in
theorem implCh_any (vz vq : Value) (zs : List Sl) (qs : List Int) (k : Int) (w : World) (h : RdSl w vz zs) (hq : RdI w vq qs) (hn : zs.length ≤ 1000000) (hm : qs.length ≤ 1000000) :
    Calls Try.prog 16 #[vz, vq, .int .i64 k] w fun e w' => e = .returned (.tuple #[.int .i64 (chL zs qs k).1, .int .i64 (chL zs qs k).2]) ∧ Below w.heap.size w w' := by
  obtain ⟨A, c, rfl, _, r1⟩ := RdSl_at h
  have HF := fun u (x : RdSl u (.slice A zs.length c) zs) => containsFuncSl_any (.slice A zs.length c) zs 51 (enters_of Try.func51 (by kernel_rfl) rfl) #[] (fun z => !okSl z) u x (fun z w1 _ => badSl_any z w1)
  have HI := fun u (x : RdI u vq qs) => within_any 0 50000 vq qs u x
  obtain ⟨hql, B, d, rfl, r2⟩ := hq
  have HQ := Lib.hid (show RdI w (.slice B qs.length d) qs from ⟨hql, B, d, rfl, r2⟩)
  have HZ := Lib.hid h; clear h
  have hall : zs.all okSl = !(zs.any fun z => !okSl z) := by simp [List.any_eq_not_all_not]
  unfold chL
  rw [hall]
  cases hv : zs.any (fun z => !okSl z)
  case true =>
    rw [hv] at HF
    have HF := Lib.hid HF
    rw [if_neg (by simp)]
    clear hall hv
    go_enter Try.func16, Try.ntmps16
    go_wp2_with fail
    refine (HF.out _ (RdSl_kept HZ.out (by go_grown))).mono ?_
    rintro e w1 ⟨rfl, hb1⟩
    have b1 := kept_trans (a := w) (by go_grown) hb1
    go_wp2
    go_ret2
    exact ⟨rfl, b1⟩
  rw [hv] at HF hall
  have HF := Lib.hid HF
  rw [if_pos (by simp)]
  have hok : ∀ i (hi : i < zs.length), okSl zs[i] = true := fun i hi => List.all_eq_true.1 (by rw [hall]; rfl) _ (List.getElem_mem hi)
  clear hall hv
  cases hk : inB k 0 50000
  case false =>
    have HK := fun u => validLoad_any k u
    rw [hk] at HK
    have HK := Lib.hid HK
    rw [if_neg (by simp)]
    clear hok
    go_enter Try.func16, Try.ntmps16
    go_wp2_with fail
    refine (HF.out _ (RdSl_kept HZ.out (by go_grown))).mono ?_
    rintro e w1 ⟨rfl, hb1⟩
    refine kept_at hb1 w.heap.size (by go_size) fun c1_0 z1_0 s1_0 => ?_
    have b1 := kept_trans (a := w) (by go_grown) hb1
    go_wp2_with fail
    refine (HK.out _).mono ?_
    rintro e w2 ⟨rfl, hb2⟩
    go_wp2
    go_ret2
    exact ⟨rfl, kept_trans b1 hb2⟩
  have HK := fun u => validLoad_any k u
  rw [hk] at HK
  have HK := Lib.hid HK
  cases hqa : qs.all (fun n => inB n 0 50000)
  case false =>
    rw [hqa] at HI
    have HI := Lib.hid HI
    rw [if_neg (by simp)]
    clear hok
    go_enter Try.func16, Try.ntmps16
    go_wp2_with fail
    refine (HF.out _ (RdSl_kept HZ.out (by go_grown))).mono ?_
    rintro e w1 ⟨rfl, hb1⟩
    refine kept_at hb1 w.heap.size (by go_size) fun c1_0 z1_0 s1_0 => ?_
    have b1 := kept_trans (a := w) (by go_grown) hb1
    go_wp2_with fail
    refine (HK.out _).mono ?_
    rintro e w2 ⟨rfl, hb2⟩
    refine kept_at hb2 w.heap.size (by go_size) fun c2_0 z2_0 s2_0 => ?_
    have b2 := kept_trans b1 hb2
    go_wp2_with fail
    refine (HI.out _ (RdI_kept HQ.out b2)).mono ?_
    rintro e w3 ⟨rfl, hb3⟩
    go_wp2
    go_ret2
    exact ⟨rfl, kept_trans b2 hb3⟩
  rw [hqa] at HI
  have HI := Lib.hid HI
  by_cases hl : qs.length = zs.length
  case neg =>
    rw [if_neg (by simp [hl])]
    have hlc : ((qs.length : Int) != (zs.length : Int)) = true := by rw [bne_iff_ne]; omega
    have hld : ¬ (qs.length : Int) = (zs.length : Int) := by omega
    have hle : ((qs.length : Int) == (zs.length : Int)) = false := by simp; omega
    clear hok hl
    go_enter Try.func16, Try.ntmps16
    go_wp2_with fail
    refine (HF.out _ (RdSl_kept HZ.out (by go_grown))).mono ?_
    rintro e w1 ⟨rfl, hb1⟩
    refine kept_at hb1 w.heap.size (by go_size) fun c1_0 z1_0 s1_0 => ?_
    have b1 := kept_trans (a := w) (by go_grown) hb1
    go_wp2_with fail
    refine (HK.out _).mono ?_
    rintro e w2 ⟨rfl, hb2⟩
    refine kept_at hb2 w.heap.size (by go_size) fun c2_0 z2_0 s2_0 => ?_
    have b2 := kept_trans b1 hb2
    go_wp2_with fail
    refine (HI.out _ (RdI_kept HQ.out b2)).mono ?_
    rintro e w3 ⟨rfl, hb3⟩
    refine kept_at hb3 w.heap.size (by go_size) fun c3_0 z3_0 s3_0 => ?_
    go_wp2
    go_ret2
    exact ⟨rfl, kept_trans b2 hb3⟩
  rw [if_pos (by simp [hl])]
  rw [hl] at HI HQ
  have hkb := inB_true hk
  have HST := Lib.hid (fun j => show idxsL (heldAt zs qs k) (j + 1) = if heldAt zs qs k j then idxsL (heldAt zs qs k) j ++ [(j : Int)] else idxsL (heldAt zs qs k) j from rfl)
  have HLN := Lib.hid (fun j => idxsL_len (heldAt zs qs k) j)
  have HMM := Lib.hid (fun j => idxsL_mem (heldAt zs qs k) j)
  have hz0 : idxsL (heldAt zs qs k) 0 = [] := rfl
  have HHA := Lib.hid (fun j h1 h2 => heldAt_is zs qs k j h1 h2)
  have HLI := Lib.hid (fun bx i j u (x : RdSl u (.slice A zs.length c) zs) (y : u.cell? ⟨bx, 0, none⟩ = some (.slice A zs.length c)) (hi : i < zs.length) (hj : j < zs.length) => lighter_any bx A c zs i j u x y hi hj)
  have HMS := Lib.hid (fun i (hi : i < zs.length) => massAt_is zs i hi)
  have HRI := Lib.hid (fun (z : Sl) u => rigged_any z.g z.p z.r z.m u)
  have HHO := Lib.hid (fun (z : Sl) q u (v : okSl z = true) => holds_any z.g z.p z.r z.m k q u v hkb)
  have HMF := Lib.hid (fun v ls u bx (x : RdI u v ls) (y : 0 < ls.length) hf => minFunc_any v ls 57 (enters_of Try.func57 (by kernel_rfl) rfl) #[.pointer (some ⟨bx, 0, none⟩)] (massAt zs) u x y hf)
  have HOK := Lib.hid hok; clear hok
  have R := Lib.hid r1; clear r1
  have Q := Lib.hid r2; clear r2
  have hlz : (qs.length : Int) = (zs.length : Int) := by omega
  generalize heldAt zs qs k = P at *
  generalize massAt zs = M at *
  clear hqa hk
  obtain ⟨C, hC⟩ : ∃ C : Int × Int, C = if idxsL P zs.length = [] then (0, 3) else (bestL M (idxsL P zs.length), 0) := ⟨_, rfl⟩
  rw [← hC]
  have HC := Lib.hid hC; clear hC
  have hmf : ∀ (fn : Fn) (first cap : Array Value) (w : World), (Instr.makeFunc fn first cap).run Try.prog w = .ok (.func fn first cap) w := fun _ _ _ _ => rfl
  go_enter Try.func16, Try.ntmps16
  go_wp2_with fail
  refine (HF.out _ (RdSl_kept HZ.out (by go_grown))).mono ?_
  rintro e w1 ⟨rfl, hb1⟩
  refine kept_at hb1 w.heap.size (by go_size) fun c1_0 z1_0 s1_0 => ?_
  have b1 := kept_trans (a := w) (by go_grown) hb1
  go_wp2_with fail
  refine (HK.out _).mono ?_
  rintro e w2 ⟨rfl, hb2⟩
  refine kept_at hb2 w.heap.size (by go_size) fun c2_0 z2_0 s2_0 => ?_
  have b2 := kept_trans b1 hb2
  go_wp2_with fail
  refine (HI.out _ (RdI_kept HQ.out b2)).mono ?_
  rintro e w3 ⟨rfl, hb3⟩
  refine kept_at hb3 w.heap.size (by go_size) fun c3_0 z3_0 s3_0 => ?_
  have b3 := kept_trans b2 hb3
  have hbox : w3.cell? ⟨w.heap.size, 0, none⟩ = some (.slice A zs.length c) := by rw [c3_0, c2_0, c1_0]; simp
  clear c1_0 z1_0 c2_0 z2_0 c3_0 z3_0 HF HK HI
  go_wp2_with fail
  go_loopw [8, 32] (fun o i wr => ∃ j : Nat, j ≤ zs.length ∧ i = .int .i64 (j : Int) ∧ RowJ wr w3.heap.size wr.heap.size o (idxsL P j) ∧ Below w3.heap.size w3 wr) (fun _ i _ => zs.length - (intOf i).toNat)
  case atStart => exact ⟨0, by omega, rfl, by have := RowJ_new w3; rw [hz0]; exact this, by go_grown⟩
  case round =>
    obtain ⟨j, hj, rfl, hrow, hb⟩ := hrel
    have hbw : w.heap.size < w3.heap.size := World.block_lt_of_cell? _ _ hbox
    have hbw2 : w.heap.size < wr.heap.size := Nat.lt_of_lt_of_le hbw hb.size
    have hboxr : wr.cell? ⟨w.heap.size, 0, none⟩ = some (.slice A zs.length c) := by rw [kept_cell hb _ _ hbw]; exact hbox
    have hbf := kept_trans b3 hb
    by_cases hlt : j < zs.length
    · obtain ⟨b, off, rfl, q⟩ := R.out j hlt
      obtain ⟨b2, off2, rfl, hb2l, hqc⟩ := Q.out j (by omega)
      obtain ⟨hbl, e0, e1, e2, e3⟩ := SlAt_kept q hbf
      clear q
      rw [← kept_cell hbf b2 _ hb2l] at hqc
      have hha := HHA.out j hlt (by omega)
      have hst := HST.out j
      have hln := HLN.out j
      have hok := HOK.out j hlt
      have hHO := fun u => HHO.out zs[j] qs[j] u hok
      have hRI := fun u => HRI.out zs[j] u
      rw [show slHolds zs[j].g zs[j].p zs[j].r k qs[j] = holdsSl zs[j] k qs[j] from rfl, ← hha] at hHO
      clear hha hok
      generalize qs[j] = y at *
      generalize zs[j] = z at *
      obtain ⟨g, p, r, m⟩ := z
      dsimp only at *
      generalize shapeL g p r m = V at *
      generalize idxsL P j = ls at *
      have hbl2 : b2 < wr.heap.size := Nat.lt_of_lt_of_le hb2l hbf.size
      have ROW := Lib.hid hrow; clear hrow
      have HRI2 := Lib.hid hRI; clear hRI
      cases hp : P j
      case false =>
        rw [hp] at hHO hst
        simp only [Bool.false_eq_true, if_false, if_true] at hst
        have HS := Lib.hid hst; clear hst hp
        have HHO2 := Lib.hid hHO; clear hHO
        go_wp2_with fail
        have f0 : ∀ x : BelowBy (wr.alloc (.cells #[.int .i64 g, .int .i64 p, .int .i64 r, .int .i64 m] 31)), x.w.cell? ⟨wr.heap.size, 0, none⟩ = some (.int .i64 g) := fun x => by rw [kept_cell x.h _ _ (by simp)]; simp
        have f1 : ∀ x : BelowBy (wr.alloc (.cells #[.int .i64 g, .int .i64 p, .int .i64 r, .int .i64 m] 31)), x.w.cell? ⟨wr.heap.size, 1, none⟩ = some (.int .i64 p) := fun x => by rw [kept_cell x.h _ _ (by simp)]; simp
        have f2 : ∀ x : BelowBy (wr.alloc (.cells #[.int .i64 g, .int .i64 p, .int .i64 r, .int .i64 m] 31)), x.w.cell? ⟨wr.heap.size, 2, none⟩ = some (.int .i64 r) := fun x => by rw [kept_cell x.h _ _ (by simp)]; simp
        have f3 : ∀ x : BelowBy (wr.alloc (.cells #[.int .i64 g, .int .i64 p, .int .i64 r, .int .i64 m] 31)), x.w.cell? ⟨wr.heap.size, 3, none⟩ = some (.int .i64 m) := fun x => by rw [kept_cell x.h _ _ (by simp)]; simp
        have f4 : ∀ x : BelowBy (wr.alloc (.cells #[.int .i64 g, .int .i64 p, .int .i64 r, .int .i64 m] 31)), x.w.cell? ⟨b2, off2 + j, none⟩ = some (.int .i64 y) := fun x => by rw [kept_cell x.h _ _ (by simp; omega), World.cell?_alloc_past _ _ _ hbl2]; exact hqc
        refine wp_region_below (by kernel_rfl) (by kernel_rfl) ?_
        repeat (go_big_quiet_step ((first | (go_at_call 54; exact below_call (fun _ => HRI2.out _)) | (go_at_call 55; exact below_call (fun _ => HHO2.out _)))))
        refine wpQuiet_nil ?_
        intro _ hw'
        obtain ⟨⟨wq, hbq⟩, hwq⟩ := hw'
        subst hwq
        (try dsimp only)
        have b4 := kept_trans (a := wr) (by go_grown) hbq
        go_wp2
        go_roundw
        case rel => exact ⟨j + 1, by omega, by go_num, by rw [HS.out]; exact RowJ_lo (RowJ_kept ROW.out b4) (Nat.le_refl _) b4.size, kept_trans hb b4⟩
        case measure => simp [intOf]; omega
      case true =>
        rw [hp] at hHO hst
        simp only [Bool.false_eq_true, if_false, if_true] at hst
        have HS := Lib.hid hst; clear hst hp
        have HHO2 := Lib.hid hHO; clear hHO
        go_wp2_with fail
        have f0 : ∀ x : BelowBy (wr.alloc (.cells #[.int .i64 g, .int .i64 p, .int .i64 r, .int .i64 m] 31)), x.w.cell? ⟨wr.heap.size, 0, none⟩ = some (.int .i64 g) := fun x => by rw [kept_cell x.h _ _ (by simp)]; simp
        have f1 : ∀ x : BelowBy (wr.alloc (.cells #[.int .i64 g, .int .i64 p, .int .i64 r, .int .i64 m] 31)), x.w.cell? ⟨wr.heap.size, 1, none⟩ = some (.int .i64 p) := fun x => by rw [kept_cell x.h _ _ (by simp)]; simp
        have f2 : ∀ x : BelowBy (wr.alloc (.cells #[.int .i64 g, .int .i64 p, .int .i64 r, .int .i64 m] 31)), x.w.cell? ⟨wr.heap.size, 2, none⟩ = some (.int .i64 r) := fun x => by rw [kept_cell x.h _ _ (by simp)]; simp
        have f3 : ∀ x : BelowBy (wr.alloc (.cells #[.int .i64 g, .int .i64 p, .int .i64 r, .int .i64 m] 31)), x.w.cell? ⟨wr.heap.size, 3, none⟩ = some (.int .i64 m) := fun x => by rw [kept_cell x.h _ _ (by simp)]; simp
        have f4 : ∀ x : BelowBy (wr.alloc (.cells #[.int .i64 g, .int .i64 p, .int .i64 r, .int .i64 m] 31)), x.w.cell? ⟨b2, off2 + j, none⟩ = some (.int .i64 y) := fun x => by rw [kept_cell x.h _ _ (by simp; omega), World.cell?_alloc_past _ _ _ hbl2]; exact hqc
        refine wp_region_below (by kernel_rfl) (by kernel_rfl) ?_
        repeat (go_big_quiet_step ((first | (go_at_call 54; exact below_call (fun _ => HRI2.out _)) | (go_at_call 55; exact below_call (fun _ => HHO2.out _)))))
        refine wpQuiet_nil ?_
        intro _ hw'
        obtain ⟨⟨wq, hbq⟩, hwq⟩ := hw'
        subst hwq
        (try dsimp only)
        have b4 := kept_trans (a := wr) (by go_grown) hbq
        have hrow4 := RowJ_lo (RowJ_kept ROW.out b4) (Nat.le_refl _) b4.size
        have hb24 := kept_trans hb b4
        go_wp2_with (at_builtin; refine wp_appendJ rfl (.tmp 45) (.tmp 47) rfl _ _ _ _ rfl hrow4 rfl hb24 (Nat.le_refl _) hb24.size (by omega) ?_; intro v' w' hrow' hb' hs')
        go_roundw
        case rel => exact ⟨j + 1, by omega, by go_num, by rw [HS.out]; exact hrow', hb'⟩
        case measure => simp [intOf]; omega
    · have : j = zs.length := by omega
      subst this
      have hmm := HMM.out zs.length
      have hC := HC.out
      clear HC
      generalize idxsL P zs.length = ls at *
      have hrd : RdI wr _ ls := RowJ_rd hrow
      obtain ⟨hll, A3, c3, e3, _⟩ := hrd
      subst e3
      by_cases hls : ls = []
      · subst hls
        rw [if_pos rfl] at hC
        subst hC
        clear hmm hrow
        go_wp2
        go_ret2
        exact ⟨rfl, hbf⟩
      · rw [if_neg hls] at hC
        subst hC
        have h0 : 0 < ls.length := List.length_pos_iff.2 hls
        have hl0 : ((ls.length : Int) == 0) = false := by simp; omega
        have hl1 : ¬ (ls.length : Int) = 0 := by omega
        have hl2 : ¬ ls.length = 0 := by omega
        have hl3 : (ls.length == 0) = false := by simp; omega
        have HRD := Lib.hid (RowJ_rd hrow)
        clear hrow
        have hcall : ∀ i ∈ ls, ∀ k ∈ ls, ∀ w1, Below wr.heap.size wr w1 → Calls Try.prog 57 (#[.int .i64 i, .int .i64 k] ++ #[.pointer (some ⟨w.heap.size, 0, none⟩)]) w1 fun e w2 => e = .returned (.int .i64 (if M i < M k then -1 else if M k < M i then 1 else 0)) ∧ Below w1.heap.size w1 w2 := fun i hi i2 hi2 w1 hw1 => by
          obtain ⟨a, ea, ha, _⟩ := hmm i hi
          obtain ⟨a2, ea2, ha2, _⟩ := hmm i2 hi2
          subst ea
          subst ea2
          have := HLI.out w.heap.size a a2 w1 (RdSl_kept HZ.out (kept_trans hbf hw1)) (by rw [kept_cell hw1 _ _ hbw2]; exact hboxr) ha ha2
          rw [← HMS.out a ha, ← HMS.out a2 ha2] at this
          exact this
        have HCA := Lib.hid (HMF.out _ ls wr w.heap.size HRD.out h0 hcall)
        clear hcall hmm
        go_wp2_with fail
        refine HCA.out.mono ?_
        rintro e w5 ⟨rfl, hb5⟩
        go_wp2
        go_ret2
        exact ⟨rfl, kept_trans hbf hb5⟩

-- needs slice_reach open_slings open_i64s
set_option maxHeartbeats 4000000 in
theorem walk_FnExactChooseSling (w : World) (vz : Value) (zs : List Sl) (hz : RdSl w vz zs) (vq : Value) (qs : List Int) (hq : RdI w vq qs) (k : Int) (wk : (Lit.int .i64 k).wf = true) (wfz : zs.length ≤ 140737488351232) (wfq : qs.length ≤ 140737488351232) :
    Calls Try.prog 12 #[vz, vq, .int .i64 k] w fun e w' => e = .returned (.bool true) ∧ Below w.heap.size w w' := by
  obtain ⟨A, c, rfl, _, _⟩ := RdSl_at hz
  obtain ⟨B, d, rfl⟩ : ∃ B d, vq = .slice B qs.length d := by obtain ⟨_, B, d, e, _⟩ := hq; exact ⟨B, d, e⟩
  have HZ := Lib.hid hz; clear hz
  have HQ := Lib.hid hq; clear hq
  have kw1 : IntKind.i64.wrap (1000000 - (qs.length : Int)) = 1000000 - qs.length := IntWalk.i64_in _ (by omega)
  have kw2 : wrap64 (1000000 - (qs.length : Int)) = 1000000 - qs.length := IntWalk.wrap64_in _ (by omega)
  have HSZ := fun u => szSl_any A zs.length c (1000000 - qs.length) (by constructor <;> omega) (by omega) u
  by_cases hfit : (zs.length : Int) ≤ 1000000 - qs.length
  case neg =>
    rw [if_neg hfit] at HSZ
    have HSZ := Lib.hid HSZ
    clear hfit
    go_enter Try.func12, Try.ntmps12
    go_wp2_with fail
    refine (HSZ.out _).mono ?_
    rintro e w1 ⟨rfl, rfl⟩
    go_wp2
    go_ret
    exact ⟨rfl, Below.refl _ _⟩
  rw [if_pos hfit] at HSZ
  have HSZ := Lib.hid HSZ
  have hn1 : zs.length ≤ 1000000 := by omega
  have hm1 : qs.length ≤ 1000000 := by omega
  have hge : ¬ (1000000 - (qs.length : Int) - zs.length) < 0 := by omega
  have HF := Lib.hid (fun u (x : RdSl u (.slice A zs.length c) zs) => toSls_false _ zs u x hn1)
  have HT := Lib.hid (fun u (x : RdSl u (.slice A zs.length c) zs) => toSls_true _ zs u x hn1)
  have GF := Lib.hid (fun u (x : RdI u (.slice B qs.length d) qs) => toI_false _ qs u x hm1)
  have GT := Lib.hid (fun u (x : RdI u (.slice B qs.length d) qs) => toI_true _ qs u x hm1)
  have hS := fun v1 v2 u x y => specCh_any v1 v2 zs qs k u x y hn1 hm1
  have hI := fun v1 v2 u x y => implCh_any v1 v2 zs qs k u x y hn1 hm1
  have HX := Lib.hid (fun v1 v2 lo1 hi1 lo2 hi2 u x y => intactSls_same v1 v2 zs lo1 hi1 lo2 hi2 u x y)
  have GX := Lib.hid (fun v1 v2 lo1 hi1 lo2 hi2 u x y => intactI_same v1 v2 qs lo1 hi1 lo2 hi2 u x y)
  generalize chL zs qs k = C at *
  obtain ⟨ca, cb⟩ := C
  dsimp only at hS hI
  have HS := Lib.hid hS; clear hS
  have HI := Lib.hid hI; clear hI
  clear hfit
  go_enter Try.func12, Try.ntmps12
  go_wp2_with fail
  refine (HSZ.out _).mono ?_
  rintro e w1 ⟨rfl, rfl⟩
  go_wp2_with fail
  refine (HF.out _ HZ.out).mono ?_
  rintro e w1 ⟨v1, rfl, h1, b1⟩
  go_wp2_with fail
  refine (GF.out _ (RdI_kept HQ.out b1)).mono ?_
  rintro e w2 ⟨v2, rfl, h2, hb2⟩
  have b2 := kept_trans b1 hb2
  go_wp2_with fail
  refine (HS.out _ _ _ (RdSl_kept (CopySl_rd h1) hb2) (CopyI_rd h2)).mono ?_
  rintro e w3 ⟨rfl, hb3⟩
  have b3 := kept_trans b2 hb3
  clear h1 h2
  go_wp2_with fail
  refine (HF.out _ (RdSl_kept HZ.out b3)).mono ?_
  rintro e w4 ⟨v4, rfl, h4, hb4⟩
  have b4 := kept_trans b3 hb4
  go_wp2_with fail
  refine (GF.out _ (RdI_kept HQ.out b4)).mono ?_
  rintro e w5 ⟨v5, rfl, h5, hb5⟩
  have b5 := kept_trans b4 hb5
  have h4 := CopySl_kept h4 hb5
  go_wp2_with fail
  refine (HI.out _ _ _ (CopySl_rd h4) (CopyI_rd h5)).mono ?_
  rintro e w6 ⟨rfl, hb6⟩
  have b6 := kept_trans b5 hb6
  have h4 := CopySl_kept h4 hb6
  have h5 := CopyI_kept h5 hb6
  go_wp2_with fail
  refine (HF.out _ (RdSl_kept HZ.out b6)).mono ?_
  rintro e w7 ⟨v7, rfl, h7, hb7⟩
  have b7 := kept_trans b6 hb7
  have h4 := CopySl_kept h4 hb7
  have h5 := CopyI_kept h5 hb7
  go_wp2_with fail
  refine (HX.out _ _ _ _ _ _ _ h4 h7).mono ?_
  rintro e w8 ⟨rfl, hb8⟩
  have b8 := kept_trans b7 hb8
  have h5 := CopyI_kept h5 hb8
  clear h4 h7
  go_wp2_with fail
  refine (GF.out _ (RdI_kept HQ.out b8)).mono ?_
  rintro e w9 ⟨v9, rfl, h9, hb9⟩
  have b9 := kept_trans b8 hb9
  have h5 := CopyI_kept h5 hb9
  go_wp2_with fail
  refine (GX.out _ _ _ _ _ _ _ h5 h9).mono ?_
  rintro e w10 ⟨rfl, hb10⟩
  have b10 := kept_trans b9 hb10
  clear h5 h9
  go_wp2_with fail
  refine (HT.out _ (RdSl_kept HZ.out b10)).mono ?_
  rintro e w11 ⟨v11, rfl, h11, hb11⟩
  have b11 := kept_trans b10 hb11
  go_wp2_with fail
  refine (GT.out _ (RdI_kept HQ.out b11)).mono ?_
  rintro e w12 ⟨v12, rfl, h12, hb12⟩
  have b12 := kept_trans b11 hb12
  go_wp2_with fail
  refine (HI.out _ _ _ (RdSl_kept h11 hb12) h12).mono ?_
  rintro e w13 ⟨rfl, hb13⟩
  have b13 := kept_trans b12 hb13
  go_wp2
  go_ret
  exact ⟨rfl, b13⟩

end Go.Proofs.Ytedmpjgpgbmolaa
namespace Go.Proofs.Ytedmpjgpgbmolaa.fnExactChooseSling
open Go.ChangeShapes Go.WideShapes Go.ChangeAt Go.RowKit
set_option linter.unusedVariables false
set_option linter.unusedSimpArgs false
open Go.Joins Go.ChangeMaps
set_option maxRecDepth 100000 in
theorem lifted (os : Os) (started : os.Started) (H : Type) (enc : TypeId × Value → H) :
    ReturnsInHanded {} Try.checked os 12 .any (Rows.fnExactChooseSlingSpec.pre6 enc Try.prog Try.f12 Rows.fnExactChooseSlingRow.domain false) (Rows.fnExactChooseSlingSpec.post enc Try.prog Try.f12 false true false false) := by
  refine returnsInHanded_of_change_sized (C := Try.checked) (show ownKnob Try.prog.godebug = none by kernel_rfl) started (by kernel_rfl) Try.func12
    (ChangeSpec.witness6 (enc := enc) (C := Try.checked) false ⟨#[], #[.slice none 0 0, .slice none 0 0, .int .i64 0], []⟩ 8 (by kernel_rfl) (by kernel_rfl) (by kernel_rfl) (by kernel_rfl)) ?_
  intro W base args ds gs before hval0 hW hcnd hsz _
  have hval : ∀ (j : Nat) t v, Try.f12.params[j]? = some t → args[j]? = some v → Value.okWide Try.prog W .any base t v := hval0
  have hW' := hW
  obtain ⟨p, q, hA0, hV, rfl, hfz, hnd⟩ := hW
  have hA : DataW.TrodAll enc Try.prog W 0 (fun _ => true) true Try.f12.params.toList args.toList ds p := hA0
  rw [Try.params12] at hA hval
  obtain ⟨v0, vs0, d0, ds0, p0, q0, hargs, rfl, rfl, h0, r0⟩ := trodAll_cons hA
  obtain ⟨v1, vs1, d1, ds1, p1, q1, rfl, rfl, rfl, h1, r1⟩ := trodAll_cons r0
  obtain ⟨v2, vs2, d2, ds2, p2, q2, rfl, rfl, rfl, h2, r2⟩ := trodAll_cons r1
  obtain ⟨rfl, rfl, rfl⟩ := trodAll_nil r2
  obtain rfl : args = #[v0, v1, v2] := by cases args; simp_all
  obtain ⟨rfl, rfl⟩ := trodVars_none hV
  obtain ⟨ks0, hr0, wf0, hdl0⟩ := open_slings (hval 0 48 v0 rfl rfl) h0
  obtain ⟨zs1, hr1, wf1, hdl1⟩ := open_i64s Try.underlying25 Try.underlying2 (show Try.prog.cellsOf 2 = 1 by kernel_rfl) (hval 1 25 v1 rfl rfl) h1
  obtain ⟨a2, rfl, rfl, rfl, w2⟩ := open_int Try.underlying2 (hval 2 2 v2 rfl rfl) h2
  clear hA0 hval0
  refine (walk_FnExactChooseSling (w := W) _ ks0 hr0 _ zs1 hr1 a2 w2 (slice_reach hsz (j := 0) rfl rfl Try.underlying48 (by decide +kernel) hdl0) (slice_reach hsz (j := 1) rfl rfl Try.underlying25 (by decide +kernel) hdl1)).mono fun e W' ⟨he, hb⟩ => ?_
  subst he
  exact ⟨_, rfl, law_post (B := 4) (by kernel_rfl) (by kernel_rfl) rfl Try.underlying4 rfl hW' rfl hb⟩

/-- The statement: for every input the law returns true, and the arguments read afterwards as before. -/
theorem proved : Rows.FnExactChooseSlingSaid :=
  OpenClaim.holds_of_wide 12 Try.f12 rfl rfl rfl rfl rfl rfl rfl ⟨rfl, rfl, rfl, rfl, rfl⟩ rfl rfl rfl rfl rfl (by kernel_rfl) Try.func12 (by kernel_rfl)
    (of_decide_eq_true (by kernel_rfl)) (by unfold Func.isWrapper; first | (rw [if_pos (by decide +kernel)]; kernel_rfl) | (rw [if_neg (by decide +kernel)]; exact ⟨rfl, rfl⟩))
    (fun os started H enc _ => lifted os started H enc)
end Go.Proofs.Ytedmpjgpgbmolaa.fnExactChooseSling
