/- Proved: for every input the law FnExactLeastBallast returns true, and each argument reads afterwards as it read before; no condition beside those of the given row. -/
import Derived.Test.YtjdppjcmelflbabRows
import Derived.WalkKit
import Derived.ProofKit
import Derived.OpenShut
import Derived.Lib.Hide
import Derived.Handy
import Derived.BigQuiet
import Derived.Carry
import Derived.Deep.QuietTactic
import Derived.Deep.RegionHeld3
import Derived.Laws.ResultCell
import Derived.Shelf.Abstract
import Derived.Lib.SmallJoins
import Derived.ChangeMaps5
namespace Go.Proofs.Ytjdppjcmelflbab
open Go.ChangeShapes Go.WideShapes Go.ChangeAt Go.RowKit
set_option linter.unusedVariables false
set_option linter.unusedSimpArgs false

theorem trodAll_stay {H : Type} {enc : TypeId × Value → H} {P : Program} (hl : laidOutB P = true) {W W' : World} (hb : Below W.heap.size W W') :
    ∀ (ts : List TypeId) (vs : List Value) (ds : List (DataW H)) (ps : List MemPlace), ts.all (fun t => P.readableRec t && decide (t < P.types.size)) = true →
      DataW.TrodAll enc P W 0 (fun _ => true) true ts vs ds ps → (∀ x ∈ ps, x.block < W.heap.size) →
      DataW.TrodAll enc P W' 0 (fun b => decide (b < W.heap.size)) true ts vs ds ps := by
  intro ts
  induction ts with
  | nil => intro vs ds ps _ h _; obtain ⟨rfl, rfl, rfl⟩ := trodAll_nil h; exact rfl
  | cons t ts ih =>
    intro vs ds ps hr h hlt
    simp only [List.all_cons, Bool.and_eq_true, decide_eq_true_eq] at hr
    obtain ⟨v, vs', d, ds', p, q, rfl, rfl, rfl, h0, h1⟩ := trodAll_cons h
    exact ⟨p, q, Below.trod hl hr.1.1 hr.1.2 h0 hb (fun x hx => hlt x (by simp [hx])), ih _ _ _ hr.2 h1 (fun x hx => hlt x (by simp [hx])), rfl⟩

/-- A law's row at its end: it returned true, and of what was there nothing has turned. -/
theorem law_post {H : Type} {enc : TypeId × Value → H} {P : Program} {f : Func} {s : ChangeSpec} {W W' : World} {args : Array Value} {ds gs : List (DataW H)} {before : List MemPlace} {B : TypeId}
    (hl : laidOutB P = true) (hr : f.params.toList.all (fun t => P.readableRec t && decide (t < P.types.size)) = true)
    (hres : f.resultTypes = #[B]) (hB : P.underlying B = some .bool) (hv : s.vars = [])
    (hW : DataW.Whole enc P f.params.toList s.vars false W args.toList ds gs before)
    (hfn : s.fn H (ds ++ gs) = { results := [.lit (.bool true)], args := ds }) (hb : Below W.heap.size W W') :
    s.post enc P f false true false false W args (.bool true) W' := by
  have hlt : ∀ p ∈ before, p.block < W.heap.size := fun p hp => hW.lt p hp
  have hW' := hW
  obtain ⟨p, q, hA, hV, rfl, _, _⟩ := hW'
  rw [hv] at hV
  obtain ⟨rfl, rfl⟩ := trodVars_none hV
  refine ⟨ds, [], p ++ [], [], p, [], hW, ?_, ?_, ?_, hb.frame _, fun h => by cases h⟩
  · rw [hfn, hres]
    exact trodAll_cons_mk (shut_bool hB _) trodAll_mk0
  · rw [hfn]
    exact trodAll_stay hl hb _ _ _ _ hr hA (fun x hx => hlt x (by simp [hx]))
  · rw [hfn, hv]
    exact rfl

theorem kept_cell {W w1 : World} (hb : Below W.heap.size W w1) (b o : Nat) (h : b < W.heap.size) : w1.cell? ⟨b, o, none⟩ = W.cell? ⟨b, o, none⟩ := hb.cell (p := ⟨b, o, none⟩) h

theorem kept_frozen {W w1 : World} (hb : Below W.heap.size W w1) (b o : Nat) (h : b < W.heap.size) : w1.frozen? ⟨b, o, none⟩ = W.frozen? ⟨b, o, none⟩ := hb.frozen (p := ⟨b, o, none⟩) h

theorem kept_trans {a b c : World} (h : Below a.heap.size a b) (k : Below b.heap.size b c) : Below a.heap.size a c := h.trans (k.mono h.size)

theorem kept_at {W w1 : World} (hb : Below W.heap.size W w1) (b : Nat) {G : Prop} (h : b < W.heap.size)
    (k : (∀ o, w1.cell? ⟨b, o, none⟩ = W.cell? ⟨b, o, none⟩) → (∀ o, w1.frozen? ⟨b, o, none⟩ = W.frozen? ⟨b, o, none⟩) → b < w1.heap.size → G) : G :=
  k (fun o => kept_cell hb b o h) (fun o => kept_frozen hb b o h) (Nat.lt_of_lt_of_le h hb.size)

theorem kept_drewN {B : Nat} {a w : World} (h : Below B a w) (n : Nat) : Below B a (w.drewN n) := { os := h.os, tape := h.tape, output := h.output, size := h.size, block := h.block }

theorem grown_step {a b c : World} {row : Option Nat} (h : a.grownBy b row) (k : b.grownBy c row) : a.grownBy c row :=
  ⟨k.os.trans h.os, k.tape.trans h.tape, k.output.trans h.output, Nat.le_trans h.size k.size, fun i hi hne => (k.block i (Nat.lt_of_lt_of_le hi h.size) hne).trans (h.block i hi hne)⟩

theorem grown_below {a b c : World} {row : Option Nat} (h : Below a.heap.size a b) (k : b.grownBy c row) (hr : ∀ g, row = some g → a.heap.size ≤ g) : Below a.heap.size a c := h.grown k h.size hr

theorem results_cell1 {fn : Func} {p : Tmp} {ty : TypeId} (h : fn.results = #[.cell p ty]) (tmps : Array Value) (P : Program) (w : World) :
    (results fn tmps).run P w = ((asAddr (tmps.getD p undef)).run P w).andThen fun a w₁ => (loadVar ty a).run P w₁ := by
  simp only [results, h]
  simp [Sem.run_bind, Result.andThen]

theorem grown_set (w : World) (a : Addr) (u : Value) : w.grownBy (w.setCell a u) (some a.block) :=
  ⟨rfl, rfl, rfl, by simp, fun k _ hk => heap_setCell_other w a k u (fun e => hk (by rw [e]))⟩

def inB (n low high : Int) : Bool := decide (low ≤ n) && decide (n ≤ high)

theorem in_any (n low high : Int) (w : World) :
    Calls Try.prog 72 #[.int .i64 n, .int .i64 low, .int .i64 high] w fun e w' => e = .returned (.bool (inB n low high)) ∧ w = w' := by
  unfold inB
  by_cases h1 : low ≤ n <;> by_cases h2 : n ≤ high <;>
  · go_enter Try.func72, Try.ntmps72
    go_wp2
    go_ret
    exact ⟨by simp [*], rfl⟩

theorem inB_true {n a b : Int} (h : inB n a b = true) : a ≤ n ∧ n ≤ b := by simpa [inB] using h

/-- The slice value reads as a list of numbers. -/
def RdI (w : World) (v : Value) (zs : List Int) : Prop :=
  zs.length ≤ 9223372036854775807 ∧ ∃ A c, v = .slice A zs.length c ∧ ∀ k, (hk : k < zs.length) → ∃ b off, A = some ⟨b, off, none⟩ ∧ b < w.heap.size ∧ w.cell? ⟨b, off + k, none⟩ = some (.int .i64 zs[k])

theorem RdI_kept {W w1 : World} {v : Value} {zs : List Int} (h : RdI W v zs) (hb : Below W.heap.size W w1) : RdI w1 v zs := by
  obtain ⟨hl, A, c, rfl, hr⟩ := h
  refine ⟨hl, A, c, rfl, fun k hk => ?_⟩
  obtain ⟨b, off, e, hlt, hc⟩ := hr k hk
  exact ⟨b, off, e, Nat.lt_of_lt_of_le hlt hb.size, by rw [kept_cell hb b _ hlt]; exact hc⟩

theorem mul_bd (a b p q : Int) (h1 : 0 ≤ a ∧ a ≤ p) (h2 : 0 ≤ b ∧ b ≤ q) : 0 ≤ a * b ∧ a * b ≤ p * q :=
  ⟨Int.mul_nonneg h1.1 h2.1, Int.mul_le_mul h1.2 h2.2 h2.1 (by omega)⟩

theorem max_any (a b : Int) (w : World) :
    Calls Try.prog 78 #[.int .i64 a, .int .i64 b] w fun e w' => e = .returned (.int .i64 (max a b)) ∧ w = w' := by
  by_cases h : b < a
  · rw [show max a b = a by omega]
    go_enter Try.func78, Try.ntmps78
    go_wp2
    go_ret
    exact ⟨rfl, rfl⟩
  · rw [show max a b = b by omega]
    go_enter Try.func78, Try.ntmps78
    go_wp2
    go_ret
    exact ⟨rfl, rfl⟩

/-- The first place at which p holds; -1 if there is none. -/
def idxL {α : Type} (p : α → Bool) (zs : List α) : Int := if zs.findIdx p < zs.length then (zs.findIdx p : Int) else -1

theorem idxL_is {α : Type} {p : α → Bool} {zs : List α} {k : Nat} (h : k < zs.length) (hk : p zs[k] = true) (hb : ∀ j (hj : j < zs.length), j < k → p zs[j] = false) : idxL p zs = (k : Int) := by
  unfold idxL
  have e : zs.findIdx p = k := by
    rw [List.findIdx_eq h]
    exact ⟨hk, fun j hj => hb j (by omega) hj⟩
  rw [e, if_pos h]

theorem idxL_none {α : Type} {p : α → Bool} {zs : List α} (hb : ∀ j (hj : j < zs.length), p zs[j] = false) : idxL p zs = -1 := by
  unfold idxL
  have e : zs.findIdx p = zs.length := by
    rw [List.findIdx_eq_length]
    intro x hx
    obtain ⟨i, hi, rfl⟩ := List.mem_iff_getElem.1 hx
    exact hb i hi
  rw [e, if_neg (by omega)]

theorem idxL_any {α : Type} (p : α → Bool) (zs : List α) : decide (0 ≤ idxL p zs) = zs.any p := by
  unfold idxL
  by_cases h : zs.findIdx p < zs.length
  · rw [if_pos h]
    have := List.findIdx_lt_length.1 h
    simp
    obtain ⟨x, hx, hp⟩ := this
    exact ⟨x, hx, hp⟩
  · rw [if_neg h]
    have : ¬ ∃ x ∈ zs, p x = true := fun hx => h (List.findIdx_lt_length.2 hx)
    simp at this ⊢
    exact this

theorem idxL_bd {α : Type} (p : α → Bool) (zs : List α) : -1 ≤ idxL p zs ∧ idxL p zs ≤ zs.length := by
  unfold idxL
  split <;> omega

/-- A base's numbers (side, mass, ballast, jib's mass, its radius, counterweight, its radius) are as asked. -/
def baseB (s m b j a c d : Int) : Bool := inB s 10 200 && inB m 1 500000 && inB b 0 500000 && inB j 0 500000 && inB c 0 500000 && inB a 0 1000 && inB d 0 1000

/-- The mass of a crane with a load. -/
def totL (m b j c l : Int) : Int := m + b + j + c + l

/-- The moment of a crane with a load at a radius. -/
def tipL (j a c d l r : Int) : Int := l * r + j * a - c * d

/-- A moment without its sign. -/
def tiltL (n : Int) : Int := max n (-n)

theorem seven (p0 p1 p2 p3 p4 p5 p6 : Bool) : p0 = false ∨ (p0 = true ∧ p1 = false) ∨ (p0 = true ∧ p1 = true ∧ p2 = false) ∨ (p0 = true ∧ p1 = true ∧ p2 = true ∧ p3 = false) ∨ (p0 = true ∧ p1 = true ∧ p2 = true ∧ p3 = true ∧ p4 = false) ∨
    (p0 = true ∧ p1 = true ∧ p2 = true ∧ p3 = true ∧ p4 = true ∧ p5 = false) ∨ (p0 = true ∧ p1 = true ∧ p2 = true ∧ p3 = true ∧ p4 = true ∧ p5 = true ∧ p6 = false) ∨ (p0 = true ∧ p1 = true ∧ p2 = true ∧ p3 = true ∧ p4 = true ∧ p5 = true ∧ p6 = true) := by
  cases p0 <;> cases p1 <;> cases p2 <;> cases p3 <;> cases p4 <;> cases p5 <;> cases p6 <;> simp

theorem three (p0 p1 p2 : Bool) : p0 = false ∨ (p0 = true ∧ p1 = false) ∨ (p0 = true ∧ p1 = true ∧ p2 = false) ∨ (p0 = true ∧ p1 = true ∧ p2 = true) := by
  cases p0 <;> cases p1 <;> cases p2 <;> simp

/-- What is known of the numbers of a base. -/
theorem base_bd {s m b j a c d : Int} (h : baseB s m b j a c d = true) : (10 ≤ s ∧ s ≤ 200) ∧ (1 ≤ m ∧ m ≤ 500000) ∧ (0 ≤ b ∧ b ≤ 500000) ∧ (0 ≤ j ∧ j ≤ 500000) ∧ (0 ≤ c ∧ c ≤ 500000) ∧ (0 ≤ a ∧ a ≤ 1000) ∧ 0 ≤ d ∧ d ≤ 1000 := by
  simp only [baseB, Bool.and_eq_true] at h
  obtain ⟨⟨⟨⟨⟨⟨g0, g1⟩, g2⟩, g3⟩, g4⟩, g5⟩, g6⟩ := h
  exact ⟨inB_true g0, inB_true g1, inB_true g2, inB_true g3, inB_true g4, inB_true g5, inB_true g6⟩

/-- The parts of a moment, and that they are not too great. -/
def TipP (x y z : Int) : Prop := (0 ≤ x ∧ x ≤ 50000000) ∧ (0 ≤ y ∧ y ≤ 500000000) ∧ 0 ≤ z ∧ z ≤ 500000000

theorem tip_parts {s m b j a c d l r : Int} (h : baseB s m b j a c d = true) (hl : inB l 0 50000 = true) (hr : inB r 0 1000 = true) : TipP (l * r) (j * a) (c * d) := by
  obtain ⟨_, _, _, h3, h4, h5, h6⟩ := base_bd h
  exact ⟨mul_bd l r 50000 1000 (inB_true hl) (inB_true hr), mul_bd j a 500000 1000 h3 h5, mul_bd c d 500000 1000 h4 h6⟩

/-- A base at the beginning of a block. -/
def BaAt (w : World) (p : Nat) (s m b j a c d : Int) : Prop :=
  w.cell? ⟨p, 0, none⟩ = some (.int .i64 s) ∧ w.cell? ⟨p, 1, none⟩ = some (.int .i64 m) ∧ w.cell? ⟨p, 2, none⟩ = some (.int .i64 b) ∧ w.cell? ⟨p, 3, none⟩ = some (.int .i64 j) ∧
    w.cell? ⟨p, 4, none⟩ = some (.int .i64 a) ∧ w.cell? ⟨p, 5, none⟩ = some (.int .i64 c) ∧ w.cell? ⟨p, 6, none⟩ = some (.int .i64 d)

theorem BaAt_kept {W w1 : World} {p : Nat} {s m b j a c d : Int} (h : BaAt W p s m b j a c d) (hb : Below W.heap.size W w1) : BaAt w1 p s m b j a c d := by
  obtain ⟨h0, h1, h2, h3, h4, h5, h6⟩ := h
  have hl := World.block_lt_of_cell? _ _ h0
  refine ⟨?_, ?_, ?_, ?_, ?_, ?_, ?_⟩ <;> (rw [kept_cell hb p _ hl]; assumption)

theorem mass_any (n : Int) (w : World) :
    Calls Try.prog 73 #[.int .i64 n] w fun e w' => e = .returned (.bool (inB n 0 500000)) ∧ w = w' := by
  go_enter Try.func73, Try.ntmps73
  go_wp2_with (go_at_call 72; refine (in_any _ _ _ _).mono ?_; rintro e w1 ⟨rfl, rfl⟩)
  go_ret
  exact ⟨rfl, rfl⟩

theorem specBase_any (p : Nat) (s m b j a c d : Int) (w : World) (h : BaAt w p s m b j a c d) :
    Calls Try.prog 41 #[.pointer (some ⟨p, 0, none⟩)] w fun e w' => e = .returned (.bool (baseB s m b j a c d)) ∧ w = w' := by
  obtain ⟨h0, h1, h2, h3, h4, h5, h6⟩ := h
  unfold baseB
  rcases seven (inB s 10 200) (inB m 1 500000) (inB b 0 500000) (inB j 0 500000) (inB c 0 500000) (inB a 0 1000) (inB d 0 1000) with g | ⟨g0, g⟩ | ⟨g0, g1, g⟩ | ⟨g0, g1, g2, g⟩ | ⟨g0, g1, g2, g3, g⟩ | ⟨g0, g1, g2, g3, g4, g⟩ | ⟨g0, g1, g2, g3, g4, g5, g⟩ | ⟨g0, g1, g2, g3, g4, g5, g⟩
  all_goals
    go_enter Try.func41, Try.ntmps41
    go_wp2_with (first | (go_at_call 72; refine (in_any _ _ _ _).mono ?_; rintro e w1 ⟨rfl, rfl⟩) | (go_at_call 73; refine (mass_any _ _).mono ?_; rintro e w1 ⟨rfl, rfl⟩))
    go_ret
    exact ⟨by simp [*], rfl⟩

/-- The code of a base and of what is told about the other arguments. -/
def codeL3 (B : Bool) (bs : List Bool) : Int := if B then (if bs.all id then 0 else 2) else 1

theorem codeL3_ok {B : Bool} {bs : List Bool} (h : codeL3 B bs = 0) : B = true ∧ ∀ x ∈ bs, x = true := by
  unfold codeL3 at h
  cases B
  · simp at h
  · cases hb : bs.all id
    · rw [hb] at h; simp at h
    · exact ⟨rfl, fun x hx => by have := List.all_eq_true.1 hb x hx; simpa using this⟩

theorem specBCode_any (p : Nat) (s m b j a c d : Int) (l r : Int) (w : World) (h : BaAt w p s m b j a c d) :
    Calls Try.prog 43 #[.pointer (some ⟨p, 0, none⟩), .int .i64 l, .int .i64 r] w fun e w' => e = .returned (.int .i64 (codeL3 (baseB s m b j a c d) [inB l 0 50000, inB r 0 1000])) ∧ w = w' := by
  have HB := Lib.hid (specBase_any p s m b j a c d w h); clear h
  rcases three (baseB s m b j a c d) (inB l 0 50000) (inB r 0 1000) with g | ⟨g0, g⟩ | ⟨g0, g1, g⟩ | ⟨g0, g1, g⟩
  all_goals
    generalize baseB s m b j a c d = B at *
    subst_vars
    go_enter Try.func43, Try.ntmps43
    go_wp2_with fail
    refine HB.out.mono ?_
    rintro e w1 ⟨rfl, rfl⟩
    go_wp2_with (go_at_call 72; refine (in_any _ _ _ _).mono ?_; rintro e w1 ⟨rfl, rfl⟩)
    go_ret
    exact ⟨by simp [codeL3, *], rfl⟩

theorem specPercent_any (n : Int) (w : World) :
    Calls Try.prog 65 #[.int .i64 n] w fun e w' => e = .returned (.bool (inB n 100 1000)) ∧ w = w' := by
  go_enter Try.func65, Try.ntmps65
  go_wp2_with (go_at_call 72; refine (in_any _ _ _ _).mono ?_; rintro e w1 ⟨rfl, rfl⟩)
  go_ret
  exact ⟨rfl, rfl⟩

theorem specAsked_any (p : Nat) (s m b j a c d : Int) (l r q : Int) (w : World) (h : BaAt w p s m b j a c d) :
    Calls Try.prog 54 #[.pointer (some ⟨p, 0, none⟩), .int .i64 l, .int .i64 r, .int .i64 q] w fun e w' => e = .returned (.int .i64 (codeL3 (baseB s m b j a c d) [inB l 0 50000, inB r 0 1000, inB q 100 1000])) ∧ w = w' := by
  have HC := specBCode_any p s m b j a c d l r w h
  clear h
  have hE : codeL3 (baseB s m b j a c d) [inB l 0 50000, inB r 0 1000, inB q 100 1000] = if codeL3 (baseB s m b j a c d) [inB l 0 50000, inB r 0 1000] = 0 then (if inB q 100 1000 then 0 else 2) else codeL3 (baseB s m b j a c d) [inB l 0 50000, inB r 0 1000] := by
    unfold codeL3
    cases baseB s m b j a c d <;> cases inB l 0 50000 <;> cases inB r 0 1000 <;> cases inB q 100 1000 <;> simp
  rw [hE]
  clear hE
  generalize codeL3 (baseB s m b j a c d) [inB l 0 50000, inB r 0 1000] = K at *
  have HC := Lib.hid HC
  by_cases hK : K = 0
  · subst hK
    rw [if_pos rfl]
    cases hq : inB q 100 1000
    all_goals
      go_enter Try.func54, Try.ntmps54
      go_wp2_with fail
      refine HC.out.mono ?_
      rintro e w1 ⟨rfl, rfl⟩
      go_wp2_with (go_at_call 65; refine (specPercent_any _ _).mono ?_; rintro e w1 ⟨rfl, rfl⟩)
      go_ret
      exact ⟨rfl, rfl⟩
  · rw [if_neg hK]
    have hK1 : (K == 0) = false := by simpa using hK
    have hK2 : (K != 0) = true := by simpa using hK
    go_enter Try.func54, Try.ntmps54
    go_wp2_with fail
    refine HC.out.mono ?_
    rintro e w1 ⟨rfl, rfl⟩
    go_wp2_with fail
    go_ret
    exact ⟨rfl, rfl⟩

theorem BaAt_drew {w : World} {p : Nat} {s m b j a c d : Int} (h : BaAt w p s m b j a c d) (n : Nat) : BaAt (w.drewN n) p s m b j a c d := BaAt_kept h (kept_drewN (Below.refl _ _) n)

theorem specTotal_any (p : Nat) (s m b j a c d : Int) (l : Int) (w : World) (h : BaAt w p s m b j a c d) (hv : baseB s m b j a c d = true) (hl : inB l 0 50000 = true) :
    Calls Try.prog 44 #[.pointer (some ⟨p, 0, none⟩), .int .i64 l] w fun e w' => e = .returned (.int .i64 (totL m b j c l)) ∧ ∃ n, w' = w.drewN n := by
  obtain ⟨h0, h1, h2, h3, h4, h5, h6⟩ := h
  have hb := base_bd hv
  have hi := inB_true hl
  unfold totL
  clear hv hl
  have w1 : IntKind.i64.wrap (m + b) = m + b := IntWalk.i64_in _ (by omega)
  have w2 : IntKind.i64.wrap (m + b + j) = m + b + j := IntWalk.i64_in _ (by omega)
  have w3 : IntKind.i64.wrap (m + b + j + c) = m + b + j + c := IntWalk.i64_in _ (by omega)
  have w4 : IntKind.i64.wrap (m + b + j + c + l) = m + b + j + c + l := IntWalk.i64_in _ (by omega)
  go_enter Try.func44, Try.ntmps44
  go_wp2_with fail
  go_quiet (fail)
  go_wp2
  go_ret
  exact ⟨rfl, _, rfl⟩

theorem specTip_any (p : Nat) (s m b j a c d : Int) (l r : Int) (w : World) (h : BaAt w p s m b j a c d) (hm : TipP (l * r) (j * a) (c * d)) :
    Calls Try.prog 48 #[.pointer (some ⟨p, 0, none⟩), .int .i64 l, .int .i64 r] w fun e w' => e = .returned (.int .i64 (tipL j a c d l r)) ∧ ∃ n, w' = w.drewN n := by
  obtain ⟨h0, h1, h2, h3, h4, h5, h6⟩ := h
  obtain ⟨m0, m1, m2⟩ := hm
  unfold tipL
  have w1 : IntKind.i64.wrap (l * r) = l * r := IntWalk.i64_in _ (by omega)
  have w2 : IntKind.i64.wrap (j * a) = j * a := IntWalk.i64_in _ (by omega)
  have w3 : IntKind.i64.wrap (c * d) = c * d := IntWalk.i64_in _ (by omega)
  have w4 : IntKind.i64.wrap (l * r + j * a) = l * r + j * a := IntWalk.i64_in _ (by omega)
  have w5 : IntKind.i64.wrap (l * r + j * a - c * d) = l * r + j * a - c * d := IntWalk.i64_in _ (by omega)
  go_enter Try.func48, Try.ntmps48
  go_wp2_with fail
  go_quiet (fail)
  go_wp2
  go_ret
  exact ⟨rfl, _, rfl⟩

theorem specSize_any (n : Int) (h : -1000000000000000000 ≤ n ∧ n ≤ 1000000000000000000) (w : World) :
    Calls Try.prog 52 #[.int .i64 n] w fun e w' => e = .returned (.int .i64 (tiltL n)) ∧ w = w' := by
  unfold tiltL
  go_enter Try.func52, Try.ntmps52
  go_wp2_with (go_at_call 78; refine (max_any _ _ _).mono ?_; rintro e w1 ⟨rfl, rfl⟩)
  go_ret
  exact ⟨rfl, rfl⟩

/-- A crane has a safety. -/
def stabB (s m b j a c d : Int) (l r q : Int) : Bool := decide (2 * q * tiltL (tipL j a c d l r) ≤ 100 * totL m b j c l * s)

/-- The numbers of a stability, and that their products are not too great. -/
def StabP (T M s q : Int) : Prop := (0 ≤ T ∧ T ≤ 2050000) ∧ (-550000000 ≤ M ∧ M ≤ 550000000) ∧ (0 ≤ tiltL M ∧ tiltL M ≤ 550000000) ∧ (0 ≤ 100 * T * s ∧ 100 * T * s ≤ 41000000000) ∧ (0 ≤ 2 * q * tiltL M ∧ 2 * q * tiltL M ≤ 1100000000000) ∧ (0 ≤ T * s ∧ T * s ≤ 410000000)

theorem stab_parts {s m b j a c d l r q : Int} (h : baseB s m b j a c d = true) (hl : inB l 0 50000 = true) (hr : inB r 0 1000 = true) (hq : inB q 0 1000 = true) : StabP (totL m b j c l) (tipL j a c d l r) s q := by
  have hp := tip_parts h hl hr
  have hb := base_bd h
  have gl := inB_true hl
  have gq := inB_true hq
  obtain ⟨p0, p1, p2⟩ := hp
  have hT : 0 ≤ totL m b j c l ∧ totL m b j c l ≤ 2050000 := by unfold totL; omega
  have hM : -550000000 ≤ tipL j a c d l r ∧ tipL j a c d l r ≤ 550000000 := by unfold tipL; omega
  have hA : 0 ≤ tiltL (tipL j a c d l r) ∧ tiltL (tipL j a c d l r) ≤ 550000000 := by unfold tiltL; omega
  have k1 := mul_bd (100 * totL m b j c l) s 205000000 200 (by omega) (by omega)
  have k2 := mul_bd (2 * q) (tiltL (tipL j a c d l r)) 2000 550000000 (by omega) hA
  have k3 := mul_bd (totL m b j c l) s 2050000 200 (by omega) (by omega)
  exact ⟨hT, hM, hA, by omega, by omega, by omega⟩

theorem specStable_any (p : Nat) (s m b j a c d : Int) (l r q : Int) (w : World) (h : BaAt w p s m b j a c d) (hv : baseB s m b j a c d = true) (hl : inB l 0 50000 = true) (hr : inB r 0 1000 = true) (hq : inB q 0 1000 = true) :
    Calls Try.prog 55 #[.pointer (some ⟨p, 0, none⟩), .int .i64 l, .int .i64 r, .int .i64 q] w fun e w' => e = .returned (.bool (stabB s m b j a c d l r q)) ∧ ∃ n, w' = w.drewN n := by
  have HT := Lib.hid (fun n => specTotal_any p s m b j a c d l (w.drewN n) (BaAt_drew h n) hv hl)
  have hS := stab_parts hv hl hr hq
  have HM := Lib.hid (fun n => specTip_any p s m b j a c d l r (w.drewN n) (BaAt_drew h n) (tip_parts hv hl hr))
  obtain ⟨h0, h1, h2, h3, h4, h5, h6⟩ := h
  have gq := inB_true hq
  have gs := (base_bd hv).1
  unfold stabB
  clear h1 h2 h3 h4 h5 h6 hv hl hr hq
  generalize totL m b j c l = T at *
  generalize tipL j a c d l r = M at *
  have HA := Lib.hid (fun u => specSize_any M (by have := hS.2.1; omega) u)
  obtain ⟨s0, s1, s2, s3, s4, _⟩ := hS
  generalize tiltL M = A at *
  have x1 : IntKind.i64.wrap (100 * T) = 100 * T := IntWalk.i64_in _ (by omega)
  have x2 : IntKind.i64.wrap (100 * T * s) = 100 * T * s := IntWalk.i64_in _ (by omega)
  have x3 : IntKind.i64.wrap (2 * q) = 2 * q := IntWalk.i64_in _ (by omega)
  have x4 : IntKind.i64.wrap (2 * q * A) = 2 * q * A := IntWalk.i64_in _ (by omega)
  go_enter Try.func55, Try.ntmps55
  go_wp2_with fail
  go_quiet (first | (go_at_call 44; exact Calls.quiet_of (HT.out _)) | (go_at_call 48; exact Calls.quiet_of (HM.out _)) | (go_at_call 52; exact Calls.quiet_of_same ((HA.out _).mono fun e w' h => ⟨h.1, h.2.symm⟩)))
  go_wp2
  go_ret
  exact ⟨rfl, _, rfl⟩

/-- The least ballast with which a total is enough. -/
def leastL (T0 s X : Int) : Int := max 0 ((X + 100 * s - 1) / (100 * s) - T0)

theorem least_iff (T0 s X k : Int) (hs : 0 < s) (hk : 0 ≤ k) : X ≤ 100 * (T0 + k) * s ↔ leastL T0 s X ≤ k := by
  unfold leastL
  have h1 : 100 * (T0 + k) * s = (T0 + k) * (100 * s) := by grind
  rw [h1]
  have h2 : (X + 100 * s - 1) / (100 * s) ≤ T0 + k ↔ X ≤ (T0 + k) * (100 * s) := by
    rw [← Int.lt_add_one_iff, Int.ediv_lt_iff_lt_mul (by omega), Int.add_mul]
    omega
  rw [← h2]
  omega

theorem RdI_of (w : World) (g c : Nat) (zs : List Int) (hl : zs.length ≤ 9223372036854775807) (hg : g < w.heap.size) (hc : ∀ k, (hk : k < zs.length) → w.cell? ⟨g, k, none⟩ = some (.int .i64 zs[k])) : RdI w (.slice (some ⟨g, 0, none⟩) zs.length c) zs :=
  ⟨hl, _, _, rfl, fun k hk => ⟨g, 0, rfl, hg, by rw [Nat.zero_add]; exact hc k hk⟩⟩

theorem rdI1 {w : World} {g c : Nat} {x : Int} (hg : g < w.heap.size) (h0 : w.cell? ⟨g, 0, none⟩ = some (.int .i64 x)) : RdI w (.slice (some ⟨g, 0, none⟩) 1 c) [x] :=
  RdI_of w g c [x] (by simp) hg (fun k hk => by simp at hk; subst hk; exact h0)

theorem rdI2 {w : World} {g c : Nat} {x y : Int} (hg : g < w.heap.size) (h0 : w.cell? ⟨g, 0, none⟩ = some (.int .i64 x)) (h1 : w.cell? ⟨g, 1, none⟩ = some (.int .i64 y)) : RdI w (.slice (some ⟨g, 0, none⟩) 2 c) [x, y] :=
  RdI_of w g c [x, y] (by simp) hg (fun k hk => by
    match k, hk with
    | 0, _ => exact h0
    | 1, _ => exact h1)

theorem rdI3 {w : World} {g c : Nat} {x y z : Int} (hg : g < w.heap.size) (h0 : w.cell? ⟨g, 0, none⟩ = some (.int .i64 x)) (h1 : w.cell? ⟨g, 1, none⟩ = some (.int .i64 y)) (h2 : w.cell? ⟨g, 2, none⟩ = some (.int .i64 z)) : RdI w (.slice (some ⟨g, 0, none⟩) 3 c) [x, y, z] :=
  RdI_of w g c [x, y, z] (by simp) hg (fun k hk => by
    match k, hk with
    | 0, _ => exact h0
    | 1, _ => exact h1
    | 2, _ => exact h2)

set_option maxRecDepth 100000 in
theorem indexFuncI_any (v : Value) (zs : List Int) (g : FuncId) (he : Enters Try.prog g) (cap : Array Value) (p : Int → Bool) (w : World) (h : RdI w v zs)
    (hf : ∀ k (hk : k < zs.length) w1, Below w.heap.size w w1 → Calls Try.prog g (#[.int .i64 zs[k]] ++ cap) w1 fun e w2 => e = .returned (.bool (p zs[k])) ∧ Below w1.heap.size w1 w2) :
    Calls Try.prog 80 #[v, .func (.func g) #[] cap] w fun e w' => e = .returned (.int .i64 (idxL p zs)) ∧ Below w.heap.size w w' := by
  obtain ⟨hl, A, c, rfl, r1⟩ := h
  have R := Lib.hid r1; clear r1
  have Hf := Lib.hid hf; clear hf
  have HIS := Lib.hid (fun k (h : k < zs.length) => @idxL_is _ p zs k h)
  have HNO := Lib.hid (@idxL_none _ p zs)
  generalize idxL p zs = G at *
  go_enter Try.func80, Try.ntmps80
  go_wp2_with fail
  go_loopw [8] (fun i wr => ∃ k : Nat, k ≤ zs.length ∧ i = .int .i64 k ∧ (∀ j (hj : j < zs.length), j < k → p zs[j] = false) ∧ Below w.heap.size w wr) (fun i _ => zs.length - (intOf i).toNat)
  case atStart => exact ⟨0, by omega, rfl, fun j _ h => by omega, Below.refl _ _⟩
  case round =>
    obtain ⟨k, hk, rfl, hall, hb⟩ := hrel
    by_cases hlt : k < zs.length
    · obtain ⟨b, off, rfl, hbl, hc0⟩ := R.out k hlt
      rw [← kept_cell hb b _ hbl] at hc0
      have hc := Hf.out k hlt wr hb
      cases hp : p zs[k]
      · have hnx : ∀ j (hj : j < zs.length), j < k + 1 → p zs[j] = false := fun j hj hjk => by
          rcases Nat.lt_or_ge j k with h1 | h1
          · exact hall j hj h1
          · obtain rfl : j = k := by omega
            exact hp
        rw [hp] at hc
        have HNX := Lib.hid hnx; clear hnx hall hp
        have Hc := Lib.hid hc; clear hc
        generalize zs[k] = x at *
        go_wp2_with fail
        rw [he, Oper.upon_enter]
        refine Hc.out.mono ?_
        rintro e w1 ⟨rfl, hb1⟩
        go_wp2
        go_roundw
        case rel => exact ⟨k + 1, by omega, by go_num, HNX.out, kept_trans hb hb1⟩
        case measure => simp [intOf]; omega
      · have hE := HIS.out k hlt hp hall
        subst hE
        rw [hp] at hc
        have Hc := Lib.hid hc; clear hc hall hp
        generalize zs[k] = x at *
        go_wp2_with fail
        rw [he, Oper.upon_enter]
        refine Hc.out.mono ?_
        rintro e w1 ⟨rfl, hb1⟩
        go_wp2
        go_ret
        exact ⟨rfl, kept_trans hb hb1⟩
    · have : k = zs.length := by omega
      subst this
      have hE := HNO.out (fun j hj => hall j hj hj)
      clear hall
      subst hE
      go_wp2
      go_ret
      exact ⟨rfl, hb⟩

theorem containsFuncI_any (v : Value) (zs : List Int) (g : FuncId) (he : Enters Try.prog g) (cap : Array Value) (p : Int → Bool) (w : World) (h : RdI w v zs)
    (hf : ∀ k (hk : k < zs.length) w1, Below w.heap.size w w1 → Calls Try.prog g (#[.int .i64 zs[k]] ++ cap) w1 fun e w2 => e = .returned (.bool (p zs[k])) ∧ Below w1.heap.size w1 w2) :
    Calls Try.prog 74 #[v, .func (.func g) #[] cap] w fun e w' => e = .returned (.bool (zs.any p)) ∧ Below w.heap.size w w' := by
  have H := Lib.hid (indexFuncI_any v zs g he cap p w h hf)
  obtain ⟨hl, A, c, rfl, r1⟩ := h
  clear hf r1
  have hbd := idxL_bd p zs
  rw [← idxL_any]
  generalize idxL p zs = G at *
  go_enter Try.func74, Try.ntmps74
  go_wp2_with fail
  refine H.out.mono ?_
  rintro e w1 ⟨rfl, hb1⟩
  go_wp2
  go_ret
  exact ⟨rfl, hb1⟩

theorem outside_any (n lo hi : Int) (b1 b2 : Nat) (w : World) (h1 : w.cell? ⟨b1, 0, none⟩ = some (.int .i64 lo)) (h2 : w.cell? ⟨b2, 0, none⟩ = some (.int .i64 hi)) :
    Calls Try.prog 75 #[.int .i64 n, .pointer (some ⟨b1, 0, none⟩), .pointer (some ⟨b2, 0, none⟩)] w fun e w' => e = .returned (.bool (!inB n lo hi)) ∧ Below w.heap.size w w' := by
  unfold inB
  by_cases g1 : lo ≤ n <;> by_cases g2 : n ≤ hi
  all_goals
    go_enter Try.func75, Try.ntmps75
    go_wp2
    go_ret
    exact ⟨by simp [*], Below.refl _ _⟩

theorem within_any (lo hi : Int) (v : Value) (zs : List Int) (w : World) (h : RdI w v zs) :
    Calls Try.prog 42 #[.int .i64 lo, .int .i64 hi, v] w fun e w' => e = .returned (.bool (zs.all fun n => inB n lo hi)) ∧ Below w.heap.size w w' := by
  have hall : (zs.all fun n => inB n lo hi) = !(zs.any fun n => !inB n lo hi) := by simp [List.any_eq_not_all_not]
  rw [hall]
  clear hall
  have HC := Lib.hid (fun u (q : RdI u v zs) b1 b2 (l1 : b1 < u.heap.size) (l2 : b2 < u.heap.size) (c1 : u.cell? ⟨b1, 0, none⟩ = some (.int .i64 lo)) (c2 : u.cell? ⟨b2, 0, none⟩ = some (.int .i64 hi)) =>
    containsFuncI_any v zs 75 (enters_of Try.func75 (by kernel_rfl) rfl) #[.pointer (some ⟨b1, 0, none⟩), .pointer (some ⟨b2, 0, none⟩)] (fun n => !inB n lo hi) u q
      (fun k hk w1 hb => outside_any zs[k] lo hi b1 b2 w1 (by rw [kept_cell hb b1 0 l1]; exact c1) (by rw [kept_cell hb b2 0 l2]; exact c2)))
  obtain ⟨hl, A, c, rfl, r1⟩ := h
  have H := Lib.hid (show RdI w (.slice A zs.length c) zs from ⟨hl, A, c, rfl, r1⟩); clear r1
  generalize (zs.any fun n => !inB n lo hi) = X at *
  have hmf : ∀ (fn : Fn) (first cap : Array Value) (w : World), (Instr.makeFunc fn first cap).run Try.prog w = .ok (.func fn first cap) w := fun _ _ _ _ => rfl
  go_enter Try.func42, Try.ntmps42
  go_wp2_with fail
  refine (HC.out _ (RdI_kept H.out (by go_grown)) w.heap.size (w.heap.size + 1) (by simp; try omega) (by simp) (by simp) (by simp)).mono ?_
  rintro e w1 ⟨rfl, hb1⟩
  have b1 := kept_trans (a := w) (by go_grown) hb1
  go_wp2
  go_ret
  exact ⟨rfl, b1⟩

theorem toBase_any (s m b j a c d : Int) (w : World) :
    Calls Try.prog 14 #[.agg #[.int .i64 s, .int .i64 m, .int .i64 b, .int .i64 j, .int .i64 a, .int .i64 c, .int .i64 d]] w fun e w' => e = .returned (.agg #[.int .i64 s, .int .i64 m, .int .i64 b, .int .i64 j, .int .i64 a, .int .i64 c, .int .i64 d]) ∧ Below w.heap.size w w' := by
  go_enter Try.func14, Try.ntmps14
  go_wp2
  go_returns
  exact ⟨rfl, by go_grown⟩

set_option maxRecDepth 100000 in
/-- An argument that is a base. -/
theorem open_base {H : Type} {enc : TypeId × Value → H} {W : World} {base : Nat} {v : Value} {d : DataW H} {p : List MemPlace}
    (hv : Value.okWide Try.prog W .any base 23 v) (h : DataW.Trod enc Try.prog W 0 (fun _ => true) true 23 v d p) :
    ∃ s m b j a c d : Int, v = .agg #[.int .i64 s, .int .i64 m, .int .i64 b, .int .i64 j, .int .i64 a, .int .i64 c, .int .i64 d] := by
  obtain ⟨cs, rfl, hsz⟩ := okWide_struct Try.underlying23 hv
  obtain ⟨fuel, hf⟩ := h
  obtain ⟨xs, n, _, _, hl, hlen, hg⟩ := DataW.trod_struct Try.underlying23 (show DataW.trod enc Try.prog W 0 (fun _ => true) true fuel 23 cs.toList = some (d, p) from by simpa [Value.cells] using hf)
  have hl7 : cs.toList.length = 7 := hl.trans (by kernel_rfl)
  have z : Try.prog.cellsOf 2 = 1 := by kernel_rfl
  have h0 : DataW.trod enc Try.prog W 0 (fun _ => true) true n 2 ((cs.toList.drop 0).take (Try.prog.cellsOf 2)) = xs[0]? := hg 0 _ rfl
  have h1 : DataW.trod enc Try.prog W 0 (fun _ => true) true n 2 ((cs.toList.drop 1).take (Try.prog.cellsOf 2)) = xs[1]? := hg 1 _ rfl
  have h2 : DataW.trod enc Try.prog W 0 (fun _ => true) true n 2 ((cs.toList.drop 2).take (Try.prog.cellsOf 2)) = xs[2]? := hg 2 _ rfl
  have h3 : DataW.trod enc Try.prog W 0 (fun _ => true) true n 2 ((cs.toList.drop 3).take (Try.prog.cellsOf 2)) = xs[3]? := hg 3 _ rfl
  have h4 : DataW.trod enc Try.prog W 0 (fun _ => true) true n 2 ((cs.toList.drop 4).take (Try.prog.cellsOf 2)) = xs[4]? := hg 4 _ rfl
  have h5 : DataW.trod enc Try.prog W 0 (fun _ => true) true n 2 ((cs.toList.drop 5).take (Try.prog.cellsOf 2)) = xs[5]? := hg 5 _ rfl
  have h6 : DataW.trod enc Try.prog W 0 (fun _ => true) true n 2 ((cs.toList.drop 6).take (Try.prog.cellsOf 2)) = xs[6]? := hg 6 _ rfl
  obtain ⟨l⟩ := cs
  match l, hl7 with
  | [c0, c1, c2, c3, c4, c5, c6], _ =>
    have i0 : xs[0]? = some (xs[0]'(by rw [hlen]; decide)) := List.getElem?_eq_getElem _
    have i1 : xs[1]? = some (xs[1]'(by rw [hlen]; decide)) := List.getElem?_eq_getElem _
    have i2 : xs[2]? = some (xs[2]'(by rw [hlen]; decide)) := List.getElem?_eq_getElem _
    have i3 : xs[3]? = some (xs[3]'(by rw [hlen]; decide)) := List.getElem?_eq_getElem _
    have i4 : xs[4]? = some (xs[4]'(by rw [hlen]; decide)) := List.getElem?_eq_getElem _
    have i5 : xs[5]? = some (xs[5]'(by rw [hlen]; decide)) := List.getElem?_eq_getElem _
    have i6 : xs[6]? = some (xs[6]'(by rw [hlen]; decide)) := List.getElem?_eq_getElem _
    simp only [i0, i1, i2, i3, i4, i5, i6, z, List.drop_succ_cons, List.drop_zero, List.take_succ_cons, List.take_zero] at h0 h1 h2 h3 h4 h5 h6
    obtain ⟨x0, e0, _, _⟩ := DataW.trod_int Try.underlying2 h0
    obtain ⟨x1, e1, _, _⟩ := DataW.trod_int Try.underlying2 h1
    obtain ⟨x2, e2, _, _⟩ := DataW.trod_int Try.underlying2 h2
    obtain ⟨x3, e3, _, _⟩ := DataW.trod_int Try.underlying2 h3
    obtain ⟨x4, e4, _, _⟩ := DataW.trod_int Try.underlying2 h4
    obtain ⟨x5, e5, _, _⟩ := DataW.trod_int Try.underlying2 h5
    obtain ⟨x6, e6, _, _⟩ := DataW.trod_int Try.underlying2 h6
    simp only [List.cons.injEq, and_true] at e0 e1 e2 e3 e4 e5 e6
    subst e0 e1 e2 e3 e4 e5 e6
    exact ⟨x0, x1, x2, x3, x4, x5, x6, rfl⟩

/-- The slice value reads as a list of truth values. -/
def RdT (w : World) (v : Value) (zs : List Bool) : Prop :=
  zs.length ≤ 9223372036854775807 ∧ ∃ A c, v = .slice A zs.length c ∧ ∀ k, (hk : k < zs.length) → ∃ b off, A = some ⟨b, off, none⟩ ∧ b < w.heap.size ∧ w.cell? ⟨b, off + k, none⟩ = some (.bool zs[k])

theorem RdT_of (w : World) (g c : Nat) (zs : List Bool) (hl : zs.length ≤ 9223372036854775807) (hg : g < w.heap.size) (hc : ∀ k, (hk : k < zs.length) → w.cell? ⟨g, k, none⟩ = some (.bool zs[k])) : RdT w (.slice (some ⟨g, 0, none⟩) zs.length c) zs :=
  ⟨hl, _, _, rfl, fun k hk => ⟨g, 0, rfl, hg, by rw [Nat.zero_add]; exact hc k hk⟩⟩

theorem RdT_kept {W w1 : World} {v : Value} {zs : List Bool} (h : RdT W v zs) (hb : Below W.heap.size W w1) : RdT w1 v zs := by
  obtain ⟨hl, A, c, rfl, hr⟩ := h
  refine ⟨hl, A, c, rfl, fun k hk => ?_⟩
  obtain ⟨b, off, e, hlt, hc⟩ := hr k hk
  exact ⟨b, off, e, Nat.lt_of_lt_of_le hlt hb.size, by rw [kept_cell hb b _ hlt]; exact hc⟩

theorem rdT3 {w : World} {g c : Nat} {x y z : Bool} (hg : g < w.heap.size) (h0 : w.cell? ⟨g, 0, none⟩ = some (.bool x)) (h1 : w.cell? ⟨g, 1, none⟩ = some (.bool y)) (h2 : w.cell? ⟨g, 2, none⟩ = some (.bool z)) : RdT w (.slice (some ⟨g, 0, none⟩) 3 c) [x, y, z] :=
  RdT_of w g c [x, y, z] (by simp) hg (fun k hk => by
    match k, hk with
    | 0, _ => exact h0
    | 1, _ => exact h1
    | 2, _ => exact h2)

theorem indexT_any (v : Value) (zs : List Bool) (w : World) (h : RdT w v zs) :
    Calls Try.prog 81 #[v, .bool false] w fun e w' => e = .returned (.int .i64 (idxL (fun x => !x) zs)) ∧ Below w.heap.size w w' := by
  obtain ⟨hl, A, c, rfl, r1⟩ := h
  have R := Lib.hid r1; clear r1
  have HIS := Lib.hid (fun k (h : k < zs.length) => @idxL_is _ (fun x : Bool => !x) zs k h)
  have HNO := Lib.hid (@idxL_none _ (fun x : Bool => !x) zs)
  generalize idxL (fun x : Bool => !x) zs = G at *
  go_enter Try.func81, Try.ntmps81
  go_wp2_with fail
  go_loopw [8] (fun i wr => ∃ k : Nat, k ≤ zs.length ∧ i = .int .i64 k ∧ (∀ j (hj : j < zs.length), j < k → (!zs[j]) = false) ∧ Below w.heap.size w wr) (fun i _ => zs.length - (intOf i).toNat)
  case atStart => exact ⟨0, by omega, rfl, fun j _ h => by omega, Below.refl _ _⟩
  case round =>
    obtain ⟨k, hk, rfl, hall, hb⟩ := hrel
    by_cases hlt : k < zs.length
    · obtain ⟨b, off, rfl, hbl, hc0⟩ := R.out k hlt
      rw [← kept_cell hb b _ hbl] at hc0
      cases hp : zs[k]
      · have hE := HIS.out k hlt (by rw [hp]; rfl) hall
        subst hE
        rw [hp] at hc0
        clear hp hall
        go_wp2
        go_ret
        exact ⟨rfl, hb⟩
      · have hnx : ∀ j (hj : j < zs.length), j < k + 1 → (!zs[j]) = false := fun j hj hjk => by
          rcases Nat.lt_or_ge j k with h1 | h1
          · exact hall j hj h1
          · obtain rfl : j = k := by omega
            rw [hp]; rfl
        have HNX := Lib.hid hnx; clear hnx hall
        rw [hp] at hc0
        clear hp
        go_wp2
        go_roundw
        case rel => exact ⟨k + 1, by omega, by go_num, HNX.out, hb⟩
        case measure => simp [intOf]; omega
    · have : k = zs.length := by omega
      subst this
      have hE := HNO.out (fun j hj => hall j hj hj)
      clear hall
      subst hE
      go_wp2
      go_ret
      exact ⟨rfl, hb⟩

theorem containsT_any (v : Value) (zs : List Bool) (w : World) (h : RdT w v zs) :
    Calls Try.prog 76 #[v, .bool false] w fun e w' => e = .returned (.bool (zs.any fun x => !x)) ∧ Below w.heap.size w w' := by
  have H := Lib.hid (indexT_any v zs w h)
  obtain ⟨hl, A, c, rfl, r1⟩ := h
  clear r1
  have hbd := idxL_bd (fun x : Bool => !x) zs
  rw [← idxL_any]
  generalize idxL (fun x : Bool => !x) zs = G at *
  go_enter Try.func76, Try.ntmps76
  go_wp2_with fail
  refine H.out.mono ?_
  rintro e w1 ⟨rfl, hb1⟩
  go_wp2
  go_ret
  exact ⟨rfl, hb1⟩

theorem four (p0 p1 p2 p3 : Bool) : p0 = false ∨ (p0 = true ∧ p1 = false) ∨ (p0 = true ∧ p1 = true ∧ p2 = false) ∨ (p0 = true ∧ p1 = true ∧ p2 = true ∧ p3 = false) ∨ (p0 = true ∧ p1 = true ∧ p2 = true ∧ p3 = true) := by
  cases p0 <;> cases p1 <;> cases p2 <;> cases p3 <;> simp

set_option maxHeartbeats 1000000 in
theorem implVB_any (s m b j a c d : Int) (w : World) :
    Calls Try.prog 15 #[.agg #[.int .i64 s, .int .i64 m, .int .i64 b, .int .i64 j, .int .i64 a, .int .i64 c, .int .i64 d]] w fun e w' => e = .returned (.bool (baseB s m b j a c d)) ∧ Below w.heap.size w w' := by
  have e1 : baseB s m b j a c d = ([s].all (fun n => inB n 10 200) && [m].all (fun n => inB n 1 500000) && [b, j, c].all (fun n => inB n 0 500000) && [a, d].all (fun n => inB n 0 1000)) := by simp [baseB, Bool.and_assoc]
  rw [e1]; clear e1
  have H0 := fun v u q => within_any 10 200 v [s] u q
  have H1 := fun v u q => within_any 1 500000 v [m] u q
  have H2 := fun v u q => within_any 0 500000 v [b, j, c] u q
  have H3 := fun v u q => within_any 0 1000 v [a, d] u q
  generalize [s].all (fun n => inB n 10 200) = p0 at *
  generalize [m].all (fun n => inB n 1 500000) = p1 at *
  generalize [b, j, c].all (fun n => inB n 0 500000) = p2 at *
  generalize [a, d].all (fun n => inB n 0 1000) = p3 at *
  rcases four p0 p1 p2 p3 with rfl | ⟨rfl, rfl⟩ | ⟨rfl, rfl, rfl⟩ | ⟨rfl, rfl, rfl, rfl⟩ | ⟨rfl, rfl, rfl, rfl⟩
  all_goals
    have H0 := Lib.hid H0
    have H1 := Lib.hid H1
    have H2 := Lib.hid H2
    have H3 := Lib.hid H3
  case inl =>
    go_enter Try.func15, Try.ntmps15
    go_wp2_with fail
    refine (H0.out _ _ (rdI1 (by go_size) (by go_simp))).mono ?_
    rintro e w1 ⟨rfl, hb1⟩
    refine kept_at hb1 w.heap.size (by go_size) fun c1_0 z1_0 s1_0 => ?_
    have b1 := kept_trans (a := w) (by go_grown) hb1
    go_wp2
    go_ret
    exact ⟨rfl, b1⟩
  case inr.inl =>
    go_enter Try.func15, Try.ntmps15
    go_wp2_with fail
    refine (H0.out _ _ (rdI1 (by go_size) (by go_simp))).mono ?_
    rintro e w1 ⟨rfl, hb1⟩
    refine kept_at hb1 w.heap.size (by go_size) fun c1_0 z1_0 s1_0 => ?_
    have b1 := kept_trans (a := w) (by go_grown) hb1
    go_wp2_with fail
    refine (H1.out _ _ (rdI1 (by go_size) (by go_simp))).mono ?_
    rintro e w2 ⟨rfl, hb2⟩
    refine kept_at hb2 w.heap.size (by go_size) fun c2_0 z2_0 s2_0 => ?_
    have b2 := kept_trans (a := w) (by go_grown) hb2
    go_wp2
    go_ret
    exact ⟨rfl, b2⟩
  case inr.inr.inl =>
    go_enter Try.func15, Try.ntmps15
    go_wp2_with fail
    refine (H0.out _ _ (rdI1 (by go_size) (by go_simp))).mono ?_
    rintro e w1 ⟨rfl, hb1⟩
    refine kept_at hb1 w.heap.size (by go_size) fun c1_0 z1_0 s1_0 => ?_
    have b1 := kept_trans (a := w) (by go_grown) hb1
    go_wp2_with fail
    refine (H1.out _ _ (rdI1 (by go_size) (by go_simp))).mono ?_
    rintro e w2 ⟨rfl, hb2⟩
    refine kept_at hb2 w.heap.size (by go_size) fun c2_0 z2_0 s2_0 => ?_
    have b2 := kept_trans (a := w) (by go_grown) hb2
    go_wp2_with fail
    refine (H2.out _ _ (rdI3 (by go_size) (by go_simp) (by go_simp) (by go_simp))).mono ?_
    rintro e w3 ⟨rfl, hb3⟩
    refine kept_at hb3 w.heap.size (by go_size) fun c3_0 z3_0 s3_0 => ?_
    have b3 := kept_trans (a := w) (by go_grown) hb3
    go_wp2
    go_ret
    exact ⟨rfl, b3⟩
  all_goals
    go_enter Try.func15, Try.ntmps15
    go_wp2_with fail
    refine (H0.out _ _ (rdI1 (by go_size) (by go_simp))).mono ?_
    rintro e w1 ⟨rfl, hb1⟩
    refine kept_at hb1 w.heap.size (by go_size) fun c1_0 z1_0 s1_0 => ?_
    have b1 := kept_trans (a := w) (by go_grown) hb1
    go_wp2_with fail
    refine (H1.out _ _ (rdI1 (by go_size) (by go_simp))).mono ?_
    rintro e w2 ⟨rfl, hb2⟩
    refine kept_at hb2 w.heap.size (by go_size) fun c2_0 z2_0 s2_0 => ?_
    have b2 := kept_trans (a := w) (by go_grown) hb2
    go_wp2_with fail
    refine (H2.out _ _ (rdI3 (by go_size) (by go_simp) (by go_simp) (by go_simp))).mono ?_
    rintro e w3 ⟨rfl, hb3⟩
    refine kept_at hb3 w.heap.size (by go_size) fun c3_0 z3_0 s3_0 => ?_
    have b3 := kept_trans (a := w) (by go_grown) hb3
    go_wp2_with fail
    refine (H3.out _ _ (rdI2 (by go_size) (by go_simp) (by go_simp))).mono ?_
    rintro e w4 ⟨rfl, hb4⟩
    have b4 := kept_trans (a := w) (by go_grown) hb4
    go_wp2
    go_ret
    exact ⟨rfl, b4⟩

theorem validLoad_any (n : Int) (w : World) :
    Calls Try.prog 46 #[.int .i64 n] w fun e w' => e = .returned (.bool (inB n 0 50000)) ∧ Below w.heap.size w w' := by
  have H := fun v u q => within_any 0 50000 v [n] u q
  rw [show ([n].all fun n => inB n 0 50000) = inB n 0 50000 by simp] at H
  have H := Lib.hid H
  generalize inB n 0 50000 = p at *
  go_enter Try.func46, Try.ntmps46
  go_wp2_with fail
  refine (H.out _ _ (rdI1 (by go_size) (by go_simp))).mono ?_
  rintro e w1 ⟨rfl, hb1⟩
  have b1 := kept_trans (a := w) (by go_grown) hb1
  go_wp2
  go_ret
  exact ⟨rfl, b1⟩

theorem validRadius_any (n : Int) (w : World) :
    Calls Try.prog 49 #[.int .i64 n] w fun e w' => e = .returned (.bool (inB n 0 1000)) ∧ Below w.heap.size w w' := by
  have H := fun v u q => within_any 0 1000 v [n] u q
  rw [show ([n].all fun n => inB n 0 1000) = inB n 0 1000 by simp] at H
  have H := Lib.hid H
  generalize inB n 0 1000 = p at *
  go_enter Try.func49, Try.ntmps49
  go_wp2_with fail
  refine (H.out _ _ (rdI1 (by go_size) (by go_simp))).mono ?_
  rintro e w1 ⟨rfl, hb1⟩
  have b1 := kept_trans (a := w) (by go_grown) hb1
  go_wp2
  go_ret
  exact ⟨rfl, b1⟩

theorem validPercent_any (n : Int) (w : World) :
    Calls Try.prog 56 #[.int .i64 n] w fun e w' => e = .returned (.bool (inB n 100 1000)) ∧ Below w.heap.size w w' := by
  have H := fun v u q => within_any 100 1000 v [n] u q
  rw [show ([n].all fun n => inB n 100 1000) = inB n 100 1000 by simp] at H
  have H := Lib.hid H
  generalize inB n 100 1000 = p at *
  go_enter Try.func56, Try.ntmps56
  go_wp2_with fail
  refine (H.out _ _ (rdI1 (by go_size) (by go_simp))).mono ?_
  rintro e w1 ⟨rfl, hb1⟩
  have b1 := kept_trans (a := w) (by go_grown) hb1
  go_wp2
  go_ret
  exact ⟨rfl, b1⟩

theorem baseCode_any (s m b j a c d : Int) (v : Value) (zs : List Bool) (w : World) (h : RdT w v zs) :
    Calls Try.prog 45 #[.agg #[.int .i64 s, .int .i64 m, .int .i64 b, .int .i64 j, .int .i64 a, .int .i64 c, .int .i64 d], v] w fun e w' => e = .returned (.int .i64 (codeL3 (baseB s m b j a c d) zs)) ∧ Below w.heap.size w w' := by
  have HB := fun u => implVB_any s m b j a c d u
  have HC := fun u (q : RdT u v zs) => containsT_any v zs u q
  have hE : codeL3 (baseB s m b j a c d) zs = if baseB s m b j a c d = true then (if (zs.any fun x => !x) = true then 2 else 0) else 1 := by
    unfold codeL3
    have : (zs.any fun x => !x) = !(zs.all id) := by simp [List.any_eq_not_all_not]; rfl
    rw [this]
    cases baseB s m b j a c d <;> cases zs.all id <;> rfl
  rw [hE]
  clear hE
  have H := Lib.hid h
  obtain ⟨hl, A, cp, rfl, _⟩ := h
  generalize baseB s m b j a c d = p at *
  generalize (zs.any fun x => !x) = q at *
  cases p
  case false =>
    have HB := Lib.hid HB
    clear HC
    go_enter Try.func45, Try.ntmps45
    go_wp2_with fail
    refine (HB.out _).mono ?_
    rintro e w1 ⟨rfl, hb1⟩
    have b1 := kept_trans (a := w) (by go_grown) hb1
    go_wp2
    go_ret
    exact ⟨rfl, b1⟩
  cases q
  all_goals
    have HB := Lib.hid HB
    have HC := Lib.hid HC
    go_enter Try.func45, Try.ntmps45
    go_wp2_with fail
    refine (HB.out _).mono ?_
    rintro e w1 ⟨rfl, hb1⟩
    have b1 := kept_trans (a := w) (by go_grown) hb1
    go_wp2_with fail
    refine (HC.out _ (RdT_kept H.out b1)).mono ?_
    rintro e w2 ⟨rfl, hb2⟩
    have b2 := kept_trans b1 hb2
    go_wp2
    go_ret
    exact ⟨rfl, b2⟩

theorem loaded_any (s m b j a c d : Int) (l r : Int) (w : World) (hv : baseB s m b j a c d = true) (hl : inB l 0 50000 = true) (hr : inB r 0 1000 = true) :
    Calls Try.prog 47 #[.agg #[.int .i64 s, .int .i64 m, .int .i64 b, .int .i64 j, .int .i64 a, .int .i64 c, .int .i64 d], .int .i64 l, .int .i64 r] w fun e w' => e = .returned (.tuple #[.int .i64 (totL m b j c l), .int .i64 (tipL j a c d l r)]) ∧ Below w.heap.size w w' := by
  obtain ⟨m0, m1, m2⟩ := tip_parts hv hl hr
  have hb := base_bd hv
  have hi := inB_true hl
  unfold totL tipL
  clear hv hl hr
  have w1 : IntKind.i64.wrap (l * r) = l * r := IntWalk.i64_in _ (by omega)
  have w2 : IntKind.i64.wrap (j * a) = j * a := IntWalk.i64_in _ (by omega)
  have w3 : IntKind.i64.wrap (c * d) = c * d := IntWalk.i64_in _ (by omega)
  have v1 : wrap64 (l * r) = l * r := IntWalk.wrap64_in _ (by omega)
  have v2 : wrap64 (j * a) = j * a := IntWalk.wrap64_in _ (by omega)
  have v3 : wrap64 (c * d) = c * d := IntWalk.wrap64_in _ (by omega)
  go_enter Try.func47, Try.ntmps47
  go_wp2
  go_ret2
  exact ⟨by simp [*], by go_grown⟩

theorem stance_any (s m b j a c d : Int) (l r : Int) (w : World) (hv : baseB s m b j a c d = true) (hl : inB l 0 50000 = true) (hr : inB r 0 1000 = true) :
    Calls Try.prog 53 #[.agg #[.int .i64 s, .int .i64 m, .int .i64 b, .int .i64 j, .int .i64 a, .int .i64 c, .int .i64 d], .int .i64 l, .int .i64 r] w fun e w' => e = .returned (.agg #[.int .i64 s, .int .i64 (totL m b j c l), .int .i64 (tiltL (tipL j a c d l r))]) ∧ Below w.heap.size w w' := by
  have HL := Lib.hid (fun u => loaded_any s m b j a c d l r u hv hl hr)
  have hS := stab_parts hv hl hr (q := 0) (by simp [inB])
  clear hv hl hr
  unfold tiltL at *
  generalize totL m b j c l = T at *
  generalize tipL j a c d l r = M at *
  obtain ⟨s0, s1, s2, _⟩ := hS
  go_enter Try.func53, Try.ntmps53
  go_wp2_with fail
  refine (HL.out _).mono ?_
  rintro e w1 ⟨rfl, hb1⟩
  refine kept_at hb1 w.heap.size (by go_size) fun c1_0 z1_0 s1_0 => ?_
  refine kept_at hb1 (w.heap.size + 1) (by go_size) fun c1_1 z1_1 s1_1 => ?_
  have b1 := kept_trans (a := w) (by go_grown) hb1
  go_wp2
  all_goals
    (try simp only [Exit.inBlock, Exit.then])
    refine bodyPost_ret (v := .agg #[.int .i64 s, .int .i64 T, .int .i64 (max M (-M))]) ?_ rfl ⟨rfl, ?_⟩
    · rw [results_cell1 rfl]
      go_simp
      try omega
    · exact (by first | (go_grown; done) | (refine kept_drewN ?_ _; go_grown; done) | (go_grown; refine kept_drewN ?_ _; go_grown))

theorem safe_any (s T A q : Int) (w : World) (h1 : 0 ≤ 100 * T * s ∧ 100 * T * s ≤ 41000000000) (h2 : 0 ≤ 2 * q * A ∧ 2 * q * A ≤ 1100000000000) (hT : 0 ≤ T ∧ T ≤ 2050000) (hq : 0 ≤ q ∧ q ≤ 1000) :
    Calls Try.prog 57 #[.agg #[.int .i64 s, .int .i64 T, .int .i64 A], .int .i64 q] w fun e w' => e = .returned (.bool (decide (2 * q * A ≤ 100 * T * s))) ∧ Below w.heap.size w w' := by
  have v1 : wrap64 (100 * T) = 100 * T := IntWalk.wrap64_in _ (by omega)
  have v2 : wrap64 (100 * T * s) = 100 * T * s := IntWalk.wrap64_in _ (by omega)
  have v3 : wrap64 (2 * q) = 2 * q := IntWalk.wrap64_in _ (by omega)
  have v4 : wrap64 (2 * q * A) = 2 * q * A := IntWalk.wrap64_in _ (by omega)
  have w1 : IntKind.i64.wrap (100 * T) = 100 * T := IntWalk.i64_in _ (by omega)
  have w2 : IntKind.i64.wrap (100 * T * s) = 100 * T * s := IntWalk.i64_in _ (by omega)
  have w3 : IntKind.i64.wrap (2 * q) = 2 * q := IntWalk.i64_in _ (by omega)
  have w4 : IntKind.i64.wrap (2 * q * A) = 2 * q * A := IntWalk.i64_in _ (by omega)
  go_enter Try.func57, Try.ntmps57
  go_wp2
  go_ret
  exact ⟨by simp [*], by go_grown⟩

theorem in_wide {q : Int} (h : inB q 100 1000 = true) : inB q 0 1000 = true := by
  have := inB_true h
  simp [inB]; omega

/-- A search in a list of answers that are first false and then true, by a function that keeps to an invariant of the world. -/
theorem sortSearch_inv (n : Nat) (hn : n ≤ 1000000000) (g : FuncId) (he : Enters Try.prog g) (cap : Array Value) (p : Nat → Bool) (hmono : ∀ i j, i ≤ j → j < n → p i = true → p j = true) (I : World → Prop) (w : World) (h0 : I w)
    (hf : ∀ i, i < n → ∀ w1, I w1 → Calls Try.prog g (#[.int .i64 (i : Nat)] ++ cap) w1 fun e w2 => e = .returned (.bool (p i)) ∧ I w2) :
    Calls Try.prog 60 #[.int .i64 n, .func (.func g) #[] cap] w fun e w' => ∃ k : Nat, k ≤ n ∧ (∀ i, i < k → p i = false) ∧ (∀ i, k ≤ i → i < n → p i = true) ∧ e = .returned (.int .i64 k) ∧ I w' := by
  have Hf := Lib.hid hf; clear hf
  have Hm := Lib.hid hmono; clear hmono
  go_enter Try.func60, Try.ntmps60
  go_wp2_with fail
  go_loopw [5, 6] (fun i j wr => ∃ a b : Nat, a ≤ b ∧ b ≤ n ∧ i = .int .i64 a ∧ j = .int .i64 b ∧ (∀ i, i < a → p i = false) ∧ (∀ i, b ≤ i → i < n → p i = true) ∧ I wr) (fun i j _ => (intOf j).toNat - (intOf i).toNat)
  case atStart => exact ⟨0, n, by omega, Nat.le_refl _, rfl, rfl, fun i h => by omega, fun i h h2 => by omega, h0⟩
  case round =>
    obtain ⟨a, b, hab, hbn, rfl, rfl, hlo, hhi, hb⟩ := hrel
    have Hlo := Lib.hid hlo; clear hlo
    have Hhi := Lib.hid hhi; clear hhi
    by_cases hlt : a < b
    · have hm : ((a : Int) + (b : Int)) / 2 = (((a + b) / 2 : Nat) : Int) := by omega
      have hm1 : (a + b) / 2 < b ∧ a ≤ (a + b) / 2 := by omega
      generalize (a + b) / 2 = m at *
      have hc := Hf.out m (by omega) wr hb
      cases hp : p m
      all_goals
        rw [hp] at hc
        have Hp := Lib.hid hp; clear hp
        have Hc := Lib.hid hc; clear hc
        go_wp2_with fail
        rw [he, Oper.upon_enter]
        refine Hc.out.mono ?_
        rintro e w1 ⟨rfl, hb1⟩
        go_wp2
        go_roundw
        case rel => first
          | exact ⟨m + 1, b, by omega, hbn, by go_num, rfl, fun i hi => (by
              cases hq : p i
              · rfl
              · have := Hm.out i m (by omega) (by omega) hq
                rw [Hp.out] at this
                cases this), Hhi.out, hb1⟩
          | exact ⟨a, m, by omega, by omega, rfl, rfl, Hlo.out, fun i h1 h2 => Hm.out m i h1 h2 Hp.out, hb1⟩
        case measure => simp [intOf]; omega
    · have : a = b := by omega
      subst this
      go_wp2
      go_ret
      exact ⟨a, by omega, Hlo.out, Hhi.out, rfl, hb⟩

/-- A base that fills a block. -/
def BaBox (w : World) (p : Nat) (s m b j a c d : Int) : Prop := w.heap[p]? = some (.cells #[.int .i64 s, .int .i64 m, .int .i64 b, .int .i64 j, .int .i64 a, .int .i64 c, .int .i64 d] 25 (0, 0))

theorem BaBox_at {w : World} {p : Nat} {s m b j a c d : Int} (h : BaBox w p s m b j a c d) : BaAt w p s m b j a c d :=
  ⟨by rw [cell_of_row w p 0 _ _ _ h]; rfl, by rw [cell_of_row w p 1 _ _ _ h]; rfl, by rw [cell_of_row w p 2 _ _ _ h]; rfl, by rw [cell_of_row w p 3 _ _ _ h]; rfl, by rw [cell_of_row w p 4 _ _ _ h]; rfl, by rw [cell_of_row w p 5 _ _ _ h]; rfl, by rw [cell_of_row w p 6 _ _ _ h]; rfl⟩

theorem BaBox_new (s m b j a c d : Int) (w : World) : BaBox (w.alloc (.cells #[.int .i64 s, .int .i64 m, .int .i64 b, .int .i64 j, .int .i64 a, .int .i64 c, .int .i64 d] 25)) w.heap.size s m b j a c d := heap_alloc_new w _

theorem BaBox_lt {w : World} {p : Nat} {s m b j a c d : Int} (h : BaBox w p s m b j a c d) : p < w.heap.size := World.block_lt_of_cell? _ _ (BaBox_at h).1

theorem BaBox_kept {W w1 : World} {p : Nat} {s m b j a c d : Int} (h : BaBox W p s m b j a c d) (hb : Below W.heap.size W w1) : BaBox w1 p s m b j a c d := by
  unfold BaBox
  rw [hb.block p (BaBox_lt h)]
  exact h

theorem BaBox_set {w : World} {p : Nat} {s m b j a c d : Int} (h : BaBox w p s m b j a c d) (k : Int) : BaBox (w.setCell ⟨p, 2, none⟩ (.int .i64 k)) p s m k j a c d := heap_setCell_same w p 2 _ _ _ h

theorem totL_add (m k j c l : Int) : totL m k j c l = totL m 0 j c l + k := by unfold totL; omega

theorem stab_least {s m k j a c d l r q : Int} (hs : 0 < s) (hk : 0 ≤ k) : stabB s m k j a c d l r q = decide (leastL (totL m 0 j c l) s (2 * q * tiltL (tipL j a c d l r)) ≤ k) := by
  unfold stabB
  rw [totL_add, decide_eq_decide]
  exact least_iff _ _ _ _ hs hk

theorem base_ballast {s m b j a c d k : Int} (h : baseB s m b j a c d = true) (hk : 0 ≤ k ∧ k ≤ 500000) : baseB s m k j a c d = true := by
  have hi : inB k 0 500000 = true := by simp [inB]; omega
  unfold baseB at *
  simp only [Bool.and_eq_true] at *
  simp_all

/-- What LeastBallast returns. -/
def lbAll (s m b j a c d : Int) (l r q : Int) : Int × Int :=
  if codeL3 (baseB s m b j a c d) [inB l 0 50000, inB r 0 1000, inB q 100 1000] = 0 then
    (if leastL (totL m 0 j c l) s (2 * q * tiltL (tipL j a c d l r)) ≤ 500000 then (leastL (totL m 0 j c l) s (2 * q * tiltL (tipL j a c d l r)), 0) else (0, 3))
  else (0, codeL3 (baseB s m b j a c d) [inB l 0 50000, inB r 0 1000, inB q 100 1000])

theorem leastL_nn (T s X : Int) : 0 ≤ leastL T s X := by unfold leastL; omega

set_option maxHeartbeats 2000000 in
theorem specLB_any (s m b j a c d : Int) (l r q : Int) (w : World) :
    Calls Try.prog 29 #[.agg #[.int .i64 s, .int .i64 m, .int .i64 b, .int .i64 j, .int .i64 a, .int .i64 c, .int .i64 d], .int .i64 l, .int .i64 r, .int .i64 q] w fun e w' => e = .returned (.tuple #[.int .i64 (lbAll s m b j a c d l r q).1, .int .i64 (lbAll s m b j a c d l r q).2]) ∧ Below w.heap.size w w' := by
  have HA := Lib.hid (BaBox_new s m b j a c d w)
  have HC := fun u (x : BaAt u w.heap.size s m b j a c d) => specAsked_any w.heap.size s m b j a c d l r q u x
  unfold lbAll
  by_cases hK : codeL3 (baseB s m b j a c d) [inB l 0 50000, inB r 0 1000, inB q 100 1000] = 0
  · rw [hK] at HC
    rw [if_pos hK]
    obtain ⟨hv, hbs⟩ := codeL3_ok hK
    have hl : inB l 0 50000 = true := hbs _ (by simp)
    have hr : inB r 0 1000 = true := hbs _ (by simp)
    have hq : inB q 0 1000 = true := in_wide (hbs _ (by simp))
    have HC := Lib.hid HC
    have hs := (base_bd hv).1
    have HS : ∀ k, 0 ≤ k → k ≤ 500000 → ∀ u, BaAt u w.heap.size s m k j a c d → Calls Try.prog 55 #[.pointer (some ⟨w.heap.size, 0, none⟩), .int .i64 l, .int .i64 r, .int .i64 q] u fun e w' => e = .returned (.bool (decide (leastL (totL m 0 j c l) s (2 * q * tiltL (tipL j a c d l r)) ≤ k))) ∧ ∃ n, w' = u.drewN n := fun k h0 h1 u x => by
      rw [← stab_least (by omega) h0]
      exact specStable_any w.heap.size s m k j a c d l r q u x (base_ballast hv ⟨h0, h1⟩) hl hr hq
    have hnn := leastL_nn (totL m 0 j c l) s (2 * q * tiltL (tipL j a c d l r))
    clear hK hbs hv hl hr hq hs
    generalize leastL (totL m 0 j c l) s (2 * q * tiltL (tipL j a c d l r)) = L at *
    have hset : ∀ (u : World) k, BaBox u w.heap.size s m k j a c d → ∀ k', BaBox (u.setCell ⟨w.heap.size, 2, none⟩ (.int .i64 k')) w.heap.size s m k' j a c d := fun u k h k' => BaBox_set h k'
    have HSET := Lib.hid hset; clear hset
    by_cases hle : L ≤ 500000
    · rw [if_pos hle]
      have HS := Lib.hid HS
      have h5 := HS.out 500000 (by omega) (by omega)
      rw [decide_eq_true hle] at h5
      have H5 := Lib.hid h5; clear h5
      go_enter Try.func29, Try.ntmps29
      go_wp2_with fail
      refine (HC.out _ (BaBox_at HA.out)).mono ?_
      rintro e w1 ⟨rfl, rfl⟩
      go_wp2_with fail
      refine (H5.out _ (BaBox_at (BaBox_new s m 500000 j a c d w))).mono ?_
      rintro e w2 ⟨rfl, n2, rfl⟩
      go_wp2_with fail
      go_loopw [11, 12] (fun x y wr => ∃ lo hi k : Int, x = .int .i64 lo ∧ y = .int .i64 hi ∧ -1 ≤ lo ∧ lo < hi ∧ hi ≤ 500000 ∧ lo < L ∧ L ≤ hi ∧ BaBox wr w.heap.size s m k j a c d ∧ Below w.heap.size w wr) (fun x y _ => (intOf y - intOf x).toNat)
      case atStart => exact ⟨-1, 500000, 500000, rfl, rfl, by omega, by omega, by omega, by omega, by omega, BaBox_new s m 500000 j a c d w, kept_drewN (by go_grown) _⟩
      case round =>
        obtain ⟨lo, hi, k, rfl, rfl, h1, h2, h3, h4, h5, hbox, hb⟩ := hrel
        have hlt := BaBox_lt hbox
        have f2 := frozen_of_row wr w.heap.size 2 _ _ hbox
        have c2 := (BaBox_at hbox).2.2.1
        have HB := Lib.hid hbox; clear hbox
        by_cases hgo : 1 < hi - lo
        · have hm : (lo + hi).tdiv 2 = (lo + hi) / 2 := Int.tdiv_eq_ediv_of_nonneg (by omega)
          have hm1 : lo < (lo + hi) / 2 ∧ (lo + hi) / 2 < hi := by omega
          generalize hM : (lo + hi) / 2 = M at *
          have hc := HS.out M (by omega) (by omega) _ (BaBox_at (HSET.out _ _ HB.out M))
          cases hp : decide (L ≤ M)
          all_goals
            rw [hp] at hc
            have Hc := Lib.hid hc; clear hc
            simp only [decide_eq_true_eq, decide_eq_false_iff_not] at hp
            go_wp2_with fail
            refine Hc.out.mono ?_
            rintro e w3 ⟨rfl, n3, rfl⟩
            go_wp2
            go_roundw
            case rel => first
              | exact ⟨lo, M, M, rfl, rfl, by omega, by omega, by omega, by omega, by omega, HSET.out _ _ HB.out _, kept_drewN (hb.setCell (Nat.le_refl _) _) _⟩
              | exact ⟨M, hi, M, rfl, rfl, by omega, by omega, by omega, by omega, by omega, HSET.out _ _ HB.out _, kept_drewN (hb.setCell (Nat.le_refl _) _) _⟩
            case measure => simp [intOf]; omega
        · have : hi = L := by omega
          subst this
          go_wp2
          go_ret2
          exact ⟨rfl, hb⟩
    · rw [if_neg hle]
      have h5 := HS 500000 (by omega) (by omega)
      rw [decide_eq_false hle] at h5
      have H5 := Lib.hid h5; clear h5 HS
      go_enter Try.func29, Try.ntmps29
      go_wp2_with fail
      refine (HC.out _ (BaBox_at HA.out)).mono ?_
      rintro e w1 ⟨rfl, rfl⟩
      go_wp2_with fail
      refine (H5.out _ (BaBox_at (BaBox_new s m 500000 j a c d w))).mono ?_
      rintro e w2 ⟨rfl, n2, rfl⟩
      go_wp2
      go_ret2
      exact ⟨rfl, (by first | (go_grown; done) | (refine kept_drewN ?_ _; go_grown; done) | (go_grown; refine kept_drewN ?_ _; go_grown))⟩
  · rw [if_neg hK]
    have hK1 : (codeL3 (baseB s m b j a c d) [inB l 0 50000, inB r 0 1000, inB q 100 1000] == 0) = false := by simpa using hK
    have hK2 : (codeL3 (baseB s m b j a c d) [inB l 0 50000, inB r 0 1000, inB q 100 1000] != 0) = true := by simpa using hK
    generalize codeL3 (baseB s m b j a c d) [inB l 0 50000, inB r 0 1000, inB q 100 1000] = K at *
    have HC := Lib.hid HC
    go_enter Try.func29, Try.ntmps29
    go_wp2_with fail
    refine (HC.out _ (BaBox_at HA.out)).mono ?_
    rintro e w1 ⟨rfl, rfl⟩
    go_wp2
    go_ret2
    exact ⟨rfl, by go_grown⟩

theorem grown_cell {w w1 : World} {p q o : Nat} {v : Value} (hg : w.grownBy w1 (some p)) (h : w.cell? ⟨q, o, none⟩ = some v) (hne : q ≠ p) : w1.cell? ⟨q, o, none⟩ = some v := hg.cell h (fun e => hne (by injection e))

theorem below_grown {u v : World} (h : Below u.heap.size u v) (row : Option Nat) : u.grownBy v row := ⟨h.os, h.tape, h.output, h.size, fun i hi _ => h.block i hi⟩

set_option maxHeartbeats 1000000 in
theorem lbClosure_any (s m b j a c d : Int) (l r q i k : Int) (p0 p1 p2 p3 : Nat) (w : World) (hv : baseB s m b j a c d = true) (hl : inB l 0 50000 = true) (hr : inB r 0 1000 = true) (hq : inB q 0 1000 = true) (hi : 0 ≤ i ∧ i ≤ 500000)
    (hbox : BaBox w p0 s m k j a c d) (h1 : w.cell? ⟨p1, 0, none⟩ = some (.int .i64 l)) (h2 : w.cell? ⟨p2, 0, none⟩ = some (.int .i64 r)) (h3 : w.cell? ⟨p3, 0, none⟩ = some (.int .i64 q)) (n1 : p1 ≠ p0) (n2 : p2 ≠ p0) (n3 : p3 ≠ p0) :
    Calls Try.prog 61 #[.int .i64 i, .pointer (some ⟨p0, 0, none⟩), .pointer (some ⟨p1, 0, none⟩), .pointer (some ⟨p2, 0, none⟩), .pointer (some ⟨p3, 0, none⟩)] w fun e w' =>
      e = .returned (.bool (decide (leastL (totL m 0 j c l) s (2 * q * tiltL (tipL j a c d l r)) ≤ i))) ∧ BaBox w' p0 s m i j a c d ∧ w.grownBy w' (some p0) := by
  have hs := (base_bd hv).1
  rw [← stab_least (by omega) hi.1]
  have hvi := base_ballast hv hi
  have hS := stab_parts hvi hl hr hq
  have HT := Lib.hid (fun u => stance_any s m i j a c d l r u hvi hl hr)
  have HF := Lib.hid (fun u => safe_any s (totL m i j c l) (tiltL (tipL j a c d l r)) q u hS.2.2.2.1 hS.2.2.2.2.1 hS.1 (inB_true hq))
  unfold stabB
  clear hvi hS hv hl hr hq hs
  generalize totL m i j c l = T at *
  generalize tiltL (tipL j a c d l r) = A at *
  generalize decide (2 * q * A ≤ 100 * T * s) = R at *
  have f2 := frozen_of_row w p0 2 _ _ hbox
  have c2 := (BaBox_at hbox).2.2.1
  have gs := grown_set w ⟨p0, 2, none⟩ (.int .i64 i)
  have sb := BaBox_set hbox i
  have s1 := grown_cell gs h1 n1
  have s2 := grown_cell gs h2 n2
  have s3 := grown_cell gs h3 n3
  have l0 := BaBox_lt sb
  have l1 := World.block_lt_of_cell? _ _ s1
  have l2 := World.block_lt_of_cell? _ _ s2
  have l3 := World.block_lt_of_cell? _ _ s3
  obtain ⟨a0, a1, a2, a3, a4, a5, a6⟩ := BaBox_at sb
  have SB := Lib.hid sb; clear sb
  have GS := Lib.hid gs; clear gs hbox h1 h2 h3
  go_enter Try.func61, Try.ntmps61
  go_wp2_with fail
  generalize w.setCell ⟨p0, 2, none⟩ (.int .i64 i) = u at *
  clear f2 c2
  first
    | go_region_held3 (fun w' => w'.cell? ⟨p0, 0, none⟩ = some (.int .i64 s) ∧ w'.cell? ⟨p0, 1, none⟩ = some (.int .i64 m) ∧ w'.cell? ⟨p0, 2, none⟩ = some (.int .i64 i) ∧ w'.cell? ⟨p0, 3, none⟩ = some (.int .i64 j) ∧ w'.cell? ⟨p0, 4, none⟩ = some (.int .i64 a) ∧ w'.cell? ⟨p0, 5, none⟩ = some (.int .i64 c) ∧ w'.cell? ⟨p0, 6, none⟩ = some (.int .i64 d) ∧ w'.cell? ⟨p1, 0, none⟩ = some (.int .i64 l) ∧ w'.cell? ⟨p2, 0, none⟩ = some (.int .i64 r) ∧ w'.cell? ⟨p3, 0, none⟩ = some (.int .i64 q)) (go_keep) (first
      | (go_at_call 53; refine (HT.out _).mono ?_; rintro e w1 ⟨rfl, hb1⟩; refine kept_at hb1 p0 (by go_size) fun c1_0 z1_0 s1_0 => ?_; refine kept_at hb1 p1 (by go_size) fun c1_1 z1_1 s1_1 => ?_; refine kept_at hb1 p2 (by go_size) fun c1_2 z1_2 s1_2 => ?_; refine kept_at hb1 p3 (by go_size) fun c1_3 z1_3 s1_3 => ?_; have b1 := kept_trans (a := u) (by go_grown) hb1)
      | (go_at_call 57; refine (HF.out _).mono ?_; rintro e w2 ⟨rfl, hb2⟩; refine kept_at hb2 p0 (by go_size) fun c2_0 z2_0 s2_0 => ?_; refine kept_at hb2 p1 (by go_size) fun c2_1 z2_1 s2_1 => ?_; refine kept_at hb2 p2 (by go_size) fun c2_2 z2_2 s2_2 => ?_; refine kept_at hb2 p3 (by go_size) fun c2_3 z2_3 s2_3 => ?_; have b2 := kept_trans (a := u) (by go_grown) hb2))
    | fail
  all_goals
    go_wp2
    go_ret
    exact ⟨rfl, BaBox_kept SB.out b2, grown_step GS.out (below_grown b2 _)⟩

/-- The boxes of a search for ballast. -/
def LbAt (w u : World) (s m b j a c d : Int) (l r q : Int) : Prop :=
  BaBox u w.heap.size s m b j a c d ∧ u.cell? ⟨w.heap.size + 1, 0, none⟩ = some (.int .i64 l) ∧ u.cell? ⟨w.heap.size + 1 + 1, 0, none⟩ = some (.int .i64 r) ∧ u.cell? ⟨w.heap.size + 1 + 1 + 1, 0, none⟩ = some (.int .i64 q) ∧ u.heap.size = w.heap.size + 4 ∧ Below w.heap.size w u

theorem lbAt_new (s m b j a c d : Int) (l r q : Int) (w : World) : LbAt w ((((w.alloc (.cells #[.int .i64 s, .int .i64 m, .int .i64 b, .int .i64 j, .int .i64 a, .int .i64 c, .int .i64 d] 25)).alloc (.cells #[.int .i64 l] 2)).alloc (.cells #[.int .i64 r] 2)).alloc (.cells #[.int .i64 q] 2)) s m b j a c d l r q := by
  refine ⟨?_, ?_, ?_, ?_, by simp, by go_grown⟩
  · exact BaBox_kept (BaBox_kept (BaBox_kept (BaBox_new _ _ _ _ _ _ _ _) (by go_grown)) (by go_grown)) (by go_grown)
  · rw [World.cell?_alloc_past _ _ _ (by simp), World.cell?_alloc_past _ _ _ (by simp)]
    simp
  · rw [World.cell?_alloc_past _ _ _ (by simp)]
    have := cell_of_row _ _ 0 _ _ _ (heap_alloc_new ((w.alloc (.cells #[.int .i64 s, .int .i64 m, .int .i64 b, .int .i64 j, .int .i64 a, .int .i64 c, .int .i64 d] 25)).alloc (.cells #[.int .i64 l] 2)) (.cells #[.int .i64 r] 2))
    simpa using this
  · have := cell_of_row _ _ 0 _ _ _ (heap_alloc_new (((w.alloc (.cells #[.int .i64 s, .int .i64 m, .int .i64 b, .int .i64 j, .int .i64 a, .int .i64 c, .int .i64 d] 25)).alloc (.cells #[.int .i64 l] 2)).alloc (.cells #[.int .i64 r] 2)) (.cells #[.int .i64 q] 2))
    simpa using this

set_option maxHeartbeats 2000000 in
theorem implLB_any (s m b j a c d : Int) (l r q : Int) (w : World) :
    Calls Try.prog 30 #[.agg #[.int .i64 s, .int .i64 m, .int .i64 b, .int .i64 j, .int .i64 a, .int .i64 c, .int .i64 d], .int .i64 l, .int .i64 r, .int .i64 q] w fun e w' => e = .returned (.tuple #[.int .i64 (lbAll s m b j a c d l r q).1, .int .i64 (lbAll s m b j a c d l r q).2]) ∧ Below w.heap.size w w' := by
  have HC := fun u v (x : RdT u v [inB l 0 50000, inB r 0 1000, inB q 100 1000]) => baseCode_any s m b j a c d v [inB l 0 50000, inB r 0 1000, inB q 100 1000] u x
  unfold lbAll
  by_cases hK : codeL3 (baseB s m b j a c d) [inB l 0 50000, inB r 0 1000, inB q 100 1000] = 0
  · rw [hK] at HC
    rw [if_pos hK]
    obtain ⟨hv, hbs⟩ := codeL3_ok hK
    have hl : inB l 0 50000 = true := hbs _ (by simp)
    have hr : inB r 0 1000 = true := hbs _ (by simp)
    have hq : inB q 0 1000 = true := in_wide (hbs _ (by simp))
    have HC := Lib.hid (fun u v x => HC u v x)
    have HB := fun i (hi : 0 ≤ i ∧ i ≤ 500000) k p0 p1 p2 p3 u hbox h1 h2 h3 n1 n2 n3 => lbClosure_any s m b j a c d l r q i k p0 p1 p2 p3 u hv hl hr hq hi hbox h1 h2 h3 n1 n2 n3
    have hnn := leastL_nn (totL m 0 j c l) s (2 * q * tiltL (tipL j a c d l r))
    clear hK hbs hv hl hr hq
    generalize leastL (totL m 0 j c l) s (2 * q * tiltL (tipL j a c d l r)) = L at *
    have HSEARCH : ∀ (W : World), (∃ k, BaBox W w.heap.size s m k j a c d) → W.cell? ⟨w.heap.size + 1, 0, none⟩ = some (.int .i64 l) → W.cell? ⟨w.heap.size + 1 + 1, 0, none⟩ = some (.int .i64 r) → W.cell? ⟨w.heap.size + 1 + 1 + 1, 0, none⟩ = some (.int .i64 q) →
        Calls Try.prog 60 #[.int .i64 500001, .func (.func 61) #[] #[.pointer (some ⟨w.heap.size, 0, none⟩), .pointer (some ⟨w.heap.size + 1, 0, none⟩), .pointer (some ⟨w.heap.size + 1 + 1, 0, none⟩), .pointer (some ⟨w.heap.size + 1 + 1 + 1, 0, none⟩)]] W
          fun e w' => e = .returned (.int .i64 (if L ≤ 500000 then L else 500001)) ∧ W.grownBy w' (some w.heap.size) := by
      intro W hW c1 c2 c3
      refine (sortSearch_inv 500001 (by omega) 61 (enters_of Try.func61 (by kernel_rfl) rfl) _ (fun i => decide (L ≤ (i : Int))) (fun i j hij _ hp => by simp at hp ⊢; omega)
        (fun u => (∃ k, BaBox u w.heap.size s m k j a c d) ∧ W.grownBy u (some w.heap.size)) W ⟨hW, World.grownBy.refl _ _⟩ ?_).mono ?_
      · rintro i hi w1 ⟨⟨k, hb⟩, hg⟩
        exact (HB i (by omega) k _ _ _ _ w1 hb (grown_cell hg c1 (by omega)) (grown_cell hg c2 (by omega)) (grown_cell hg c3 (by omega)) (by omega) (by omega) (by omega)).mono fun e w' h => ⟨h.1, ⟨i, h.2.1⟩, grown_step hg h.2.2⟩
      · rintro e w1 ⟨k, hk, hlo, hhi, rfl, _, hg⟩
        refine ⟨?_, hg⟩
        have hlo' : ∀ i : Nat, i < k → ¬ L ≤ (i : Int) := fun i hi => by have := hlo i hi; simpa using this
        have hhi' : ∀ i : Nat, k ≤ i → i < 500001 → L ≤ (i : Int) := fun i h1 h2 => by have := hhi i h1 h2; simpa using this
        have : (k : Int) = if L ≤ 500000 then L else 500001 := by
          by_cases hL : L ≤ 500000
          · rw [if_pos hL]
            rcases Nat.lt_trichotomy k L.toNat with h | h | h
            · have := hhi' k (Nat.le_refl _) (by omega); omega
            · omega
            · exact absurd (by omega) (hlo' L.toNat h)
          · rw [if_neg hL]
            rcases Nat.lt_or_ge k 500001 with h | h
            · have := hhi' k (Nat.le_refl _) h; omega
            · omega
        rw [this]
    have HSEARCH := Lib.hid HSEARCH
    clear HB
    have hmf : ∀ (fn : Fn) (first cap : Array Value) (w : World), (Instr.makeFunc fn first cap).run Try.prog w = .ok (.func fn first cap) w := fun _ _ _ _ => rfl
    by_cases hL : L ≤ 500000
    · rw [if_pos hL]
      simp only [if_pos hL] at HSEARCH
      go_enter Try.func30, Try.ntmps30
      go_wp2_with fail
      have hu := lbAt_new s m b j a c d l r q w
      generalize ((((w.alloc (.cells #[.int .i64 s, .int .i64 m, .int .i64 b, .int .i64 j, .int .i64 a, .int .i64 c, .int .i64 d] 25)).alloc (.cells #[.int .i64 l] 2)).alloc (.cells #[.int .i64 r] 2)).alloc (.cells #[.int .i64 q] 2)) = u at *
      obtain ⟨ub, u1, u2, u3, uz, ubl⟩ := hu
      obtain ⟨a0, a1, a2, a3, a4, a5, a6⟩ := BaBox_at ub
      have UB := Lib.hid ub; clear ub
      have hk0 : w.heap.size < u.heap.size := by omega
      have hk1 : w.heap.size + 1 < u.heap.size := by omega
      have hk2 : w.heap.size + 1 + 1 < u.heap.size := by omega
      have hk3 : w.heap.size + 1 + 1 + 1 < u.heap.size := by omega
      clear uz
      first
        | go_region_held3 (fun w' => w'.cell? ⟨w.heap.size, 0, none⟩ = some (.int .i64 s) ∧ w'.cell? ⟨w.heap.size, 1, none⟩ = some (.int .i64 m) ∧ w'.cell? ⟨w.heap.size, 2, none⟩ = some (.int .i64 b) ∧ w'.cell? ⟨w.heap.size, 3, none⟩ = some (.int .i64 j) ∧ w'.cell? ⟨w.heap.size, 4, none⟩ = some (.int .i64 a) ∧ w'.cell? ⟨w.heap.size, 5, none⟩ = some (.int .i64 c) ∧ w'.cell? ⟨w.heap.size, 6, none⟩ = some (.int .i64 d) ∧ w'.cell? ⟨w.heap.size + 1, 0, none⟩ = some (.int .i64 l) ∧ w'.cell? ⟨w.heap.size + 1 + 1, 0, none⟩ = some (.int .i64 r) ∧ w'.cell? ⟨w.heap.size + 1 + 1 + 1, 0, none⟩ = some (.int .i64 q)) (go_keep) (first
            | (go_at_call 46; refine (validLoad_any _ _).mono ?_; rintro e w1 ⟨rfl, hb1⟩; refine kept_at hb1 (w.heap.size) (by go_size) fun c1_0 z1_0 s1_0 => ?_; refine kept_at hb1 (w.heap.size + 1) (by go_size) fun c1_1 z1_1 s1_1 => ?_; refine kept_at hb1 (w.heap.size + 1 + 1) (by go_size) fun c1_2 z1_2 s1_2 => ?_; refine kept_at hb1 (w.heap.size + 1 + 1 + 1) (by go_size) fun c1_3 z1_3 s1_3 => ?_; have e1 := kept_trans (a := u) (by go_grown) hb1)
            | (go_at_call 49; refine (validRadius_any _ _).mono ?_; rintro e w2 ⟨rfl, hb2⟩; refine kept_at hb2 (w.heap.size) (by go_size) fun c2_0 z2_0 s2_0 => ?_; refine kept_at hb2 (w.heap.size + 1) (by go_size) fun c2_1 z2_1 s2_1 => ?_; refine kept_at hb2 (w.heap.size + 1 + 1) (by go_size) fun c2_2 z2_2 s2_2 => ?_; refine kept_at hb2 (w.heap.size + 1 + 1 + 1) (by go_size) fun c2_3 z2_3 s2_3 => ?_; have e2 := kept_trans (a := u) (by go_grown) hb2)
            | (go_at_call 56; refine (validPercent_any _ _).mono ?_; rintro e w3 ⟨rfl, hb3⟩; refine kept_at hb3 (w.heap.size) (by go_size) fun c3_0 z3_0 s3_0 => ?_; refine kept_at hb3 (w.heap.size + 1) (by go_size) fun c3_1 z3_1 s3_1 => ?_; refine kept_at hb3 (w.heap.size + 1 + 1) (by go_size) fun c3_2 z3_2 s3_2 => ?_; refine kept_at hb3 (w.heap.size + 1 + 1 + 1) (by go_size) fun c3_3 z3_3 s3_3 => ?_; have e3 := kept_trans (a := u) (by go_grown) hb3)
            | (go_at_call 45; refine (HC.out _ _ (rdT3 (by go_size) (by go_simp) (by go_simp) (by go_simp))).mono ?_; rintro e w4 ⟨rfl, hb4⟩; refine kept_at hb4 (w.heap.size) (by go_size) fun c4_0 z4_0 s4_0 => ?_; refine kept_at hb4 (w.heap.size + 1) (by go_size) fun c4_1 z4_1 s4_1 => ?_; refine kept_at hb4 (w.heap.size + 1 + 1) (by go_size) fun c4_2 z4_2 s4_2 => ?_; refine kept_at hb4 (w.heap.size + 1 + 1 + 1) (by go_size) fun c4_3 z4_3 s4_3 => ?_; have e4 := kept_trans (a := u) (by first | (go_grown; done) | (go_grown; exact e3.size)) hb4))
        | fail
      all_goals
        go_wp2_with fail
        refine (HSEARCH.out _ ⟨_, BaBox_kept UB.out e4⟩ ((kept_cell e4 _ 0 hk1).trans u1) ((kept_cell e4 _ 0 hk2).trans u2) ((kept_cell e4 _ 0 hk3).trans u3)).mono ?_
        rintro e w9 ⟨rfl, hg9⟩
        have b9 : Below w.heap.size w w9 := grown_below (kept_trans ubl e4) hg9 (fun g hg => by injection hg with hg; omega)
        go_wp2
        go_ret2
        exact ⟨rfl, b9⟩
    · rw [if_neg hL]
      simp only [if_neg hL] at HSEARCH
      go_enter Try.func30, Try.ntmps30
      go_wp2_with fail
      have hu := lbAt_new s m b j a c d l r q w
      generalize ((((w.alloc (.cells #[.int .i64 s, .int .i64 m, .int .i64 b, .int .i64 j, .int .i64 a, .int .i64 c, .int .i64 d] 25)).alloc (.cells #[.int .i64 l] 2)).alloc (.cells #[.int .i64 r] 2)).alloc (.cells #[.int .i64 q] 2)) = u at *
      obtain ⟨ub, u1, u2, u3, uz, ubl⟩ := hu
      obtain ⟨a0, a1, a2, a3, a4, a5, a6⟩ := BaBox_at ub
      have UB := Lib.hid ub; clear ub
      have hk0 : w.heap.size < u.heap.size := by omega
      have hk1 : w.heap.size + 1 < u.heap.size := by omega
      have hk2 : w.heap.size + 1 + 1 < u.heap.size := by omega
      have hk3 : w.heap.size + 1 + 1 + 1 < u.heap.size := by omega
      clear uz
      first
        | go_region_held3 (fun w' => w'.cell? ⟨w.heap.size, 0, none⟩ = some (.int .i64 s) ∧ w'.cell? ⟨w.heap.size, 1, none⟩ = some (.int .i64 m) ∧ w'.cell? ⟨w.heap.size, 2, none⟩ = some (.int .i64 b) ∧ w'.cell? ⟨w.heap.size, 3, none⟩ = some (.int .i64 j) ∧ w'.cell? ⟨w.heap.size, 4, none⟩ = some (.int .i64 a) ∧ w'.cell? ⟨w.heap.size, 5, none⟩ = some (.int .i64 c) ∧ w'.cell? ⟨w.heap.size, 6, none⟩ = some (.int .i64 d) ∧ w'.cell? ⟨w.heap.size + 1, 0, none⟩ = some (.int .i64 l) ∧ w'.cell? ⟨w.heap.size + 1 + 1, 0, none⟩ = some (.int .i64 r) ∧ w'.cell? ⟨w.heap.size + 1 + 1 + 1, 0, none⟩ = some (.int .i64 q)) (go_keep) (first
            | (go_at_call 46; refine (validLoad_any _ _).mono ?_; rintro e w1 ⟨rfl, hb1⟩; refine kept_at hb1 (w.heap.size) (by go_size) fun c1_0 z1_0 s1_0 => ?_; refine kept_at hb1 (w.heap.size + 1) (by go_size) fun c1_1 z1_1 s1_1 => ?_; refine kept_at hb1 (w.heap.size + 1 + 1) (by go_size) fun c1_2 z1_2 s1_2 => ?_; refine kept_at hb1 (w.heap.size + 1 + 1 + 1) (by go_size) fun c1_3 z1_3 s1_3 => ?_; have e1 := kept_trans (a := u) (by go_grown) hb1)
            | (go_at_call 49; refine (validRadius_any _ _).mono ?_; rintro e w2 ⟨rfl, hb2⟩; refine kept_at hb2 (w.heap.size) (by go_size) fun c2_0 z2_0 s2_0 => ?_; refine kept_at hb2 (w.heap.size + 1) (by go_size) fun c2_1 z2_1 s2_1 => ?_; refine kept_at hb2 (w.heap.size + 1 + 1) (by go_size) fun c2_2 z2_2 s2_2 => ?_; refine kept_at hb2 (w.heap.size + 1 + 1 + 1) (by go_size) fun c2_3 z2_3 s2_3 => ?_; have e2 := kept_trans (a := u) (by go_grown) hb2)
            | (go_at_call 56; refine (validPercent_any _ _).mono ?_; rintro e w3 ⟨rfl, hb3⟩; refine kept_at hb3 (w.heap.size) (by go_size) fun c3_0 z3_0 s3_0 => ?_; refine kept_at hb3 (w.heap.size + 1) (by go_size) fun c3_1 z3_1 s3_1 => ?_; refine kept_at hb3 (w.heap.size + 1 + 1) (by go_size) fun c3_2 z3_2 s3_2 => ?_; refine kept_at hb3 (w.heap.size + 1 + 1 + 1) (by go_size) fun c3_3 z3_3 s3_3 => ?_; have e3 := kept_trans (a := u) (by go_grown) hb3)
            | (go_at_call 45; refine (HC.out _ _ (rdT3 (by go_size) (by go_simp) (by go_simp) (by go_simp))).mono ?_; rintro e w4 ⟨rfl, hb4⟩; refine kept_at hb4 (w.heap.size) (by go_size) fun c4_0 z4_0 s4_0 => ?_; refine kept_at hb4 (w.heap.size + 1) (by go_size) fun c4_1 z4_1 s4_1 => ?_; refine kept_at hb4 (w.heap.size + 1 + 1) (by go_size) fun c4_2 z4_2 s4_2 => ?_; refine kept_at hb4 (w.heap.size + 1 + 1 + 1) (by go_size) fun c4_3 z4_3 s4_3 => ?_; have e4 := kept_trans (a := u) (by first | (go_grown; done) | (go_grown; exact e3.size)) hb4))
        | fail
      all_goals
        go_wp2_with fail
        refine (HSEARCH.out _ ⟨_, BaBox_kept UB.out e4⟩ ((kept_cell e4 _ 0 hk1).trans u1) ((kept_cell e4 _ 0 hk2).trans u2) ((kept_cell e4 _ 0 hk3).trans u3)).mono ?_
        rintro e w9 ⟨rfl, hg9⟩
        have b9 : Below w.heap.size w w9 := grown_below (kept_trans ubl e4) hg9 (fun g hg => by injection hg with hg; omega)
        go_wp2
        go_ret2
        exact ⟨rfl, b9⟩
  · rw [if_neg hK]
    have hK1 : (codeL3 (baseB s m b j a c d) [inB l 0 50000, inB r 0 1000, inB q 100 1000] == 0) = false := by simpa using hK
    have hK2 : (codeL3 (baseB s m b j a c d) [inB l 0 50000, inB r 0 1000, inB q 100 1000] != 0) = true := by simpa using hK
    generalize codeL3 (baseB s m b j a c d) [inB l 0 50000, inB r 0 1000, inB q 100 1000] = K at *
    have HC := Lib.hid (fun u v x => HC u v x)
    go_enter Try.func30, Try.ntmps30
    go_wp2_with fail
    have hu := lbAt_new s m b j a c d l r q w
    generalize ((((w.alloc (.cells #[.int .i64 s, .int .i64 m, .int .i64 b, .int .i64 j, .int .i64 a, .int .i64 c, .int .i64 d] 25)).alloc (.cells #[.int .i64 l] 2)).alloc (.cells #[.int .i64 r] 2)).alloc (.cells #[.int .i64 q] 2)) = u at *
    obtain ⟨ub, u1, u2, u3, uz, ubl⟩ := hu
    obtain ⟨a0, a1, a2, a3, a4, a5, a6⟩ := BaBox_at ub
    have UB := Lib.hid ub; clear ub
    have hk0 : w.heap.size < u.heap.size := by omega
    have hk1 : w.heap.size + 1 < u.heap.size := by omega
    have hk2 : w.heap.size + 1 + 1 < u.heap.size := by omega
    have hk3 : w.heap.size + 1 + 1 + 1 < u.heap.size := by omega
    clear uz
    first
      | go_region_held3 (fun w' => w'.cell? ⟨w.heap.size, 0, none⟩ = some (.int .i64 s) ∧ w'.cell? ⟨w.heap.size, 1, none⟩ = some (.int .i64 m) ∧ w'.cell? ⟨w.heap.size, 2, none⟩ = some (.int .i64 b) ∧ w'.cell? ⟨w.heap.size, 3, none⟩ = some (.int .i64 j) ∧ w'.cell? ⟨w.heap.size, 4, none⟩ = some (.int .i64 a) ∧ w'.cell? ⟨w.heap.size, 5, none⟩ = some (.int .i64 c) ∧ w'.cell? ⟨w.heap.size, 6, none⟩ = some (.int .i64 d) ∧ w'.cell? ⟨w.heap.size + 1, 0, none⟩ = some (.int .i64 l) ∧ w'.cell? ⟨w.heap.size + 1 + 1, 0, none⟩ = some (.int .i64 r) ∧ w'.cell? ⟨w.heap.size + 1 + 1 + 1, 0, none⟩ = some (.int .i64 q)) (go_keep) (first
          | (go_at_call 46; refine (validLoad_any _ _).mono ?_; rintro e w1 ⟨rfl, hb1⟩; refine kept_at hb1 (w.heap.size) (by go_size) fun c1_0 z1_0 s1_0 => ?_; refine kept_at hb1 (w.heap.size + 1) (by go_size) fun c1_1 z1_1 s1_1 => ?_; refine kept_at hb1 (w.heap.size + 1 + 1) (by go_size) fun c1_2 z1_2 s1_2 => ?_; refine kept_at hb1 (w.heap.size + 1 + 1 + 1) (by go_size) fun c1_3 z1_3 s1_3 => ?_; have e1 := kept_trans (a := u) (by go_grown) hb1)
          | (go_at_call 49; refine (validRadius_any _ _).mono ?_; rintro e w2 ⟨rfl, hb2⟩; refine kept_at hb2 (w.heap.size) (by go_size) fun c2_0 z2_0 s2_0 => ?_; refine kept_at hb2 (w.heap.size + 1) (by go_size) fun c2_1 z2_1 s2_1 => ?_; refine kept_at hb2 (w.heap.size + 1 + 1) (by go_size) fun c2_2 z2_2 s2_2 => ?_; refine kept_at hb2 (w.heap.size + 1 + 1 + 1) (by go_size) fun c2_3 z2_3 s2_3 => ?_; have e2 := kept_trans (a := u) (by go_grown) hb2)
          | (go_at_call 56; refine (validPercent_any _ _).mono ?_; rintro e w3 ⟨rfl, hb3⟩; refine kept_at hb3 (w.heap.size) (by go_size) fun c3_0 z3_0 s3_0 => ?_; refine kept_at hb3 (w.heap.size + 1) (by go_size) fun c3_1 z3_1 s3_1 => ?_; refine kept_at hb3 (w.heap.size + 1 + 1) (by go_size) fun c3_2 z3_2 s3_2 => ?_; refine kept_at hb3 (w.heap.size + 1 + 1 + 1) (by go_size) fun c3_3 z3_3 s3_3 => ?_; have e3 := kept_trans (a := u) (by go_grown) hb3)
          | (go_at_call 45; refine (HC.out _ _ (rdT3 (by go_size) (by go_simp) (by go_simp) (by go_simp))).mono ?_; rintro e w4 ⟨rfl, hb4⟩; refine kept_at hb4 (w.heap.size) (by go_size) fun c4_0 z4_0 s4_0 => ?_; refine kept_at hb4 (w.heap.size + 1) (by go_size) fun c4_1 z4_1 s4_1 => ?_; refine kept_at hb4 (w.heap.size + 1 + 1) (by go_size) fun c4_2 z4_2 s4_2 => ?_; refine kept_at hb4 (w.heap.size + 1 + 1 + 1) (by go_size) fun c4_3 z4_3 s4_3 => ?_; have e4 := kept_trans (a := u) (by first | (go_grown; done) | (go_grown; exact e3.size)) hb4))
      | fail
    all_goals
      go_wp2
      go_ret2
      exact ⟨rfl, kept_trans ubl e4⟩

theorem walk_FnExactLeastBallast (s m b j a c d : Int) (l : Int) (wl : (Lit.int .i64 l).wf = true) (r : Int) (wr : (Lit.int .i64 r).wf = true) (q : Int) (wq : (Lit.int .i64 q).wf = true) (w : World) :
    Calls Try.prog 10 #[.agg #[.int .i64 s, .int .i64 m, .int .i64 b, .int .i64 j, .int .i64 a, .int .i64 c, .int .i64 d], .int .i64 l, .int .i64 r, .int .i64 q] w fun e w' => e = .returned (.bool true) ∧ Below w.heap.size w w' := by
  have hS := fun u => specLB_any s m b j a c d l r q u
  have hI := fun u => implLB_any s m b j a c d l r q u
  generalize lbAll s m b j a c d l r q = L at *
  obtain ⟨la, lb⟩ := L
  (try dsimp only at hS hI)
  have HS := Lib.hid hS; clear hS
  have HI := Lib.hid hI; clear hI
  go_enter Try.func10, Try.ntmps10
  go_wp2_with fail
  refine (toBase_any s m b j a c d _).mono ?_
  rintro e w1 ⟨rfl, b1⟩
  refine kept_at b1 (w.heap.size) (by go_size) fun c1_0 z1_0 s1_0 => ?_
  replace b1 := kept_trans (a := w) (by go_grown) b1
  have l1 := kept_cell b1
  have zz1 := b1.size
  go_wp2_with fail
  refine (HS.out _).mono ?_
  rintro e w2 ⟨rfl, b2⟩
  refine kept_at b2 (w.heap.size) (by go_size) fun c2_0 z2_0 s2_0 => ?_
  replace b2 := kept_trans (a := w) (by go_grown) b2
  have l2 := kept_cell b2
  have zz2 := b2.size
  go_wp2_with fail
  refine (toBase_any s m b j a c d _).mono ?_
  rintro e w3 ⟨rfl, b3⟩
  refine kept_at b3 (w.heap.size) (by go_size) fun c3_0 z3_0 s3_0 => ?_
  replace b3 := kept_trans (a := w) (by go_grown) b3
  have l3 := kept_cell b3
  have zz3 := b3.size
  go_wp2_with fail
  refine (HI.out _).mono ?_
  rintro e w4 ⟨rfl, b4⟩
  replace b4 := kept_trans (a := w) (by go_grown) b4
  have l4 := kept_cell b4
  have zz4 := b4.size
  go_wp2
  go_ret
  exact ⟨rfl, by go_grown⟩

end Go.Proofs.Ytjdppjcmelflbab
namespace Go.Proofs.Ytjdppjcmelflbab.fnExactLeastBallast
open Go.ChangeShapes Go.WideShapes Go.ChangeAt Go.RowKit
set_option linter.unusedVariables false
set_option linter.unusedSimpArgs false
open Go.Joins Go.ChangeMaps
set_option maxRecDepth 100000 in
theorem lifted (os : Os) (started : os.Started) (H : Type) (enc : TypeId × Value → H) :
    ReturnsInHanded {} Try.checked os 10 .any (Rows.fnExactLeastBallastSpec.pre6 enc Try.prog Try.f10 Rows.fnExactLeastBallastRow.domain false) (Rows.fnExactLeastBallastSpec.post enc Try.prog Try.f10 false true false false) := by
  refine returnsInHanded_of_change (C := Try.checked) (show ownKnob Try.prog.godebug = none by kernel_rfl) started (by kernel_rfl) Try.func10
    (ChangeSpec.witness6 (enc := enc) (C := Try.checked) false ⟨#[], #[.agg #[.int .i64 0, .int .i64 0, .int .i64 0, .int .i64 0, .int .i64 0, .int .i64 0, .int .i64 0], .int .i64 0, .int .i64 0, .int .i64 0], []⟩ 8 (by kernel_rfl) (by kernel_rfl) (by kernel_rfl) (by kernel_rfl)) ?_
  intro W base args ds gs before hval0 hW hcnd _
  have hval : ∀ (j : Nat) t v, Try.f10.params[j]? = some t → args[j]? = some v → Value.okWide Try.prog W .any base t v := hval0
  have hW' := hW
  obtain ⟨p, q, hA0, hV, rfl, hfz, hnd⟩ := hW
  have hA : DataW.TrodAll enc Try.prog W 0 (fun _ => true) true Try.f10.params.toList args.toList ds p := hA0
  rw [Try.params10] at hA hval
  obtain ⟨v0, vs0, d0, ds0, p0, q0, hargs, rfl, rfl, h0, r0⟩ := trodAll_cons hA
  obtain ⟨v1, vs1, d1, ds1, p1, q1, rfl, rfl, rfl, h1, r1⟩ := trodAll_cons r0
  obtain ⟨v2, vs2, d2, ds2, p2, q2, rfl, rfl, rfl, h2, r2⟩ := trodAll_cons r1
  obtain ⟨v3, vs3, d3, ds3, p3, q3, rfl, rfl, rfl, h3, r3⟩ := trodAll_cons r2
  obtain ⟨rfl, rfl, rfl⟩ := trodAll_nil r3
  obtain rfl : args = #[v0, v1, v2, v3] := by cases args; simp_all
  obtain ⟨rfl, rfl⟩ := trodVars_none hV
  obtain ⟨b0_0, b0_1, b0_2, b0_3, b0_4, b0_5, b0_6, rfl⟩ := open_base (hval 0 23 v0 rfl rfl) h0
  obtain ⟨a1, rfl, rfl, rfl, w1⟩ := open_int Try.underlying2 (hval 1 2 v1 rfl rfl) h1
  obtain ⟨a2, rfl, rfl, rfl, w2⟩ := open_int Try.underlying2 (hval 2 2 v2 rfl rfl) h2
  obtain ⟨a3, rfl, rfl, rfl, w3⟩ := open_int Try.underlying2 (hval 3 2 v3 rfl rfl) h3
  clear hA0 hval0
  refine (walk_FnExactLeastBallast (w := W) b0_0 b0_1 b0_2 b0_3 b0_4 b0_5 b0_6 a1 w1 a2 w2 a3 w3).mono fun e W' ⟨he, hb⟩ => ?_
  subst he
  exact ⟨_, rfl, law_post (B := 4) (by kernel_rfl) (by kernel_rfl) rfl Try.underlying4 rfl hW' rfl hb⟩

/-- The statement: for every input the law returns true, and the arguments read afterwards as before. -/
theorem proved : Rows.FnExactLeastBallastSaid :=
  OpenClaim.holds_of_wide 10 Try.f10 rfl rfl rfl rfl rfl rfl rfl ⟨rfl, rfl, rfl, rfl, rfl⟩ rfl rfl rfl rfl rfl (by kernel_rfl) Try.func10 (by kernel_rfl)
    (of_decide_eq_true (by kernel_rfl)) (by unfold Func.isWrapper; first | (rw [if_pos (by decide +kernel)]; kernel_rfl) | (rw [if_neg (by decide +kernel)]; exact ⟨rfl, rfl⟩))
    (fun os started H enc _ => lifted os started H enc)
end Go.Proofs.Ytjdppjcmelflbab.fnExactLeastBallast
