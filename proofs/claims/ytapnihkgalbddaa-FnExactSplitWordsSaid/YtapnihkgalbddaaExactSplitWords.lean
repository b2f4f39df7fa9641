/- Proved: for every input the law FnExactSplitWords returns true, and each argument reads afterwards as it read before; no condition beside those of the given row. -/
import Derived.Test.YtapnihkgalbddaaRows
import Derived.WalkKit
import Derived.ProofKit
import Derived.OpenShut
import Derived.Lib.Hide
import Derived.Handy
import Derived.BigQuiet
import Derived.Carry
import Derived.Deep.QuietTactic
import Derived.Deep.RegionHeld3
import Derived.Lib.FieldsP
import Derived.Lib.ItoaLen
import Derived.Lib.ItoaNum
import Derived.Lib.MapLaws
import Derived.Lib.TrimUEq
import Derived.OwnWalk
import Derived.Shelf.Abstract
import Derived.Shelf.Strings.FieldsFuncAny
import Derived.Shelf.Strings.FieldsFuncAny
import Derived.Ground.SlgnProg
import Derived.Shelf.SlicesG.SearchI
import Derived.Lib.SmallJoins
import Derived.ChangeMaps5
namespace Go.Proofs
open Go.Shelf
def Try.lays229_ren : Go.Shelf.Ren := ⟨fun | 229 => 59 | n => n, fun | 9 => 9 | 40 => 66 | 31 => 37 | 152 => 83 | 3 => 3 | 0 => 0 | 4 => 4 | 21 => 21 | 154 => 85 | n => n, fun | n => n⟩
theorem Try.lays229 : Go.Proofs.Lays.n229 Try.prog Try.lays229_ren := {
  mixed := by kernel_rfl
  f229 := Try.func59.trans (congrArg some (by kernel_rfl))
  t0 := Try.underlying0
  a0 := Try.isAgg0
  z0 := Try.sizeOf0
  v0 := Try.zeroValue0
  t3 := Try.underlying3
  a3 := Try.isAgg3
  z3 := Try.sizeOf3
  v3 := Try.zeroValue3
  t4 := Try.underlying4
  a4 := Try.isAgg4
  z4 := Try.sizeOf4
  v4 := Try.zeroValue4
  t9 := Try.underlying9
  a9 := Try.isAgg9
  z9 := Try.sizeOf9
  v9 := Try.zeroValue9
  t21 := Try.underlying21
  a21 := Try.isAgg21
  z21 := Try.sizeOf21
  v21 := Try.zeroValue21
  t31 := Try.underlying37
  a31 := Try.isAgg37
  z31 := Try.sizeOf37
  v31 := Try.zeroValue37
  t40 := Try.underlying66
  a40 := Try.isAgg66
  z40 := Try.sizeOf66
  v40 := Try.zeroValue66
  t152 := Try.underlying83
  a152 := Try.isAgg83
  z152 := Try.sizeOf83
  v152 := Try.zeroValue83
  t154 := Try.underlying85
  a154 := Try.isAgg85
  z154 := Try.sizeOf85
  v154 := Try.zeroValue85 }
open Go.RowKit Go.Lib in
theorem Try.strings_FieldsFunc_runes (g : Nat) (lb : Array Value) (eg : ∀ args w, (callFunc g args).run Try.prog w = .ok (.enter g args) w) (p : Nat → Bool) (s : ByteArray) (w : World) (hs : s.size ≤ 4294967296) (hp : PredAtRunes Try.prog g lb p w) :
    Calls Try.prog 59 #[.string s, .func (.func g) #[] lb] w fun e w' => ∃ A, e = .returned (.slice (some ⟨A, 0, none⟩) (Lib.goFieldsP p s).length (Lib.goFieldsP p s).length) ∧ w.heap.size ≤ A ∧
      w'.ownsRow w.heap.size 9 1 (.slice (some ⟨A, 0, none⟩) (Lib.goFieldsP p s).length (Lib.goFieldsP p s).length) (Lib.goFieldsP p s).length ((Lib.goFieldsP p s).map Value.string) ∧ Below w.heap.size w w' := Any.strings_FieldsFunc_runes Try.lays229 g lb eg p s w hs hp (by kernel_rfl) (by kernel_rfl)
end Go.Proofs
namespace Go.Proofs.Ytapnihkgalbddaa
open Go.ChangeShapes Go.WideShapes Go.ChangeAt Go.RowKit
set_option linter.unusedVariables false
set_option linter.unusedSimpArgs false

theorem trodAll_stay {H : Type} {enc : TypeId × Value → H} {P : Program} (hl : laidOutB P = true) {W W' : World} (hb : Below W.heap.size W W') :
    ∀ (ts : List TypeId) (vs : List Value) (ds : List (DataW H)) (ps : List MemPlace), ts.all (fun t => P.readableRec t && decide (t < P.types.size)) = true →
      DataW.TrodAll enc P W 0 (fun _ => true) true ts vs ds ps → (∀ x ∈ ps, x.block < W.heap.size) →
      DataW.TrodAll enc P W' 0 (fun b => decide (b < W.heap.size)) true ts vs ds ps := by
  intro ts
  induction ts with
  | nil => intro vs ds ps _ h _; obtain ⟨rfl, rfl, rfl⟩ := trodAll_nil h; exact rfl
  | cons t ts ih =>
    intro vs ds ps hr h hlt
    simp only [List.all_cons, Bool.and_eq_true, decide_eq_true_eq] at hr
    obtain ⟨v, vs', d, ds', p, q, rfl, rfl, rfl, h0, h1⟩ := trodAll_cons h
    exact ⟨p, q, Below.trod hl hr.1.1 hr.1.2 h0 hb (fun x hx => hlt x (by simp [hx])), ih _ _ _ hr.2 h1 (fun x hx => hlt x (by simp [hx])), rfl⟩

/-- A law's row at its end: it returned true, and of what was there nothing has turned. -/
theorem law_post {H : Type} {enc : TypeId × Value → H} {P : Program} {f : Func} {s : ChangeSpec} {W W' : World} {args : Array Value} {ds gs : List (DataW H)} {before : List MemPlace} {B : TypeId}
    (hl : laidOutB P = true) (hr : f.params.toList.all (fun t => P.readableRec t && decide (t < P.types.size)) = true)
    (hres : f.resultTypes = #[B]) (hB : P.underlying B = some .bool) (hv : s.vars = [])
    (hW : DataW.Whole enc P f.params.toList s.vars false W args.toList ds gs before)
    (hfn : s.fn H (ds ++ gs) = { results := [.lit (.bool true)], args := ds }) (hb : Below W.heap.size W W') :
    s.post enc P f false true false false W args (.bool true) W' := by
  have hlt : ∀ p ∈ before, p.block < W.heap.size := fun p hp => hW.lt p hp
  have hW' := hW
  obtain ⟨p, q, hA, hV, rfl, _, _⟩ := hW'
  rw [hv] at hV
  obtain ⟨rfl, rfl⟩ := trodVars_none hV
  refine ⟨ds, [], p ++ [], [], p, [], hW, ?_, ?_, ?_, hb.frame _, fun h => by cases h⟩
  · rw [hfn, hres]
    exact trodAll_cons_mk (shut_bool hB _) trodAll_mk0
  · rw [hfn]
    exact trodAll_stay hl hb _ _ _ _ hr hA (fun x hx => hlt x (by simp [hx]))
  · rw [hfn, hv]
    exact rfl

theorem kept_cell {W w1 : World} (hb : Below W.heap.size W w1) (b o : Nat) (h : b < W.heap.size) : w1.cell? ⟨b, o, none⟩ = W.cell? ⟨b, o, none⟩ := hb.cell (p := ⟨b, o, none⟩) h

theorem kept_frozen {W w1 : World} (hb : Below W.heap.size W w1) (b o : Nat) (h : b < W.heap.size) : w1.frozen? ⟨b, o, none⟩ = W.frozen? ⟨b, o, none⟩ := hb.frozen (p := ⟨b, o, none⟩) h

theorem kept {W w1 : World} (hb : Below W.heap.size W w1) :
    (∀ b o, b < W.heap.size → w1.cell? ⟨b, o, none⟩ = W.cell? ⟨b, o, none⟩) ∧ (∀ b o, b < W.heap.size → w1.frozen? ⟨b, o, none⟩ = W.frozen? ⟨b, o, none⟩) ∧ W.heap.size ≤ w1.heap.size :=
  ⟨kept_cell hb, kept_frozen hb, hb.size⟩

theorem kept_trans {a b c : World} (h : Below a.heap.size a b) (k : Below b.heap.size b c) : Below a.heap.size a c := h.trans (k.mono h.size)

theorem kept_drewN {B : Nat} {a w : World} (h : Below B a w) (n : Nat) : Below B a (w.drewN n) := { os := h.os, tape := h.tape, output := h.output, size := h.size, block := h.block }

theorem grown_step {a b c : World} {row : Option Nat} (h : a.grownBy b row) (k : b.grownBy c row) : a.grownBy c row :=
  ⟨k.os.trans h.os, k.tape.trans h.tape, k.output.trans h.output, Nat.le_trans h.size k.size, fun i hi hne => (k.block i (Nat.lt_of_lt_of_le hi h.size) hne).trans (h.block i hi hne)⟩

theorem grown_below {a b c : World} {row : Option Nat} (h : Below a.heap.size a b) (k : b.grownBy c row) (hr : ∀ g, row = some g → a.heap.size ≤ g) : Below a.heap.size a c := h.grown k h.size hr

theorem own_kept {W w1 : World} {base : Nat} {e : TypeId} {size : Nat} {v : Value} {n : Nat} {xs : List Value} (h : W.ownsRow base e size v n xs) (hb : Below W.heap.size W w1) : w1.ownsRow base e size v n xs := by
  refine ⟨h.1, ?_⟩
  rcases h.2 with h2 | ⟨g, cap, cur, hv, hg, hh, r⟩
  · exact Or.inl h2
  · refine Or.inr ⟨g, cap, cur, hv, hg, ?_, r⟩
    rw [hb.block g (h.lt g (by rw [hv]; rfl)).2]
    exact hh

/-- The slice value reads as n elements of sz cells each, cell for cell. -/
def RdF (w : World) (v : Value) (n sz : Nat) (xs : List Value) : Prop :=
  n ≤ 9223372036854775807 ∧ xs.length = n * sz ∧ ∃ A c, v = .slice A n c ∧ ∀ i, i < n * sz → ∃ b off, A = some ⟨b, off, none⟩ ∧ b < w.heap.size ∧ w.cell? ⟨b, off + i, none⟩ = xs[i]?

/-- A row of elements of the call's own (type e, sz cells each), in a block from lo on and below hi. -/
def RowF (e sz : Nat) (w : World) (lo hi : Nat) (v : Value) (n : Nat) (xs : List Value) : Prop :=
  w.ownsRow lo e sz v n xs ∧ ∀ g, v.ownBlock = some g → lo ≤ g ∧ g < hi

theorem RowF_nil (e sz : Nat) (w : World) (lo hi : Nat) : RowF e sz w lo hi (.slice none 0 0) 0 [] := ⟨World.ownsRow_nil _ _ _ _, fun g h => by simp [Value.ownBlock] at h⟩

theorem RowF_form {e sz : Nat} {w : World} {lo hi : Nat} {v : Value} {n : Nat} {xs : List Value} (h : RowF e sz w lo hi v n xs) :
    (n = 0 ∧ xs = [] ∧ v = .slice none 0 0) ∨ ∃ g cap, v = .slice (some ⟨g, 0, none⟩) n cap ∧ lo ≤ g ∧ g < hi ∧ g < w.heap.size ∧ n ≤ cap ∧ cap ≤ maxLen := by
  rcases h.1.2 with ⟨h1, h2⟩ | ⟨g, cap, cur, rfl, hg, hh, h3, h4, _⟩
  · exact Or.inl ⟨h2, List.eq_nil_of_length_eq_zero (by rw [h.1.1, h2, Nat.zero_mul]), h1⟩
  · exact Or.inr ⟨g, cap, rfl, hg, (h.2 g rfl).2, (h.1.lt g rfl).2, h3, h4⟩

theorem RowF_rd {e sz : Nat} {w : World} {lo hi : Nat} {v : Value} {n : Nat} {xs : List Value} (h : RowF e sz w lo hi v n xs) : RdF w v n sz xs := by
  rcases RowF_form h with ⟨rfl, rfl, rfl⟩ | ⟨g, cap, rfl, _, _, hlt, h3, h4⟩
  · exact ⟨by simp, by simp, none, 0, rfl, fun k hk => by simp at hk⟩
  · unfold maxLen at h4
    refine ⟨by omega, h.1.1, some ⟨g, 0, none⟩, cap, rfl, fun k hk => ⟨g, 0, rfl, hlt, ?_⟩⟩
    rw [Nat.zero_add, h.1.cellAt k hk]

theorem RowF_kept {e sz : Nat} {W w1 : World} {lo hi : Nat} {v : Value} {n : Nat} {xs : List Value} (h : RowF e sz W lo hi v n xs) (hb : Below W.heap.size W w1) : RowF e sz w1 lo hi v n xs := ⟨own_kept h.1 hb, h.2⟩

theorem RowF_far {e sz : Nat} {W w1 : World} {lo hi : Nat} {v : Value} {n : Nat} {xs : List Value} {row : Option Nat} (h : RowF e sz W lo hi v n xs) (hg : W.grownBy w1 row) (hr : ∀ g, row = some g → g < lo ∨ hi ≤ g) : RowF e sz w1 lo hi v n xs := by
  refine ⟨h.1.kept hg ?_, h.2⟩
  rcases hv : v.ownBlock with _ | g
  · exact Or.inl rfl
  · refine Or.inr (fun e => ?_)
    have h1 := h.2 g hv
    have h2 := hr g e.symm
    omega

theorem row_lower {w : World} {lo lo' : Nat} {e : TypeId} {size : Nat} {v : Value} {n : Nat} {xs : List Value} (h : w.ownsRow lo e size v n xs) (hl : lo' ≤ lo) : w.ownsRow lo' e size v n xs := by
  refine ⟨h.1, ?_⟩
  rcases h.2 with h2 | ⟨g, cap, cur, hv, hg, r⟩
  · exact Or.inl h2
  · exact Or.inr ⟨g, cap, cur, hv, by omega, r⟩

/-- The digits of a number, none of 0. -/
def dd (u : Nat) : List UInt8 := if u = 0 then [] else Lib.decDigits u

theorem dd_step (u : Nat) (h : u ≠ 0) : dd u = dd (u / 10) ++ [UInt8.ofNat (48 + u % 10)] := by
  unfold dd
  rw [if_neg h, Lib.decDigits]
  by_cases h1 : u < 10
  · rw [dif_pos h1, if_pos (by omega), Nat.mod_eq_of_lt h1]
    rfl
  · rw [dif_neg h1, if_neg (by omega)]

theorem dd_len (m : Nat) (h : m ≤ 9223372036854775808) : (dd m).length ≤ 20 := by
  unfold dd
  split
  · simp
  · rw [Lib.decDigits_length]
    exact Lib.nDigits_le20 m (by omega)

/-- The cells of a list of strings. -/
def strV (ss : List ByteArray) : List Value := ss.map Value.string

theorem strV_at (ss : List ByteArray) (k : Nat) (h : k < ss.length) : (strV ss)[k]? = some (.string ss[k]) := by simp [strV, h]

/-- The slice value reads as a list of strings. -/
def RdS (w : World) (v : Value) (ss : List ByteArray) : Prop := RdF w v ss.length 1 (strV ss)

theorem RdS_at {w : World} {v : Value} {ss : List ByteArray} (h : RdS w v ss) : ∃ A c, v = .slice A ss.length c ∧ ss.length ≤ 9223372036854775807 ∧
    ∀ k, (hk : k < ss.length) → ∃ b off, A = some ⟨b, off, none⟩ ∧ b < w.heap.size ∧ w.cell? ⟨b, off + k, none⟩ = some (.string ss[k]) := by
  obtain ⟨hl, hx, A, c, rfl, hr⟩ := h
  refine ⟨A, c, rfl, hl, fun k hk => ?_⟩
  obtain ⟨b, off, rfl, hlt, h0⟩ := hr k (by omega)
  rw [strV_at ss k hk] at h0
  exact ⟨b, off, rfl, hlt, h0⟩

theorem eqStrs_same (v1 v2 : Value) (ss : List ByteArray) (w : World) (h1 : RdS w v1 ss) (h2 : RdS w v2 ss) :
    Calls Try.prog 23 #[v1, v2] w fun e w' => e = .returned (.bool true) ∧ Below w.heap.size w w' := by
  obtain ⟨A, c, rfl, hl, r1⟩ := RdS_at h1
  obtain ⟨A2, c2, rfl, _, r2⟩ := RdS_at h2
  clear h1 h2
  have R1 := Lib.hid r1; clear r1
  have R2 := Lib.hid r2; clear r2
  go_enter Try.func23, Try.ntmps23
  go_wp2_with fail
  go_loopw [5] (fun i wr => ∃ k : Nat, k ≤ ss.length ∧ i = .int .i64 k ∧ Below w.heap.size w wr) (fun i _ => ss.length - (intOf i).toNat)
  case atStart => exact ⟨0, by omega, rfl, Below.refl _ _⟩
  case round =>
    obtain ⟨k, hk, rfl, hb⟩ := hrel
    by_cases hlt : k < ss.length
    · obtain ⟨b, off, rfl, hbl, hc⟩ := R1.out k hlt
      obtain ⟨b2, off2, rfl, hbl2, hc2⟩ := R2.out k hlt
      rw [← kept_cell hb b _ hbl] at hc
      rw [← kept_cell hb b2 _ hbl2] at hc2
      generalize ss[k] = x at *
      go_wp2_with fail
      go_quiet (fail)
      go_wp2
      go_roundw
      case rel => exact ⟨k + 1, by omega, by go_num, kept_drewN hb _⟩
      case measure => simp [intOf]; omega
    · have : k = ss.length := by omega
      subst this
      go_wp2
      go_ret
      exact ⟨rfl, hb⟩

/-- The text of a mark. -/
def markT (k : Nat) : ByteArray := ⟨(109 :: dd k).toArray⟩

theorem cons_str (c : UInt8) (bs : List UInt8) : ByteArray.mk #[c] ++ ByteArray.mk bs.toArray = ByteArray.mk (c :: bs).toArray := by
  rw [show ByteArray.mk #[c] = ByteArray.mk [c].toArray from rfl, ByteArray.mk_append_mk]
  rfl

set_option maxRecDepth 100000 in
theorem markText_any (m : Nat) (h1 : 1 ≤ m) (h2 : m ≤ 1000000000) (w : World) :
    Calls Try.prog 61 #[.int .i64 (m : Int)] w fun e w' => e = .returned (.string (markT m)) ∧ Below w.heap.size w w' := by
  have hdl := dd_len m (by omega)
  unfold markT
  go_enter Try.func61, Try.ntmps61
  go_wp2_with fail
  go_loopw [0, 3] (fun k o wr => ∃ (u : Nat) (bs : List UInt8), u ≤ m ∧ k = .int .i64 (u : Int) ∧ o = .string ⟨bs.toArray⟩ ∧ dd m = dd u ++ bs ∧ Below w.heap.size w wr) (fun k _ _ => (intOf k).toNat)
  case atStart => exact ⟨m, [], Nat.le_refl _, rfl, rfl, by simp, Below.refl _ _⟩
  case round =>
    obtain ⟨u, bs, hu, rfl, rfl, hdd, hb⟩ := hrel
    by_cases h0 : u = 0
    · subst h0
      have hbs : dd m = bs := by simpa [dd] using hdd
      have hbl : bs.length ≤ 20 := by rw [← hbs]; exact hdl
      have HB := Lib.hid hbs; clear hbs hdd
      go_wp2
      go_ret
      exact ⟨by rw [HB.out]; rfl, hb⟩
    · have hst := dd_step u h0
      rw [hst, List.append_assoc] at hdd
      have hlen : bs.length ≤ 20 := by
        have := congrArg List.length hdd
        simp at this
        omega
      have hmod : (u : Int).tmod 10 = ((u % 10 : Nat) : Int) := by rw [Int.tmod_eq_emod_of_nonneg (by omega)]; omega
      have hdiv : (u : Int).tdiv 10 = ((u / 10 : Nat) : Int) := by rw [Int.tdiv_eq_ediv_of_nonneg (by omega)]; omega
      have hd10 : u % 10 < 10 := Nat.mod_lt _ (by omega)
      have hbyte : ((UInt8.ofNat (48 + u % 10)).toNat : Int) = (48 : Int) + ((u % 10 : Nat) : Int) := by
        rw [UInt8.toNat_ofNat_of_lt' (by have : UInt8.size = 256 := rfl; omega)]
        push_cast
        rfl
      have hsz := hb.size
      have hlt10 : u / 10 < u := Nat.div_lt_self (by omega) (by omega)
      have HD := Lib.hid hdd; clear hdd hst
      generalize UInt8.ofNat (48 + u % 10) = c at *
      generalize u / 10 = q at *
      generalize u % 10 = d at *
      have hw8 : IntKind.u8.wrap ((48 : Int) + (d : Int)) = 48 + (d : Int) := IntWalk.u8_in _ (by omega)
      have hcv := run_convert_bytes_back (P := Try.prog) (wr.alloc (.cells #[.int .u8 ((48 : Int) + (d : Int))] 5)) 22 9 5 ⟨wr.heap.size, 0, none⟩ 1 [c] Try.underlying22 Try.underlying5 Try.underlying9 (fun j hj => by
        have : j = 0 := by simp at hj; omega
        subst this
        simp [Addr.add, hbyte])
      simp only [List.length_cons, List.length_nil] at hcv
      go_wp2
      go_roundw
      case rel => exact ⟨q, c :: bs, by omega, by go_num, by rw [cons_str], by simpa using HD.out, by go_grown⟩
      case measure => simp [intOf]; omega

/-- What a marked list of strings holds. -/
def marksT (k : Nat) : Nat → List ByteArray
  | 0 => []
  | n + 1 => markT k :: marksT (k + 1) n

theorem marksT_len (k n : Nat) : (marksT k n).length = n := by
  induction n generalizing k with
  | zero => rfl
  | succ n ih => simp [marksT, ih]

theorem marksT_at (k n j : Nat) (h : j < n) : (marksT k n)[j]'(by rw [marksT_len]; exact h) = markT (k + j) := by
  induction n generalizing k j with
  | zero => omega
  | succ n ih =>
    cases j with
    | zero => simp [marksT]
    | succ j => simp only [marksT, List.getElem_cons_succ]; rw [ih (k + 1) j (by omega)]; congr 1; omega

theorem marksT_set (k j : Nat) (l : List ByteArray) (h : j < l.length) : (marksT k j ++ l.drop j).set j (markT (k + j)) = marksT k (j + 1) ++ l.drop (j + 1) := by
  apply List.ext_getElem
  · simp [marksT_len]; omega
  intro i h1 h2
  rw [List.getElem_set]
  by_cases e : j = i
  · subst e
    rw [if_pos rfl, List.getElem_append_left (by rw [marksT_len]; omega), marksT_at _ _ _ (by omega)]
  · rw [if_neg e]
    by_cases h3 : i < j
    · rw [List.getElem_append_left (by rw [marksT_len]; omega), List.getElem_append_left (by rw [marksT_len]; omega), marksT_at _ _ _ h3, marksT_at _ _ _ (by omega)]
    · rw [List.getElem_append_right (by rw [marksT_len]; omega), List.getElem_append_right (by rw [marksT_len]; omega)]
      simp only [List.getElem_drop, marksT_len]
      congr 1
      omega

theorem markStrs_any (v : Value) (ss : List ByteArray) (lo hi k0 : Nat) (w : World) (h : RowF 9 1 w lo hi v ss.length (strV ss)) (hk1 : 1 ≤ k0) (hk0 : k0 ≤ 1000) (hn : ss.length ≤ 4000000) (hhi : hi ≤ w.heap.size) :
    Calls Try.prog 24 #[v, .int .i64 k0] w fun e w' => e = .returned (.int .i64 ((k0 + ss.length : Nat) : Int)) ∧ RowF 9 1 w' lo hi v ss.length (strV (marksT k0 ss.length)) ∧ w.grownBy w' v.ownBlock := by
  rcases RowF_form h with ⟨hz, hx, rfl⟩ | ⟨g, cap, rfl, _, hghi, hlt, _, _⟩
  · have hzs := List.eq_nil_of_length_eq_zero hz
    subst hzs
    go_enter Try.func24, Try.ntmps24
    go_wp2_with fail
    refine wp_loop_rounds 1 ?_
    rw [rounds_succ]
    go_wp2
    go_ret
    exact ⟨rfl, RowF_nil _ _ _ _ _, World.grownBy.refl _ _⟩
  · generalize hN : ss.length = N at *
    have HN := Lib.hid hN; clear hN
    have H := Lib.hid h; clear h
    go_enter Try.func24, Try.ntmps24
    go_wp2_with fail
    go_loopw [1, 5] (fun q i wr => ∃ j : Nat, j ≤ N ∧ i = .int .i64 j ∧ q = .int .i64 ((k0 + j : Nat) : Int) ∧ wr.ownsRow lo 9 1 (.slice (some ⟨g, 0, none⟩) N cap) N (strV (marksT k0 j ++ ss.drop j)) ∧ w.grownBy wr (some g)) (fun _ i _ => N - (intOf i).toNat)
    case atStart => exact ⟨0, by omega, rfl, by simp, by have := H.out.1; simpa [marksT] using this, World.grownBy.refl _ _⟩
    case round =>
      obtain ⟨j, hj, rfl, rfl, hown, hg⟩ := hrel
      by_cases hlt : j < N
      · have hM := Lib.hid (fun w => markText_any (k0 + j) (by omega) (by omega) w)
        have hset := marksT_set k0 j ss (by rw [HN.out]; exact hlt)
        generalize markT (k0 + j) = M at *
        go_wp2_with fail
        refine (by simpa using hM.out wr : Calls Try.prog 61 #[.int .i64 ((k0 : Int) + (j : Int))] wr fun e w' => e = .returned (.string M) ∧ Below wr.heap.size wr w').mono ?_
        rintro e w1 ⟨rfl, hb1⟩
        have hown1 := own_kept hown hb1
        have hlen : (strV (marksT k0 j ++ ss.drop j)).length = N * 1 := hown1.1
        obtain ⟨u0, hu0⟩ : ∃ u, w1.cell? ⟨g, j, none⟩ = some u := by
          rw [hown1.cellAt _ (by omega)]
          exact ⟨_, List.getElem?_eq_getElem (by omega)⟩
        have hz0 := hown1.frozenAt j
        have hs0 := hown1.stored j (.string M)
        rw [strV, ← List.map_set, hset] at hs0
        have hgr : wr.grownBy w1 (some g) := ⟨hb1.os, hb1.tape, hb1.output, hb1.size, fun i hi _ => hb1.block i hi⟩
        have Hs := Lib.hid hs0.1
        have Hg := Lib.hid (grown_step hg (grown_step hgr hs0.2))
        clear hs0 hlen hgr
        have Hown := Lib.hid hown; clear hown
        have Hown1 := Lib.hid hown1; clear hown1
        go_wp2
        go_roundw
        case rel => exact ⟨j + 1, by omega, by go_num, by go_num, Hs.out, Hg.out⟩
        case measure => simp [intOf]; omega
      · have : j = N := by omega
        subst this
        have hd : ss.drop j = [] := List.drop_eq_nil_of_le (by rw [HN.out]; exact Nat.le_refl _)
        rw [hd, List.append_nil] at hown
        have Hown := Lib.hid hown; clear hown
        go_wp2
        go_ret
        exact ⟨rfl, ⟨Hown.out, fun x hx => H.out.2 x hx⟩, hg⟩

theorem heldStrs_same (v : Value) (n k0 : Nat) (w : World) (h : RdS w v (marksT k0 n)) (hk1 : 1 ≤ k0) (hk0 : k0 ≤ 1000) (hn : n ≤ 4000000) :
    Calls Try.prog 25 #[v, .int .i64 k0] w fun e w' => e = .returned (.int .i64 ((k0 + n : Nat) : Int)) ∧ Below w.heap.size w w' := by
  obtain ⟨A, c, rfl, hl, r1⟩ := RdS_at h
  clear h
  rw [marksT_len] at *
  have R1 := Lib.hid r1; clear r1
  go_enter Try.func25, Try.ntmps25
  go_wp2_with fail
  go_loopw [1, 5] (fun q i wr => ∃ j : Nat, j ≤ n ∧ i = .int .i64 j ∧ q = .int .i64 ((k0 + j : Nat) : Int) ∧ Below w.heap.size w wr) (fun _ i _ => n - (intOf i).toNat)
  case atStart => exact ⟨0, by omega, rfl, by simp, Below.refl _ _⟩
  case round =>
    obtain ⟨j, hj, rfl, rfl, hb⟩ := hrel
    by_cases hlt : j < n
    · obtain ⟨b, off, rfl, hbl, hc⟩ := R1.out j (by rw [marksT_len]; exact hlt)
      rw [marksT_at k0 n j hlt] at hc
      rw [← kept_cell hb b _ hbl] at hc
      have hbl' := Nat.lt_of_lt_of_le hbl hb.size
      have hM := Lib.hid (fun w => markText_any (k0 + j) (by omega) (by omega) w)
      generalize markT (k0 + j) = M at *
      have hM2 : ∀ u, Calls Try.prog 61 #[.int .i64 ((k0 : Int) + (j : Int))] u fun e w' => e = .returned (.string M) ∧ Below u.heap.size u w' := fun u => by simpa using hM.out u
      have HM2 := Lib.hid hM2; clear hM2
      go_wp2_with fail
      go_region_held3 (fun w' => w'.cell? ⟨b, off + j, none⟩ = some (.string M)) (go_keep)
        ((go_at_call 61; refine (HM2.out _).mono ?_; rintro e w1 ⟨rfl, hb1⟩; replace hb1 := kept_trans (a := wr) (by go_grown) hb1; have hcl := kept_cell hb1))
      go_wp2
      go_roundw
      case rel => exact ⟨j + 1, by omega, by go_num, by go_num, kept_trans hb (by assumption)⟩
      case measure => simp [intOf]; omega
    · have : j = n := by omega
      subst this
      go_wp2
      go_ret
      exact ⟨rfl, hb⟩

/-- The pieces of a text between bytes c, from a byte on; the open one began at 'from'. -/
def restW (s : ByteArray) (c : UInt8) (pos beg : Nat) : List ByteArray :=
  if h : pos < s.size then (if s.data.toList.getD pos 0 = c then s.extract beg pos :: restW s c (pos + 1) (pos + 1) else restW s c (pos + 1) beg) else [s.extract beg s.size]
termination_by s.size - pos

theorem restW_skip (s : ByteArray) (c : UInt8) (beg : Nat) (n : Nat) : ∀ pos, pos + n ≤ s.size → (∀ j, j < n → s.data.toList.getD (pos + j) 0 ≠ c) → restW s c pos beg = restW s c (pos + n) beg := by
  induction n with
  | zero => intro pos _ _; rfl
  | succ n ih =>
    intro pos h1 h2
    rw [restW, dif_pos (by omega), if_neg (by simpa using h2 0 (by omega)), ih (pos + 1) (by omega) (fun j hj => by rw [show pos + 1 + j = pos + (j + 1) by omega]; exact h2 (j + 1) (by omega))]
    congr 1
    omega

theorem dec_fact (s : ByteArray) (pos : Nat) (h : pos < s.size) :
    (s.data.toList.getD pos 0 = 32 ∧ Utf8.decode s pos = (32, 1)) ∨ ((Utf8.decode s pos).1 ≠ 32 ∧ 1 ≤ (Utf8.decode s pos).2 ∧ pos + (Utf8.decode s pos).2 ≤ s.size ∧ ∀ j, j < (Utf8.decode s pos).2 → s.data.toList.getD (pos + j) 0 ≠ 32) := by
  have hl : s.data.toList.length = s.size := Array.length_toList
  have e32 : ∀ x : UInt8, x = 32 ↔ x.toNat = 32 := fun x => ⟨fun h => by rw [h]; rfl, fun h => UInt8.toNat_inj.1 (by rw [h]; rfl)⟩
  rw [Lib.decode_N, hl]
  simp only [e32, ne_eq]
  generalize hb0 : (s.data.toList.getD pos 0).toNat = b0
  generalize hb1 : (s.data.toList.getD (pos + 1) 0).toNat = b1
  generalize hb2 : (s.data.toList.getD (pos + 2) 0).toNat = b2
  generalize hb3 : (s.data.toList.getD (pos + 3) 0).toNat = b3
  have hlt : b0 < 256 := by rw [← hb0]; exact (s.data.toList.getD pos 0).toNat_lt
  have hj : ∀ j, (s.data.toList.getD (pos + j) 0).toNat = 32 → j < 4 → (j = 0 ∧ b0 = 32) ∨ (j = 1 ∧ b1 = 32) ∨ (j = 2 ∧ b2 = 32) ∨ (j = 3 ∧ b3 = 32) := by
    intro j hh hj4
    rcases (show j = 0 ∨ j = 1 ∨ j = 2 ∨ j = 3 by omega) with rfl | rfl | rfl | rfl
    · exact Or.inl ⟨rfl, by rw [← hb0]; exact hh⟩
    · exact Or.inr (Or.inl ⟨rfl, by rw [← hb1]; exact hh⟩)
    · exact Or.inr (Or.inr (Or.inl ⟨rfl, by rw [← hb2]; exact hh⟩))
    · exact Or.inr (Or.inr (Or.inr ⟨rfl, by rw [← hb3]; exact hh⟩))
  rcases Lib.decodeN_shape (s.size - pos) b0 b1 b2 b3 with ⟨h1, he⟩ | ⟨h1, h2, h3, h4, he⟩ | ⟨h1, h2, h3, h4, h5, h6, he⟩ | ⟨h1, h2, h3, h4, h5, h6, h7, he⟩ | he
  · by_cases hb : b0 = 32
    · exact Or.inl ⟨hb, by rw [he, hb]⟩
    · refine Or.inr ?_
      rw [he]
      refine ⟨hb, by simp, by simp; omega, fun j hlt hh => ?_⟩
      have := hj j hh (by simp at hlt; omega)
      simp at hlt
      omega
  · refine Or.inr ?_
    rw [he]
    refine ⟨by simp only; omega, by simp, by simp only; omega, fun j hlt hh => ?_⟩
    simp only at hlt
    have := hj j hh (by omega)
    omega
  · refine Or.inr ?_
    rw [he]
    refine ⟨by simp only; omega, by simp, by simp only; omega, fun j hlt hh => ?_⟩
    simp only at hlt
    have := hj j hh (by omega)
    omega
  · refine Or.inr ?_
    rw [he]
    refine ⟨by simp only; omega, by simp, by simp only; omega, fun j hlt hh => ?_⟩
    simp only at hlt
    have := hj j hh (by omega)
    omega
  · by_cases hb : b0 = 32
    · have := Lib.decodeN_ascii (s.size - pos) b0 b1 b2 b3 (by omega)
      rw [this] at he
      simp at he
      omega
    · refine Or.inr ?_
      rw [he]
      refine ⟨by simp, by simp, by simp; omega, fun j hlt hh => ?_⟩
      simp only at hlt
      have := hj j hh (by omega)
      omega

def blankP (x : Nat) : Bool := decide (x = 32)

def neB (x : ByteArray) : Bool := decide (x.size ≠ 0)

theorem spans_rest (s : ByteArray) : ∀ (f pos beg : Nat) (acc : List (Nat × Nat)), pos ≤ s.size → s.size - pos ≤ f → beg ≤ pos →
    (Lib.closeSpans s (Lib.spansFromP blankP s f pos (if beg < pos then some beg else none) acc)).map (fun x => s.extract x.1 x.2) = acc.map (fun x => s.extract x.1 x.2) ++ (restW s 32 pos beg).filter neB := by
  have hend : ∀ (beg : Nat) (acc : List (Nat × Nat)), beg ≤ s.size → (Lib.closeSpans s (acc, if beg < s.size then some beg else none)).map (fun x => s.extract x.1 x.2) = acc.map (fun x => s.extract x.1 x.2) ++ (restW s 32 s.size beg).filter neB := by
    intro beg acc hb
    rw [restW, dif_neg (by omega)]
    by_cases h : beg < s.size
    · rw [if_pos h]
      have : neB (s.extract beg s.size) = true := by simp [neB]; omega
      simp [Lib.closeSpans, this]
    · rw [if_neg h]
      have : neB (s.extract beg s.size) = false := by simp [neB]; omega
      simp [Lib.closeSpans, this]
  intro f
  induction f with
  | zero =>
    intro pos beg acc h1 h2 h3
    obtain rfl : pos = s.size := by omega
    exact hend beg acc h3
  | succ f ih =>
    intro pos beg acc h1 h2 h3
    by_cases hp : pos < s.size
    · rw [Lib.spansFromP.eq_def]
      simp only [hp, if_true]
      rcases dec_fact s pos hp with ⟨hb, hd⟩ | ⟨hr, hw1, hw2, hnb⟩
      · have hpb : blankP 32 = true := rfl
        rw [restW, dif_pos hp, if_pos hb, hd]
        simp only [hpb, if_true]
        have hi := fun acc => ih (pos + 1) (pos + 1) acc (by omega) (by omega) (Nat.le_refl _)
        simp only [Nat.lt_irrefl, if_false] at hi
        by_cases hbp : beg < pos
        · rw [if_pos hbp]
          have : neB (s.extract beg pos) = true := by simp [neB]; omega
          simp only [hi]
          simp [this]
        · rw [if_neg hbp]
          have : neB (s.extract beg pos) = false := by simp [neB]; omega
          simp only [hi]
          simp [this]
      · have hpb : blankP (Utf8.decode s pos).1 = false := by simp [blankP, hr]
        rw [restW_skip s 32 beg _ pos hw2 hnb]
        simp only [hpb, Bool.false_eq_true, if_false]
        have hi := ih (pos + (Utf8.decode s pos).2) beg acc hw2 (by omega) (by omega)
        rw [if_pos (by omega)] at hi
        by_cases hbp : beg < pos
        · rw [if_pos hbp]
          exact hi
        · obtain rfl : beg = pos := by omega
          rw [if_neg hbp]
          exact hi
    · obtain rfl : pos = s.size := by omega
      rw [Lib.spansFromP_end _ _ _ _ _ _ hp]
      exact hend beg acc h3

/-- The words of a text. -/
def wordsL (s : ByteArray) : List ByteArray := (restW s 32 0 0).filter neB

theorem fields_words (s : ByteArray) : Lib.goFieldsP blankP s = wordsL s := by
  have := spans_rest s s.size 0 0 [] (by omega) (by omega) (Nat.le_refl _)
  simpa [Lib.goFieldsP, Lib.spansOfP, wordsL] using this

theorem restW_no {s : ByteArray} {c : UInt8} {pos beg : Nat} (h : pos < s.size) (hc : s.data.toList.getD pos 0 ≠ c) : restW s c pos beg = restW s c (pos + 1) beg := by rw [restW, dif_pos h, if_neg hc]

theorem restW_yes {s : ByteArray} {c : UInt8} {pos beg : Nat} (h : pos < s.size) (hc : s.data.toList.getD pos 0 = c) : restW s c pos beg = s.extract beg pos :: restW s c (pos + 1) (pos + 1) := by rw [restW, dif_pos h, if_pos hc]

theorem restW_end (s : ByteArray) (c : UInt8) (beg : Nat) : restW s c s.size beg = [s.extract beg s.size] := by rw [restW, dif_neg (by omega)]

theorem restW_len (s : ByteArray) (c : UInt8) : ∀ n pos beg, s.size - pos = n → (restW s c pos beg).length ≤ n + 1 := by
  intro n
  induction n with
  | zero => intro pos beg h; rw [restW, dif_neg (by omega)]; simp
  | succ n ih =>
    intro pos beg h
    rw [restW, dif_pos (by omega)]
    split
    · have := ih (pos + 1) (pos + 1) (by omega)
      simp only [List.length_cons]
      omega
    · have := ih (pos + 1) beg (by omega)
      omega

theorem info_str : (Try.prog.info? 9).map (fun i => (i.zero, i.size, i.bytes)) = some (some (.string ⟨#[]⟩), 1, 16) := by kernel_rfl

/-- append of one string to a row of the call's own. -/
theorem wp_appendS {ops : Array Oper} {rest : List Oper} {o : Oper} {a : Act} {Q : Exit → Act → World → Prop} {W wr : World} (hgd : o.guard = none) (s x : Operand)
    (ho : o.op = .call { callee := .builtin .append, args := #[s, x], argTypes := #[37, 37] })
    (lo : Nat) (v : Value) (ss : List ByteArray) (z : ByteArray) (hs : a.eval s = v) (hrow : RowF 9 1 wr lo wr.heap.size v ss.length (strV ss)) (hx : a.eval x = .slice (some ⟨wr.heap.size, 0, none⟩) 1 1)
    (hW : Below W.heap.size W wr) (hlo : W.heap.size ≤ lo) (hlo2 : lo ≤ wr.heap.size) (hn : ss.length < 1000000000)
    (h : ∀ v' w', RowF 9 1 w' lo w'.heap.size v' (ss ++ [z]).length (strV (ss ++ [z])) → Below W.heap.size W w' → wr.heap.size ≤ w'.heap.size → wpList Try.prog ops Q rest (a.put o.dst v') w') :
    wpList Try.prog ops Q (o :: rest) a (wr.alloc (.cells #[.string z] 9)) := by
  obtain ⟨i0, hi, hz0, hz1, hz2⟩ := info_parts info_str
  refine wpList_append_own _ hgd s x _ ho lo 9 i0 (.string ⟨#[]⟩) 1 16 Try.underlying37 hi hz0 hz1 hz2 rfl (by decide) v ss.length _ hs (hrow.1.alloc _) ⟨wr.heap.size, 0, none⟩ 1 1 [.string z] hx rfl ?_ ?_ ?_ ?_ ?_ ?_
  · intro j u hj
    match j with
    | 0 => simp at hj; subst hj; simp [Addr.add]
    | j + 1 => simp at hj
  · intro u hu; simp at hu; subst hu; rfl
  · unfold maxLen; omega
  · omega
  · simp; omega
  · intro v' w' hown hg _
    rw [show strV ss ++ [Value.string z] = strV (ss ++ [z]) by simp [strV]] at hown
    have hrow' : RowF 9 1 w' lo w'.heap.size v' (ss ++ [z]).length (strV (ss ++ [z])) := ⟨by simpa using hown, hown.lt⟩
    refine h v' w' hrow' ?_ (Nat.le_trans (by simp) hg.size)
    refine grown_below (hW.alloc hW.size _) hg (fun g hg2 => ?_)
    have := (hrow.2 g hg2).1
    omega

set_option maxRecDepth 100000 in
theorem specSplit_any (s : ByteArray) (c : UInt8) (hs : s.size ≤ 1000000) (w : World) :
    Calls Try.prog 58 #[.string s, .int .u8 (c.toNat : Int)] w fun e w' => ∃ v, e = .returned v ∧ RowF 9 1 w' w.heap.size w'.heap.size v (restW s c 0 0).length (strV (restW s c 0 0)) ∧ Below w.heap.size w w' := by
  have hsl : s.data.toList.length = s.size := Array.length_toList
  have hlenW := restW_len s c s.size 0 0 rfl
  go_enter Try.func58, Try.ntmps58
  go_wp2_with fail
  go_loopw [5, 6, 7] (fun o b i wr => ∃ (k beg : Nat) (ps : List ByteArray) (ov : Value), k ≤ s.size ∧ beg ≤ k ∧ ov = o ∧ b = .int .i64 beg ∧ i = .int .i64 k ∧ RowF 9 1 wr w.heap.size wr.heap.size ov ps.length (strV ps) ∧ ps ++ restW s c k beg = restW s c 0 0 ∧ Below w.heap.size w wr) (fun _ _ i _ => s.size - (intOf i).toNat)
  case atStart => exact ⟨0, 0, [], _, by omega, by omega, rfl, rfl, rfl, ⟨World.ownsRow_lit w #[] 0 (Nat.le_refl _) (by decide) (by rfl), fun g hg => by simp [Value.ownBlock] at hg; subst hg; simp⟩, rfl, by go_grown⟩
  case round =>
    obtain ⟨k, beg, ps, ov, hk, hbk, ho, rfl, rfl, hrow, hps, hb⟩ := hrel
    subst ho
    have hsz := hb.size
    have hpl : ps.length ≤ 1000001 := by
      have := congrArg List.length hps
      simp only [List.length_append] at this
      omega
    by_cases hlt : k < s.size
    · have hgk : s.data.toList.getD k 0 = s[k]'hlt := by
        rw [List.getD_eq_getElem?_getD, List.getElem?_eq_getElem (by omega)]
        simp [ByteArray.getElem_eq_getElem_data]
      by_cases hc : s[k]'hlt = c
      · have hcn : ((((s[k]'hlt).toNat : Nat) : Int) == ((c.toNat : Nat) : Int)) = true := by rw [hc]; simp
        have hnx : ps ++ [s.extract beg k] ++ restW s c (k + 1) (k + 1) = restW s c 0 0 := by
          rw [← hps, restW_yes hlt (by rw [hgk]; exact hc)]
          simp
        have HR := Lib.hid hrow; clear hrow
        have HN := Lib.hid hnx; clear hnx hps hgk
        have HC := Lib.hid hc; clear hc
        go_wp2_with (at_builtin; refine wp_appendS rfl (.tmp 20) (.tmp 25) rfl w.heap.size _ ps (s.extract beg k) rfl HR.out rfl hb (Nat.le_refl _) hsz (by omega) ?_; intro v' w' hrow' hb' _)
        go_roundw
        case rel => exact ⟨k + 1, k + 1, ps ++ [s.extract beg k], v', by omega, by omega, rfl, by go_num, by go_num, hrow', HN.out, hb'⟩
        case measure => simp [intOf]; omega
      · have hcn : ((((s[k]'hlt).toNat : Nat) : Int) == ((c.toNat : Nat) : Int)) = false := by
          have : ¬ (s[k]'hlt).toNat = c.toNat := fun h => hc (UInt8.toNat_inj.1 h)
          simp
          omega
        have hnx : ps ++ restW s c (k + 1) beg = restW s c 0 0 := by rw [← hps, restW_no hlt (by rw [hgk]; exact hc)]
        have HR := Lib.hid hrow; clear hrow
        have HN := Lib.hid hnx; clear hnx hps hgk
        have HC := Lib.hid hc; clear hc
        go_wp2
        go_roundw
        case rel => exact ⟨k + 1, beg, ps, ov, by omega, by omega, rfl, rfl, by go_num, HR.out, HN.out, hb⟩
        case measure => simp [intOf]; omega
    · have hkk : k = s.size := by omega
      subst hkk
      rw [restW_end] at hps
      have HR := Lib.hid hrow; clear hrow
      have HN := Lib.hid hps; clear hps
      go_wp2_with (at_builtin; refine wp_appendS rfl (.tmp 29) (.tmp 33) rfl w.heap.size _ ps (s.extract beg s.size) rfl HR.out rfl hb (Nat.le_refl _) hsz (by omega) ?_; intro v' w' hrow' hb' _)
      go_ret
      exact ⟨_, rfl, by rw [← HN.out]; exact hrow', hb'⟩

theorem neB_str (x : ByteArray) : x.toList.isEmpty = !neB x := by
  rw [ByteArray.toList_eq]
  have : x.data.toList.length = x.size := Array.length_toList
  cases hl : x.data.toList with
  | nil =>
    rw [hl] at this
    have h0 : x.size = 0 := by simpa using this.symm
    simp [neB, h0]
  | cons a l =>
    rw [hl] at this
    have h0 : x.size ≠ 0 := by simp at this; omega
    simp [neB, h0]

set_option maxRecDepth 100000 in
theorem specWords_any (s : ByteArray) (hs : s.size ≤ 1000000) (w : World) :
    Calls Try.prog 21 #[.string s] w fun e w' => ∃ v, e = .returned v ∧ RowF 9 1 w' w.heap.size w'.heap.size v (wordsL s).length (strV (wordsL s)) ∧ Below w.heap.size w w' := by
  have HP := Lib.hid (fun w => specSplit_any s 32 hs w)
  have hlenW := restW_len s 32 s.size 0 0 rfl
  unfold wordsL
  generalize restW s 32 0 0 = ps at *
  have hpl : ps.length ≤ 1000001 := by omega
  clear hlenW
  go_enter Try.func21, Try.ntmps21
  go_wp2_with fail
  refine (HP.out _).mono ?_
  rintro e w1 ⟨v1, rfl, r1, b1⟩
  obtain ⟨A, c, rfl, hl, R⟩ := RdS_at (RowF_rd r1 : RdS w1 v1 ps)
  have HR := Lib.hid R; clear R
  have HR1 := Lib.hid r1; clear r1
  have hs1 := b1.size
  go_wp2_with fail
  go_loopw [4, 5] (fun o i wr => ∃ (k : Nat) (ov : Value), k ≤ ps.length ∧ ov = o ∧ i = .int .i64 k ∧ RowF 9 1 wr w1.heap.size wr.heap.size ov ((ps.take k).filter neB).length (strV ((ps.take k).filter neB)) ∧ Below w1.heap.size w1 wr) (fun _ i _ => ps.length - (intOf i).toNat)
  case atStart => exact ⟨0, _, by omega, rfl, rfl, ⟨World.ownsRow_lit w1 #[] 0 (Nat.le_refl _) (by decide) (by rfl), fun g hg => by simp [Value.ownBlock] at hg; subst hg; simp⟩, by go_grown⟩
  case round =>
    obtain ⟨k, ov, hk, ho, rfl, hrow, hb⟩ := hrel
    subst ho
    have hsz := hb.size
    by_cases hlt : k < ps.length
    · obtain ⟨b, off, rfl, hbl, hc⟩ := HR.out k hlt
      rw [← kept_cell hb b _ hbl] at hc
      have hne := neB_str ps[k]
      have hfl : ((ps.take k).filter neB).length ≤ 1000001 := Nat.le_trans (List.length_filter_le _ _) (by rw [List.length_take]; omega)
      have hnext : (ps.take (k + 1)).filter neB = (ps.take k).filter neB ++ (if neB ps[k] then [ps[k]] else []) := by
        rw [← List.take_append_getElem hlt, List.filter_append]
        congr 1
        by_cases h : neB ps[k] = true <;> simp [h]
      generalize (ps.take k).filter neB = qs at *
      generalize ps[k] = x at *
      have HW := Lib.hid hrow; clear hrow
      have HX := Lib.hid hnext; clear hnext
      cases hx : neB x
      · rw [hx] at hne HX
        simp only [Bool.not_false] at hne
        go_wp2
        go_roundw
        case rel => exact ⟨k + 1, ov, by omega, rfl, by go_num, by rw [HX.out]; simpa using HW.out, hb⟩
        case measure => simp [intOf]; omega
      · rw [hx] at hne HX
        simp only [Bool.not_true] at hne
        go_wp2_with (at_builtin; refine wp_appendS rfl (.tmp 20) (.tmp 25) rfl w1.heap.size _ qs x rfl HW.out rfl hb (Nat.le_refl _) hsz (by omega) ?_; intro v' w' hrow' hb' _)
        go_roundw
        case rel => exact ⟨k + 1, v', by omega, rfl, by go_num, by rw [HX.out]; exact hrow', hb'⟩
        case measure => simp [intOf]; omega
    · have hkk : k = ps.length := by omega
      subst hkk
      rw [List.take_of_length_le (Nat.le_refl _)] at hrow
      have HW := Lib.hid hrow; clear hrow
      go_wp2
      go_ret
      exact ⟨_, rfl, ⟨row_lower HW.out.1 hs1, fun g hg => ⟨by have := (HW.out.2 g hg).1; omega, (HW.out.2 g hg).2⟩⟩, kept_trans b1 hb⟩

theorem isBlank_any (x : Nat) (hx : x ≤ 1114111) (w : World) :
    Calls Try.prog 60 #[.int .i32 (x : Int)] w fun e w' => e = .returned (.bool (blankP x)) ∧ ∃ q, w' = w.drewN q := by
  unfold blankP
  by_cases h : x = 32
  · subst h
    go_enter Try.func60, Try.ntmps60
    go_wp2
    go_ret
    exact ⟨rfl, 0, rfl⟩
  · have h2 : ¬ ((x : Int) = 32) := by omega
    have h3 : ((x : Int) == 32) = false := by simpa using h2
    rw [decide_eq_false h]
    go_enter Try.func60, Try.ntmps60
    go_wp2
    go_ret
    exact ⟨rfl, 0, rfl⟩

theorem implWords_any (s : ByteArray) (hs : s.size ≤ 1000000) (w : World) :
    Calls Try.prog 22 #[.string s] w fun e w' => ∃ v, e = .returned v ∧ RowF 9 1 w' w.heap.size w'.heap.size v (wordsL s).length (strV (wordsL s)) ∧ Below w.heap.size w w' := by
  have hp : PredAtRunes Try.prog 60 #[] blankP w := fun W x hx _ => isBlank_any x hx W
  have hF := Try.strings_FieldsFunc_runes 60 #[] (enters_of Try.func60 (by kernel_rfl) rfl) blankP s w (by omega) hp
  rw [fields_words] at hF
  generalize wordsL s = ws at *
  have HF := Lib.hid hF; clear hF hp
  go_enter Try.func22, Try.ntmps22
  go_wp2_with fail
  refine HF.out.mono ?_
  rintro e w1 ⟨A, rfl, hA, hown, hb⟩
  have hown2 : w1.ownsRow w.heap.size 9 1 (.slice (some ⟨A, 0, none⟩) ws.length ws.length) ws.length (strV ws) := hown
  clear hown
  go_wp2
  go_ret
  exact ⟨_, rfl, ⟨hown2, fun g hg => ⟨(hown2.lt g hg).1, (hown2.lt g hg).2⟩⟩, hb⟩

theorem RowS_marks {w : World} {lo hi : Nat} {v : Value} {n k : Nat} (h : RowF 9 1 w lo hi v n (strV (marksT k n))) : RdS w v (marksT k n) := by
  unfold RdS
  rw [marksT_len]
  exact RowF_rd h

theorem walk_FnExactSplitWords (s : ByteArray) (hs : s.size ≤ maxLen) (w : World) :
    Calls Try.prog 4 #[.string s] w fun e w' => e = .returned (.bool true) ∧ Below w.heap.size w w' := by
  unfold maxLen at hs
  by_cases hl : s.size ≤ 1000000
  · have hS := fun w => specWords_any s hl w
    have hI := fun w => implWords_any s hl w
    have hlen : (wordsL s).length ≤ 1000001 := by
      have := restW_len s 32 s.size 0 0 rfl
      exact Nat.le_trans (List.length_filter_le _ _) (by omega)
    generalize wordsL s = zs at *
    have HS := Lib.hid hS; clear hS
    have HI := Lib.hid hI; clear hI
    go_enter Try.func4, Try.ntmps4
    go_wp2_with fail
    refine (HS.out _).mono ?_
    rintro e w1 ⟨v0, rfl, r0, b0⟩
    go_wp2_with fail
    refine (HI.out _).mono ?_
    rintro e w2 ⟨v1, rfl, r1, b1⟩
    have r0' := RowF_kept r0 b1
    go_wp2_with fail
    refine (eqStrs_same _ _ _ _ (RowF_rd r1) (RowF_rd r0')).mono ?_
    rintro e w3 ⟨rfl, b2⟩
    have r0'' := RowF_kept r0' b2
    have r1' := RowF_kept r1 b2
    go_wp2_with fail
    refine (markStrs_any _ _ _ _ 101 _ r1' (by omega) (by omega) (by omega) (by have := b2.size; omega)).mono ?_
    rintro e w4 ⟨rfl, r1'', g3⟩
    have r0''' := RowF_far r0'' g3 (fun g hg => by have := r1'.2 g hg; omega)
    have B4 : Below w.heap.size w w4 := grown_below (kept_trans (kept_trans b0 b1) b2) g3 (fun g hg => by have := r1'.2 g hg; have := b0.size; omega)
    go_wp2_with fail
    refine (heldStrs_same _ zs.length 101 _ (RowS_marks r1'') (by omega) (by omega) (by omega)).mono ?_
    rintro e w5 ⟨rfl, b5⟩
    have r0x := RowF_kept r0''' b5
    have r1x := RowF_kept r1'' b5
    go_wp2_with fail
    refine (HI.out _).mono ?_
    rintro e w6 ⟨v2, rfl, r2, b6⟩
    have q0 := RowF_kept r0x b6
    have q1 := RowF_kept r1x b6
    go_wp2_with fail
    refine (eqStrs_same _ _ _ _ (RowF_rd r2) (RowF_rd q0)).mono ?_
    rintro e w7 ⟨rfl, b7⟩
    have p1 := RowF_kept q1 b7
    go_wp2_with fail
    refine (heldStrs_same _ zs.length 101 _ (RowS_marks p1) (by omega) (by omega) (by omega)).mono ?_
    rintro e w8 ⟨rfl, b8⟩
    go_wp2
    go_ret
    exact ⟨rfl, kept_trans (kept_trans (kept_trans (kept_trans B4 b5) b6) b7) b8⟩
  · go_enter Try.func4, Try.ntmps4
    go_wp2
    go_ret
    exact ⟨rfl, Below.refl _ _⟩

end Go.Proofs.Ytapnihkgalbddaa
namespace Go.Proofs.Ytapnihkgalbddaa.fnExactSplitWords
open Go.ChangeShapes Go.WideShapes Go.ChangeAt Go.RowKit
set_option linter.unusedVariables false
set_option linter.unusedSimpArgs false
open Go.Joins Go.ChangeMaps
set_option maxRecDepth 100000 in
theorem lifted (os : Os) (started : os.Started) (H : Type) (enc : TypeId × Value → H) :
    ReturnsInHanded {} Try.checked os 4 .any (Rows.fnExactSplitWordsSpec.pre6 enc Try.prog Try.f4 Rows.fnExactSplitWordsRow.domain false) (Rows.fnExactSplitWordsSpec.post enc Try.prog Try.f4 false true false false) := by
  refine returnsInHanded_of_change (C := Try.checked) (show ownKnob Try.prog.godebug = none by kernel_rfl) started (by kernel_rfl) Try.func4
    (ChangeSpec.witness6 (enc := enc) (C := Try.checked) false ⟨#[], #[.string ByteArray.empty], []⟩ 8 (by kernel_rfl) (by kernel_rfl) (by kernel_rfl) (by kernel_rfl)) ?_
  intro W base args ds gs before hval0 hW hcnd _
  have hval : ∀ (j : Nat) t v, Try.f4.params[j]? = some t → args[j]? = some v → Value.okWide Try.prog W .any base t v := hval0
  have hW' := hW
  obtain ⟨p, q, hA0, hV, rfl, hfz, hnd⟩ := hW
  have hA : DataW.TrodAll enc Try.prog W 0 (fun _ => true) true Try.f4.params.toList args.toList ds p := hA0
  rw [Try.params4] at hA hval
  obtain ⟨v0, vs0, d0, ds0, p0, q0, hargs, rfl, rfl, h0, r0⟩ := trodAll_cons hA
  obtain ⟨rfl, rfl, rfl⟩ := trodAll_nil r0
  obtain rfl : args = #[v0] := by cases args; simp_all
  obtain ⟨rfl, rfl⟩ := trodVars_none hV
  obtain ⟨a0, rfl, rfl, rfl, w0⟩ := open_string Try.underlying9 (hval 0 9 v0 rfl rfl) h0
  clear hA0 hval0
  refine (walk_FnExactSplitWords (w := W) a0 w0).mono fun e W' ⟨he, hb⟩ => ?_
  subst he
  exact ⟨_, rfl, law_post (B := 4) (by kernel_rfl) (by kernel_rfl) rfl Try.underlying4 rfl hW' rfl hb⟩

/-- The statement: for every input the law returns true, and the arguments read afterwards as before. -/
theorem proved : Rows.FnExactSplitWordsSaid :=
  OpenClaim.holds_of_wide 4 Try.f4 rfl rfl rfl rfl rfl rfl rfl ⟨rfl, rfl, rfl, rfl, rfl⟩ rfl rfl rfl rfl rfl (by kernel_rfl) Try.func4 (by kernel_rfl)
    (of_decide_eq_true (by kernel_rfl)) (by unfold Func.isWrapper; first | (rw [if_pos (by decide +kernel)]; kernel_rfl) | (rw [if_neg (by decide +kernel)]; exact ⟨rfl, rfl⟩))
    (fun os started H enc _ => lifted os started H enc)
end Go.Proofs.Ytapnihkgalbddaa.fnExactSplitWords
