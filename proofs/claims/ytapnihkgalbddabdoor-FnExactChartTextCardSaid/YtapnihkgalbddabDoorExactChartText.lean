/- Proved: for every input the law FnExactChartText returns true, and each argument reads afterwards as it read before; no condition beside those of the given row. -/
import Derived.Test.YtapnihkgalbddabDoorRows
import Derived.WalkKit
import Derived.ProofKit
import Derived.OpenShut
import Derived.Lib.Hide
import Derived.Handy
import Derived.BigQuiet
import Derived.Carry
import Derived.Deep.OwnRows
import Derived.Deep.QuietTactic
import Derived.Deep.RegionHeld3
import Derived.Deep.SlicePairs
import Derived.Lib.ItoaLen
import Derived.Lib.ItoaNum
import Derived.Lib.Join
import Derived.Lib.LaidTab
import Derived.Lib.LaidU8
import Derived.Lib.SmallJoins
import Derived.Shelf.Strings.Builder1
import Derived.Shelf.Strings.Builder2
import Derived.Shelf.Strings.OnBuilder
import Derived.Shelf.Strconv.Itoa0
import Derived.Shelf.Strconv.Itoa1
import Derived.Shelf.LaysM
import Derived.Shelf.Strconv.Itoa2
import Derived.Shelf.Strconv.Itoa3
import Derived.Shelf.Strconv.Itoa4
import Derived.Shelf.Strconv.ParseIntEmpty
import Derived.Shelf.Strconv.Clone
import Derived.Shelf.Strconv.SyntaxError
import Derived.Shelf.LaysC
import Derived.Shelf.Strconv.ToError
import Derived.Shelf.Strconv.Lower
import Derived.Shelf.Strconv.ParseUint10
import Derived.Shelf.Strconv.ParseUint10Empty
import Derived.Shelf.Strconv.ParseUint10Any
import Derived.Shelf.Strconv.ParseInt10
import Derived.Shelf.Strconv.RangeError
import Derived.Shelf.Strconv.ToErrorRange
import Derived.Shelf.Strconv.ParseUintEmpty
import Derived.Shelf.Strconv.ParseUint10b64
import Derived.Shelf.Strconv.ParseUint10b32
import Derived.Shelf.Strconv.ParseUint10b16
import Derived.Shelf.Strconv.ParseUint10b8
import Derived.Shelf.Strconv.ParseUint10At
import Derived.Shelf.Strconv.ParseInt10At64
import Derived.Shelf.Strconv.ParseInt10At32
import Derived.Shelf.Strconv.ParseInt10At16
import Derived.Shelf.Strconv.ParseInt10At8
import Derived.Shelf.Strconv.ParseInt10All
import Derived.Shelf.Strconv.ParseIntPublic10
import Derived.Shelf.Strings.Search1
import Derived.Shelf.Strings.Search2
import Derived.Shelf.Strings.Cut
import Derived.Shelf.Strings.Shaped
import Derived.Shelf.Strings.Prefix
import Derived.Shelf.Strings.FieldsFuncAny
import Derived.Test.YtapnihkgalbddabDoorCards
import Derived.Test.YtapnihkgalbddabDoorTie
import Derived.Lib.SmallJoins
import Derived.ChangeMaps5
import Derived.Deep.DeepHandedRow
import Derived.Deep.DeepWitnessRowRef
import Derived.Lib.LaidTab
import Derived.SevenTiedAt
namespace Go.Proofs
open Go.Shelf
def Tryd.lays156_ren : Go.Shelf.Ren := ⟨fun | 156 => 22 | 165 => 31 | 166 => 32 | 169 => 33 | 240 => 40 | 241 => 41 | 276 => 49 | 277 => 50 | n => n, fun | 31 => 40 | 9 => 9 | 3 => 3 | 4 => 4 | 0 => 0 | 20 => 20 | 72 => 55 | 76 => 59 | 70 => 52 | 37 => 53 | 75 => 58 | 127 => 67 | 164 => 81 | 5 => 5 | 80 => 61 | n => n, fun | n => n⟩
theorem Tryd.lays156 : Go.Proofs.Lays.n156 Tryd.prog Tryd.lays156_ren := {
  mixed := by kernel_rfl
  f156 := Tryd.func22.trans (congrArg some (by kernel_rfl))
  f165 := Tryd.func31.trans (congrArg some (by kernel_rfl))
  f166 := Tryd.func32.trans (congrArg some (by kernel_rfl))
  f169 := Tryd.func33.trans (congrArg some (by kernel_rfl))
  f240 := Tryd.func40.trans (congrArg some (by kernel_rfl))
  f241 := Tryd.func41.trans (congrArg some (by kernel_rfl))
  f276 := Tryd.func49.trans (congrArg some (by kernel_rfl))
  f277 := Tryd.func50.trans (congrArg some (by kernel_rfl))
  t0 := Tryd.underlying0
  a0 := Tryd.isAgg0
  z0 := Tryd.sizeOf0
  v0 := Tryd.zeroValue0
  t3 := Tryd.underlying3
  a3 := Tryd.isAgg3
  z3 := Tryd.sizeOf3
  v3 := Tryd.zeroValue3
  t4 := Tryd.underlying4
  a4 := Tryd.isAgg4
  z4 := Tryd.sizeOf4
  v4 := Tryd.zeroValue4
  t9 := Tryd.underlying9
  a9 := Tryd.isAgg9
  z9 := Tryd.sizeOf9
  v9 := Tryd.zeroValue9
  t20 := Tryd.underlying20
  a20 := Tryd.isAgg20
  z20 := Tryd.sizeOf20
  v20 := Tryd.zeroValue20
  t31 := Tryd.underlying40
  a31 := Tryd.isAgg40
  z31 := Tryd.sizeOf40
  v31 := Tryd.zeroValue40
  t37 := Tryd.underlying53
  a37 := Tryd.isAgg53
  z37 := Tryd.sizeOf53
  v37 := Tryd.zeroValue53
  t70 := Tryd.underlying52
  a70 := Tryd.isAgg52
  z70 := Tryd.sizeOf52
  v70 := Tryd.zeroValue52
  t72 := Tryd.underlying55
  a72 := Tryd.isAgg55
  z72 := Tryd.sizeOf55
  v72 := Tryd.zeroValue55
  t75 := Tryd.underlying58
  a75 := Tryd.isAgg58
  z75 := Tryd.sizeOf58
  v75 := Tryd.zeroValue58
  t76 := Tryd.underlying59
  a76 := Tryd.isAgg59
  z76 := Tryd.sizeOf59
  v76 := Tryd.zeroValue59
  t127 := Tryd.underlying67
  a127 := Tryd.isAgg67
  z127 := Tryd.sizeOf67
  v127 := Tryd.zeroValue67
  t164 := Tryd.underlying81
  a164 := Tryd.isAgg81
  z164 := Tryd.sizeOf81
  v164 := Tryd.zeroValue81 }
theorem Tryd.Builder_Extra_156 : Builder.Extra Tryd.prog Tryd.lays156_ren := {
  sizeBuilder := by kernel_rfl
  liesBuilder := by kernel_rfl
  t5 := Tryd.underlying5
  a5 := Tryd.isAgg5
  z5 := Tryd.sizeOf5
  v5 := Tryd.zeroValue5
  infoByte := by kernel_rfl
  cellsByte := by kernel_rfl
  sizeByte := by kernel_rfl
  neB5 := by decide }
open Go.RowKit in
/-- strings.Join: "Join concatenates the elements of its first argument to create a single string. The separator string sep is placed between elements in the resulting string.": HOWEVER MANY ELEMENTS. Below the heap's end the world is as it was. (LAID: no walk: one application.) -/
theorem Tryd.strings_Join (bk o c : Nat) (xs : List ByteArray) (sep : ByteArray) (w : World) (hcells : ∀ (j : Nat) x, xs[j]? = some x → w.cell? ⟨bk, o + j, none⟩ = some (.string x)) (hbk : bk < w.heap.size) (hN : xs.length ≤ 140737488355328) (hcap : xs.length ≤ c) (hlen : (Lib.join (xs.map (·.data.toList)) sep.data.toList).length ≤ 140737488355328) :
    Calls Tryd.prog 22 #[.slice (some ⟨bk, o, none⟩) xs.length c, .string sep] w fun e w' => e = .returned (.string ⟨(Lib.join (xs.map (·.data.toList)) sep.data.toList).toArray⟩) ∧ Below w.heap.size w w' := Any.strings_Join Tryd.lays156 Tryd.Builder_Extra_156 bk o c xs sep w hcells hbk hN hcap hlen
def Tryd.laysM173_ren : Go.Shelf.Ren := ⟨fun | 173 => 30 | 246 => 39 | 283 => 45 | 284 => 46 | 285 => 47 | 286 => 48 | 129 => 56 | 317 => 55 | 318 => 57 | 319 => 58 | 320 => 59 | 337 => 70 | 338 => 71 | n => n, fun | 2 => 2 | 3 => 3 | 9 => 9 | 4 => 4 | 171 => 75 | 0 => 0 | 53 => 76 | 37 => 53 | 5 => 5 | 173 => 79 | 212 => 87 | 51 => 88 | 20 => 20 | 213 => 89 | 46 => 91 | 232 => 109 | 233 => 110 | n => n, fun | 17 => 0 | 18 => 4 | 19 => 5 | n => n⟩
theorem Tryd.laysM173 : Go.Proofs.LaysM.n173 Tryd.prog Tryd.laysM173_ren := {
  mixed := by kernel_rfl
  f129 := Tryd.func56.trans (congrArg some (by kernel_rfl))
  f173 := Tryd.func30.trans (congrArg some (by kernel_rfl))
  f246 := Tryd.func39.trans (congrArg some (by kernel_rfl))
  f283 := Tryd.func45.trans (congrArg some (by kernel_rfl))
  f284 := Tryd.func46.trans (congrArg some (by kernel_rfl))
  f285 := Tryd.func47.trans (congrArg some (by kernel_rfl))
  f286 := Tryd.func48.trans (congrArg some (by kernel_rfl))
  f317 := Tryd.func55.trans (congrArg some (by kernel_rfl))
  f318 := Tryd.func57.trans (congrArg some (by kernel_rfl))
  f319 := Tryd.func58.trans (congrArg some (by kernel_rfl))
  f320 := Tryd.func59.trans (congrArg some (by kernel_rfl))
  f337 := Tryd.func70.trans (congrArg some (by kernel_rfl))
  f338 := Tryd.func71.trans (congrArg some (by kernel_rfl))
  t0 := Tryd.underlying0
  a0 := Tryd.isAgg0
  z0 := Tryd.sizeOf0
  v0 := Tryd.zeroValue0
  t2 := Tryd.underlying2
  a2 := Tryd.isAgg2
  z2 := Tryd.sizeOf2
  v2 := Tryd.zeroValue2
  t3 := Tryd.underlying3
  a3 := Tryd.isAgg3
  z3 := Tryd.sizeOf3
  v3 := Tryd.zeroValue3
  t4 := Tryd.underlying4
  a4 := Tryd.isAgg4
  z4 := Tryd.sizeOf4
  v4 := Tryd.zeroValue4
  t5 := Tryd.underlying5
  a5 := Tryd.isAgg5
  z5 := Tryd.sizeOf5
  v5 := Tryd.zeroValue5
  t9 := Tryd.underlying9
  a9 := Tryd.isAgg9
  z9 := Tryd.sizeOf9
  v9 := Tryd.zeroValue9
  t20 := Tryd.underlying20
  a20 := Tryd.isAgg20
  z20 := Tryd.sizeOf20
  v20 := Tryd.zeroValue20
  t37 := Tryd.underlying53
  a37 := Tryd.isAgg53
  z37 := Tryd.sizeOf53
  v37 := Tryd.zeroValue53
  t46 := Tryd.underlying91
  a46 := Tryd.isAgg91
  z46 := Tryd.sizeOf91
  v46 := Tryd.zeroValue91
  t51 := Tryd.underlying88
  a51 := Tryd.isAgg88
  z51 := Tryd.sizeOf88
  v51 := Tryd.zeroValue88
  t53 := Tryd.underlying76
  a53 := Tryd.isAgg76
  z53 := Tryd.sizeOf76
  v53 := Tryd.zeroValue76
  t171 := Tryd.underlying75
  a171 := Tryd.isAgg75
  z171 := Tryd.sizeOf75
  v171 := Tryd.zeroValue75
  t173 := Tryd.underlying79
  a173 := Tryd.isAgg79
  z173 := Tryd.sizeOf79
  v173 := Tryd.zeroValue79
  t212 := Tryd.underlying87
  a212 := Tryd.isAgg87
  z212 := Tryd.sizeOf87
  v212 := Tryd.zeroValue87
  t213 := Tryd.underlying89
  a213 := Tryd.isAgg89
  z213 := Tryd.sizeOf89
  t232 := Tryd.underlying109
  a232 := Tryd.isAgg109
  z232 := Tryd.sizeOf109
  v232 := Tryd.zeroValue109
  t233 := Tryd.underlying110
  a233 := Tryd.isAgg110
  z233 := Tryd.sizeOf110
  v233 := Tryd.zeroValue110
  g17 := by kernel_rfl
  g18 := by kernel_rfl
  g19 := by kernel_rfl
  i0 := by kernel_rfl
  i2 := by kernel_rfl
  i3 := by kernel_rfl
  i4 := by kernel_rfl
  i5 := by kernel_rfl
  i9 := by kernel_rfl
  i20 := by kernel_rfl
  i37 := by kernel_rfl
  i46 := by kernel_rfl
  i51 := by kernel_rfl
  i53 := by kernel_rfl
  i171 := by kernel_rfl
  i173 := by kernel_rfl
  i212 := by kernel_rfl
  i232 := by kernel_rfl
  i233 := by kernel_rfl
  m17 := by kernel_rfl
  m18 := by kernel_rfl
  m19 := by kernel_rfl }
open Go.RowKit Go.Sort Go.Lib in
/-- strconv.FormatInt: "FormatInt returns the string representation of i in the given base": AT BASE 10: i's decimal numeral, for every int64. (LAID: no walk: one application.) -/
theorem Tryd.strconv_FormatInt_10 (n : Int) (h0 : -9223372036854775808 ≤ n) (h1 : n ≤ 9223372036854775807) (w : World) (htab : Lib.TabIs Tryd.prog w "internal/strconv.uint64pow10" .u64 Lib.pow10Tab) :
    Calls Tryd.prog 30 #[.int .i64 n, .int .i64 10] w fun e w' => e = .returned (.string ⟨(Lib.itoa n).toArray⟩) ∧ ∃ k os, w' = grow (w.drewN k) os := Any.strconv_FormatInt_10 Tryd.laysM173 n h0 h1 w htab
end Go.Proofs
namespace Go.Proofs.YtapnihkgalbddabDoor
open Go.ChangeShapes Go.WideShapes Go.ChangeAt Go.RowKit
set_option linter.unusedVariables false
set_option linter.unusedSimpArgs false

theorem tmod_pos (n k : Int) (h : 0 ≤ n) : n.tmod k = n % k := Int.tmod_eq_emod_of_nonneg h

theorem trodAll_stay {H : Type} {enc : TypeId × Value → H} {P : Program} (hl : laidOutB P = true) {W W' : World} (hb : Below W.heap.size W W') :
    ∀ (ts : List TypeId) (vs : List Value) (ds : List (DataW H)) (ps : List MemPlace), ts.all (fun t => P.readableRec t && decide (t < P.types.size)) = true →
      DataW.TrodAll enc P W 0 (fun _ => true) true ts vs ds ps → (∀ x ∈ ps, x.block < W.heap.size) →
      DataW.TrodAll enc P W' 0 (fun b => decide (b < W.heap.size)) true ts vs ds ps := by
  intro ts
  induction ts with
  | nil => intro vs ds ps _ h _; obtain ⟨rfl, rfl, rfl⟩ := trodAll_nil h; exact rfl
  | cons t ts ih =>
    intro vs ds ps hr h hlt
    simp only [List.all_cons, Bool.and_eq_true, decide_eq_true_eq] at hr
    obtain ⟨v, vs', d, ds', p, q, rfl, rfl, rfl, h0, h1⟩ := trodAll_cons h
    exact ⟨p, q, Below.trod hl hr.1.1 hr.1.2 h0 hb (fun x hx => hlt x (by simp [hx])), ih _ _ _ hr.2 h1 (fun x hx => hlt x (by simp [hx])), rfl⟩

/-- Each variable's type is one that can be read. -/
def varsOk (P : Program) (ns : List String) : Bool := ns.all fun n => match P.globalNamed n with
  | some g => (match (P.globals[g]?).map (·.type) with | some t => P.readableRec t && decide (t < P.types.size) | none => true)
  | none => true

theorem trodVars_stay {H : Type} {enc : TypeId × Value → H} {P : Program} (hl : laidOutB P = true) {W W' : World} (hb : Below W.heap.size W W') :
    ∀ (ns : List String) (gs : List (DataW H)) (ps : List MemPlace), varsOk P ns = true → DataW.TrodVars enc P W (fun _ => true) ns gs ps → (∀ x ∈ ps, x.block < W.heap.size) →
      DataW.TrodVars enc P W' (fun b => decide (b < W.heap.size)) ns gs ps := by
  intro ns
  induction ns with
  | nil => intro gs ps _ h _; obtain ⟨rfl, rfl⟩ := trodVars_none h; exact rfl
  | cons n ns ih =>
    intro gs ps hv h hlt
    cases gs with
    | nil => exact h.elim
    | cons d gs =>
      obtain ⟨g, t, cs, fuel, p, q, hg, ht, hvar, hd, hr, rfl⟩ := h
      simp only [varsOk, List.all_cons, Bool.and_eq_true] at hv
      have hv1 := hv.1
      rw [hg] at hv1
      simp only [ht, Bool.and_eq_true, decide_eq_true_eq] at hv1
      have hgl : g < W.heap.size := by
        simp only [World.var?, hg, Option.bind_some] at hvar
        rcases Nat.lt_or_ge g W.heap.size with hlt | hge
        · exact hlt
        · rw [Array.getElem?_eq_none hge] at hvar; simp at hvar
      have h0 : DataW.Trod enc P W 0 (fun _ => true) true t (.agg cs) d p := ⟨fuel, by simpa [Value.cells] using hd⟩
      obtain ⟨fuel', hd'⟩ := Below.trod hl hv1.1 hv1.2 h0 hb (fun x hx => hlt x (by simp [hx]))
      refine ⟨g, t, cs, fuel', p, q, hg, ht, ?_, by simpa [Value.cells] using hd', ih _ _ hv.2 hr (fun x hx => hlt x (by simp [hx])), rfl⟩
      simp only [World.var?, hg, Option.bind_some] at hvar ⊢
      rw [hb.block g hgl]
      exact hvar

/-- A law's row at its end, the listed variables too: it returned true, and of what was there nothing has turned. -/
theorem law_postV {H : Type} {enc : TypeId × Value → H} {P : Program} {f : Func} {s : ChangeSpec} {W W' : World} {args : Array Value} {ds gs : List (DataW H)} {before : List MemPlace} {B : TypeId}
    (hl : laidOutB P = true) (hr : f.params.toList.all (fun t => P.readableRec t && decide (t < P.types.size)) = true) (hvs : varsOk P s.vars = true)
    (hres : f.resultTypes = #[B]) (hB : P.underlying B = some .bool)
    (hW : DataW.Whole enc P f.params.toList s.vars false W args.toList ds gs before)
    (hfn : s.fn H (ds ++ gs) = { results := [.lit (.bool true)], args := ds, vars := gs }) (hb : Below W.heap.size W W') :
    s.post enc P f false true false false W args (.bool true) W' := by
  have hlt : ∀ p ∈ before, p.block < W.heap.size := fun p hp => hW.lt p hp
  have hW' := hW
  obtain ⟨p, q, hA, hV, rfl, _, _⟩ := hW'
  refine ⟨ds, gs, p ++ q, [], p, q, hW, ?_, ?_, ?_, hb.frame _, fun h => by cases h⟩
  · rw [hfn, hres]
    exact trodAll_cons_mk (shut_bool hB _) trodAll_mk0
  · rw [hfn]
    exact trodAll_stay hl hb _ _ _ _ hr hA (fun x hx => hlt x (by simp [hx]))
  · rw [hfn]
    exact trodVars_stay hl hb _ _ _ hvs hV (fun x hx => hlt x (by simp [hx]))

theorem vars_one {H : Type} {enc : TypeId × Value → H} {P : Program} {W : World} {sp : Nat → Bool} {n : String} {gs : List (DataW H)} {q : List MemPlace} (h : DataW.TrodVars enc P W sp [n] gs q) : ∃ g1, gs = [g1] := by
  cases gs with
  | nil => exact h.elim
  | cons g gs =>
    obtain ⟨_, _, _, _, _, _, _, _, _, _, hr, _⟩ := h
    obtain ⟨rfl, _⟩ := trodVars_none hr
    exact ⟨_, rfl⟩

theorem kept_cell {W w1 : World} (hb : Below W.heap.size W w1) (b o : Nat) (h : b < W.heap.size) : w1.cell? ⟨b, o, none⟩ = W.cell? ⟨b, o, none⟩ := hb.cell (p := ⟨b, o, none⟩) h

theorem kept_frozen {W w1 : World} (hb : Below W.heap.size W w1) (b o : Nat) (h : b < W.heap.size) : w1.frozen? ⟨b, o, none⟩ = W.frozen? ⟨b, o, none⟩ := hb.frozen (p := ⟨b, o, none⟩) h

theorem kept_trans {a b c : World} (h : Below a.heap.size a b) (k : Below b.heap.size b c) : Below a.heap.size a c := h.trans (k.mono h.size)

theorem kept_drewN {B : Nat} {a w : World} (h : Below B a w) (n : Nat) : Below B a (w.drewN n) := { os := h.os, tape := h.tape, output := h.output, size := h.size, block := h.block }

theorem grown_step {a b c : World} {row : Option Nat} (h : a.grownBy b row) (k : b.grownBy c row) : a.grownBy c row :=
  ⟨k.os.trans h.os, k.tape.trans h.tape, k.output.trans h.output, Nat.le_trans h.size k.size, fun i hi hne => (k.block i (Nat.lt_of_lt_of_le hi h.size) hne).trans (h.block i hi hne)⟩

theorem grown_below {a b c : World} {row : Option Nat} (h : Below a.heap.size a b) (k : b.grownBy c row) (hr : ∀ g, row = some g → a.heap.size ≤ g) : Below a.heap.size a c := h.grown k h.size hr

def inB (n low high : Int) : Bool := decide (low ≤ n) && decide (n ≤ high)

theorem in_any (n low high : Int) (w : World) :
    Calls Tryd.prog 28 #[.int .i64 n, .int .i64 low, .int .i64 high] w fun e w' => e = .returned (.bool (inB n low high)) ∧ w = w' := by
  unfold inB
  by_cases h1 : low ≤ n <;> by_cases h2 : n ≤ high <;>
  · go_enter Tryd.func28, Tryd.ntmps28
    go_wp2
    go_ret
    exact ⟨by simp [*], rfl⟩

theorem inB_true {n a b : Int} (h : inB n a b = true) : a ≤ n ∧ n ≤ b := by simpa [inB] using h

theorem inB_false {n a b : Int} (h : inB n a b = false) : ¬ (a ≤ n ∧ n ≤ b) := by simpa [inB] using h

theorem own_kept {W w1 : World} {base : Nat} {e : TypeId} {size : Nat} {v : Value} {n : Nat} {xs : List Value} (h : W.ownsRow base e size v n xs) (hb : Below W.heap.size W w1) : w1.ownsRow base e size v n xs := by
  refine ⟨h.1, ?_⟩
  rcases h.2 with h2 | ⟨g, cap, cur, hv, hg, hh, r⟩
  · exact Or.inl h2
  · refine Or.inr ⟨g, cap, cur, hv, hg, ?_, r⟩
    rw [hb.block g (h.lt g (by rw [hv]; rfl)).2]
    exact hh

theorem flat_len {α : Type} {enc : α → List Value} {sz : Nat} (h : ∀ z, (enc z).length = sz) (zs : List α) : (zs.flatMap enc).length = zs.length * sz := by
  induction zs with
  | nil => simp
  | cons z zs ih => rw [List.flatMap_cons, List.length_append, ih, h, List.length_cons, Nat.add_mul]; omega

theorem flat_at {α : Type} {enc : α → List Value} {sz : Nat} (h : ∀ z, (enc z).length = sz) (zs : List α) (k j : Nat) (hk : k < zs.length) (hj : j < sz) : (zs.flatMap enc)[k * sz + j]? = (enc zs[k])[j]? := by
  induction zs generalizing k with
  | nil => simp at hk
  | cons z zs ih =>
    cases k with
    | zero => rw [List.flatMap_cons, List.getElem?_append_left (by rw [h]; omega)]; simp
    | succ k =>
      have e : (k + 1) * sz + j - (enc z).length = k * sz + j := by rw [h, Nat.add_mul]; omega
      rw [List.flatMap_cons, List.getElem?_append_right (by rw [h, Nat.add_mul]; omega), e, ih k (by simpa using hk)]
      simp

/-- The slice value reads as n elements of sz cells each, cell for cell. -/
def RdF (w : World) (v : Value) (n sz : Nat) (xs : List Value) : Prop :=
  n ≤ 9223372036854775807 ∧ xs.length = n * sz ∧ ∃ A c, v = .slice A n c ∧ ∀ i, i < n * sz → ∃ b off, A = some ⟨b, off, none⟩ ∧ b < w.heap.size ∧ w.cell? ⟨b, off + i, none⟩ = xs[i]?

theorem RdF_kept {W w1 : World} {v : Value} {n sz : Nat} {xs : List Value} (h : RdF W v n sz xs) (hb : Below W.heap.size W w1) : RdF w1 v n sz xs := by
  obtain ⟨hl, hx, A, c, rfl, hr⟩ := h
  refine ⟨hl, hx, A, c, rfl, fun k hk => ?_⟩
  obtain ⟨b, off, e, hlt, hc⟩ := hr k hk
  exact ⟨b, off, e, Nat.lt_of_lt_of_le hlt hb.size, by rw [kept_cell hb b _ hlt]; exact hc⟩

/-- A row of elements of the call's own (type e, sz cells each), in a block from lo on and below hi. -/
def RowF (e sz : Nat) (w : World) (lo hi : Nat) (v : Value) (n : Nat) (xs : List Value) : Prop :=
  w.ownsRow lo e sz v n xs ∧ ∀ g, v.ownBlock = some g → lo ≤ g ∧ g < hi

theorem RowF_nil (e sz : Nat) (w : World) (lo hi : Nat) : RowF e sz w lo hi (.slice none 0 0) 0 [] := ⟨World.ownsRow_nil _ _ _ _, fun g h => by simp [Value.ownBlock] at h⟩

theorem RowF_form {e sz : Nat} {w : World} {lo hi : Nat} {v : Value} {n : Nat} {xs : List Value} (h : RowF e sz w lo hi v n xs) :
    (n = 0 ∧ xs = [] ∧ v = .slice none 0 0) ∨ ∃ g cap, v = .slice (some ⟨g, 0, none⟩) n cap ∧ lo ≤ g ∧ g < hi ∧ g < w.heap.size ∧ n ≤ cap ∧ cap ≤ maxLen := by
  rcases h.1.2 with ⟨h1, h2⟩ | ⟨g, cap, cur, rfl, hg, hh, h3, h4, _⟩
  · exact Or.inl ⟨h2, List.eq_nil_of_length_eq_zero (by rw [h.1.1, h2, Nat.zero_mul]), h1⟩
  · exact Or.inr ⟨g, cap, rfl, hg, (h.2 g rfl).2, (h.1.lt g rfl).2, h3, h4⟩

theorem RowF_rd {e sz : Nat} {w : World} {lo hi : Nat} {v : Value} {n : Nat} {xs : List Value} (h : RowF e sz w lo hi v n xs) : RdF w v n sz xs := by
  rcases RowF_form h with ⟨rfl, rfl, rfl⟩ | ⟨g, cap, rfl, _, _, hlt, h3, h4⟩
  · exact ⟨by simp, by simp, none, 0, rfl, fun k hk => by simp at hk⟩
  · unfold maxLen at h4
    refine ⟨by omega, h.1.1, some ⟨g, 0, none⟩, cap, rfl, fun k hk => ⟨g, 0, rfl, hlt, ?_⟩⟩
    rw [Nat.zero_add, h.1.cellAt k hk]

theorem RowF_kept {e sz : Nat} {W w1 : World} {lo hi : Nat} {v : Value} {n : Nat} {xs : List Value} (h : RowF e sz W lo hi v n xs) (hb : Below W.heap.size W w1) : RowF e sz w1 lo hi v n xs := ⟨own_kept h.1 hb, h.2⟩

/-- The first elements of a row. -/
theorem RowF_short {e sz : Nat} {w : World} {lo hi g cap m n : Nat} {xs : List Value} (h : RowF e sz w lo hi (.slice (some ⟨g, 0, none⟩) m cap) m xs) (hn : n ≤ m) :
    RowF e sz w lo hi (.slice (some ⟨g, 0, none⟩) n cap) n (xs.take (n * sz)) := by
  refine ⟨⟨?_, ?_⟩, fun g' hg' => h.2 g' hg'⟩
  · rw [List.length_take, h.1.1]
    have := Nat.mul_le_mul_right sz hn
    omega
  · rcases h.1.2 with ⟨h1, h2⟩ | ⟨g', cap', cur, h1, hg, hh, h3, h4, h5, h6⟩
    · simp at h1
    · simp only [Value.slice.injEq, Option.some.injEq, Addr.mk.injEq, and_true, true_and] at h1
      obtain ⟨rfl, rfl⟩ := h1
      refine Or.inr ⟨g, cap, cur, rfl, hg, hh, by omega, h4, h5, ?_⟩
      rw [← h6, List.take_take]
      congr 1
      have := Nat.mul_le_mul_right sz hn
      omega

/-- A pair of numbers, cell by cell. -/
def encP (z : Int × Int) : List Value := [.int .i64 z.1, .int .i64 z.2]

def flatP (zs : List (Int × Int)) : List Value := zs.flatMap encP

theorem flatP_len (zs : List (Int × Int)) : (flatP zs).length = zs.length * 2 := flat_len (enc := encP) (fun _ => rfl) zs

theorem flatP_at (zs : List (Int × Int)) (k : Nat) (h : k < zs.length) : (flatP zs)[k * 2]? = some (.int .i64 zs[k].1) ∧ (flatP zs)[k * 2 + 1]? = some (.int .i64 zs[k].2) :=
  ⟨flat_at (enc := encP) (sz := 2) (fun _ => rfl) zs k 0 h (by omega), flat_at (enc := encP) (sz := 2) (fun _ => rfl) zs k 1 h (by omega)⟩

/-- The slice value reads as a list of pairs of numbers. -/
def RdP (w : World) (v : Value) (zs : List (Int × Int)) : Prop := RdF w v zs.length 2 (flatP zs)

theorem RdP_kept {W w1 : World} {v : Value} {zs : List (Int × Int)} (h : RdP W v zs) (hb : Below W.heap.size W w1) : RdP w1 v zs := RdF_kept h hb

theorem RdP_slice {w : World} {v : Value} {zs : List (Int × Int)} (h : RdP w v zs) : ∃ A c, v = .slice A zs.length c ∧ zs.length ≤ 9223372036854775807 ∧
    ∀ k, (hk : k < zs.length) → ∃ b off, A = some ⟨b, off, none⟩ ∧ b < w.heap.size ∧ w.cell? ⟨b, off + k * 2, none⟩ = some (.int .i64 zs[k].1) ∧ w.cell? ⟨b, off + k * 2 + 1, none⟩ = some (.int .i64 zs[k].2) := by
  obtain ⟨hl, hx, A, c, rfl, hr⟩ := h
  refine ⟨A, c, rfl, hl, fun k hk => ?_⟩
  obtain ⟨b, off, rfl, hlt, h0⟩ := hr (k * 2) (by omega)
  obtain ⟨b', off', e, _, h1⟩ := hr (k * 2 + 1) (by omega)
  simp only [Option.some.injEq, Addr.mk.injEq, and_true] at e
  obtain ⟨rfl, rfl⟩ := e
  rw [(flatP_at zs k hk).1] at h0
  rw [(flatP_at zs k hk).2, ← Nat.add_assoc] at h1
  exact ⟨b, off, rfl, hlt, h0, h1⟩

/-- An argument that is a slice of structs of two numbers. -/
theorem open_pairs {H : Type} {enc : TypeId × Value → H} {P : Program} {W : World} {t e : TypeId} {f0 f1 : Field} {base : Nat} {v : Value} {d : DataW H} {p : List MemPlace}
    (ht : P.underlying t = some (.slice e)) (he : P.underlying e = some (.struct #[f0, f1])) (i0 : P.underlying f0.type = some (.int .i64)) (i1 : P.underlying f1.type = some (.int .i64))
    (ce : P.cellsOf e = 2) (o0 : f0.offset = 0) (o1 : f1.offset = 1) (c0 : P.cellsOf f0.type = 1) (c1 : P.cellsOf f1.type = 1)
    (hv : Value.okWide P W .any base t v) (h : DataW.Trod enc P W 0 (fun _ => true) true t v d p) :
    ∃ zs : List (Int × Int), RdP W v zs ∧ ∀ z ∈ zs, (Lit.int .i64 z.1).wf = true ∧ (Lit.int .i64 z.2).wf = true := by
  obtain ⟨a1, len, cap, rfl⟩ := okWide_slice ht hv
  obtain ⟨fuel, hf⟩ := h
  rcases Deep.open_slice_pairs ht he ce o0 o1 c0 c1 hf with ⟨hcs, hx⟩ | ⟨a, len', cap', m, n, V0, V1, D0, D1, P0, P1, hcs, _, hl, hm, hmm, hx, hi⟩
  · simp [Value.cells] at hcs
    obtain ⟨rfl, rfl, rfl⟩ := hcs
    exact ⟨[], ⟨by simp, rfl, none, 0, rfl, fun i hi => by simp at hi⟩, fun z h => by cases h⟩
  · simp [Value.cells] at hcs
    obtain ⟨rfl, rfl, rfl⟩ := hcs
    simp only [if_true] at hmm
    have each : ∀ i, i < len → ∃ q : Int × Int, V0 i = .int .i64 q.1 ∧ V1 i = .int .i64 q.2 ∧ (Lit.int .i64 q.1).wf = true ∧ (Lit.int .i64 q.2).wf = true := by
      intro i hlt
      obtain ⟨_, _, g0, g1⟩ := hi i (by omega)
      obtain ⟨x, e0, _, w0⟩ := DataW.trod_int i0 g0
      obtain ⟨y, e1, _, w1⟩ := DataW.trod_int i1 g1
      simp at e0 e1
      exact ⟨(x, y), e0, e1, w0, w1⟩
    obtain ⟨q, hq⟩ := Deep.choose_lt each
    obtain ⟨b, off, spot⟩ := a
    refine ⟨(List.range len).map q, ⟨by simp; unfold maxLen at hm; omega, by rw [flatP_len], some ⟨b, off, spot⟩, cap, by simp, fun j hj => ?_⟩, ?_⟩
    · simp only [List.length_map, List.length_range] at hj
      obtain ⟨h0, h1, _, _⟩ := hi (j / 2) (by omega)
      have hspot : spot = none := by simpa [Addr.add] using World.cell?_spot (hi 0 (by omega)).1
      subst hspot
      rw [add_plain] at h0 h1
      have hat := flatP_at ((List.range len).map q) (j / 2) (by simp; omega)
      simp only [List.getElem_map, List.getElem_range] at hat
      rw [← (hq (j / 2) (by omega)).1, ← (hq (j / 2) (by omega)).2.1] at hat
      refine ⟨b, off, rfl, World.block_lt_of_cell? _ _ h0, ?_⟩
      rcases Nat.mod_two_eq_zero_or_one j with hp | hp
      · have e : j / 2 * 2 = j := by omega
        rw [e] at hat h0
        rw [hat.1, ← h0]
      · have e : j / 2 * 2 + 1 = j := by omega
        rw [e] at hat h1
        rw [hat.2, ← h1]
    · intro z hz
      obtain ⟨i, hi', rfl⟩ := List.mem_map.1 hz
      exact (hq i (List.mem_range.1 hi')).2.2

def roomL (n : Nat) : Nat := if n % 6 = 5 then 0 else if n % 3 = 0 then 1 else n

theorem roomL_le (n : Nat) : roomL n ≤ n + 1 := by
  unfold roomL
  split
  · omega
  · split <;> omega

theorem room_any (n : Nat) (hn : n ≤ 9223372036854775807) (w : World) :
    Calls Tryd.prog 17 #[.int .i64 n] w fun e w' => e = .returned (.int .i64 (roomL n : Nat)) ∧ w = w' := by
  unfold roomL
  have e6 : (n : Int).tmod 6 = ((n % 6 : Nat) : Int) := by rw [tmod_pos _ _ (by omega)]; omega
  have e3 : (n : Int).tmod 3 = ((n % 3 : Nat) : Int) := by rw [tmod_pos _ _ (by omega)]; omega
  by_cases h6 : n % 6 = 5
  · rw [h6] at e6
    go_enter Tryd.func17, Tryd.ntmps17
    go_wp2
    go_ret
    exact ⟨by simp [h6], rfl⟩
  · have d6 : ((n : Int).tmod 6 == 5) = false := by rw [e6]; simp; omega
    by_cases h3 : n % 3 = 0
    · rw [h3] at e3
      go_enter Tryd.func17, Tryd.ntmps17
      go_wp2
      go_ret
      exact ⟨by simp [h6, h3], rfl⟩
    · have d3 : ((n : Int).tmod 3 == 0) = false := by rw [e3]; simp; omega
      go_enter Tryd.func17, Tryd.ntmps17
      go_wp2
      go_ret
      exact ⟨by simp [h6, h3], rfl⟩

theorem szC_any (A : Option Addr) (n c : Nat) (left : Int) (h : 0 ≤ left ∧ left ≤ 1000000) (hn : n ≤ 9223372036854775807) (w : World) :
    Calls Tryd.prog 5 #[.slice A n c, .int .i64 left] w fun e w' => e = .returned (.int .i64 (if (n : Int) ≤ left then left - n else -1)) ∧ w = w' := by
  by_cases h1 : (n : Int) ≤ left
  · rw [if_pos h1]
    go_enter Tryd.func5, Tryd.ntmps5
    go_wp2
    go_ret
    exact ⟨rfl, rfl⟩
  · rw [if_neg h1]
    go_enter Tryd.func5, Tryd.ntmps5
    go_wp2
    go_ret
    exact ⟨rfl, rfl⟩

theorem toStep_any (x y : Int) (w : World) :
    Calls Tryd.prog 18 #[.agg #[.int .i64 x, .int .i64 y]] w fun e w' => e = .returned (.agg #[.int .i64 x, .int .i64 y]) ∧ Below w.heap.size w w' := by
  go_enter Tryd.func18, Tryd.ntmps18
  go_wp2
  go_returns
  exact ⟨rfl, by go_grown⟩

def fillP : Int × Int := (-7000000000000000101, -7000000000000000101)

theorem fillStep_any (w : World) :
    Calls Tryd.prog 19 #[] w fun e w' => e = .returned (.agg #[.int .i64 fillP.1, .int .i64 fillP.2]) ∧ Below w.heap.size w w' := by
  unfold fillP
  go_enter Tryd.func19, Tryd.ntmps19
  go_wp2
  go_returns
  exact ⟨rfl, by go_grown⟩

theorem eqStep_same (x y : Int) (w : World) :
    Calls Tryd.prog 27 #[.agg #[.int .i64 x, .int .i64 y], .agg #[.int .i64 x, .int .i64 y]] w fun e w' => e = .returned (.bool true) ∧ Below w.heap.size w w' := by
  go_enter Tryd.func27, Tryd.ntmps27
  go_wp2
  go_ret
  exact ⟨rfl, by go_grown⟩

theorem info_step : (Tryd.prog.info? 36).map (fun i => (i.zero, i.size, i.bytes)) = some (some (.agg #[.int .i64 0, .int .i64 0]), 2, 16) := by kernel_rfl

theorem eqC_same (v1 v2 : Value) (zs : List (Int × Int)) (w : World) (h1 : RdP w v1 zs) (h2 : RdP w v2 zs) :
    Calls Tryd.prog 12 #[v1, v2] w fun e w' => e = .returned (.bool true) ∧ Below w.heap.size w w' := by
  obtain ⟨A, c, rfl, hl, r1⟩ := RdP_slice h1
  obtain ⟨A2, c2, rfl, _, r2⟩ := RdP_slice h2
  clear h1 h2
  have R1 := Lib.hid r1; clear r1
  have R2 := Lib.hid r2; clear r2
  go_enter Tryd.func12, Tryd.ntmps12
  go_wp2_with fail
  go_loopw [5] (fun i wr => ∃ k : Nat, k ≤ zs.length ∧ i = .int .i64 k ∧ Below w.heap.size w wr) (fun i _ => zs.length - (intOf i).toNat)
  case atStart => exact ⟨0, by omega, rfl, Below.refl _ _⟩
  case round =>
    obtain ⟨k, hk, rfl, hb⟩ := hrel
    by_cases hlt : k < zs.length
    · obtain ⟨b, off, rfl, hbl, hc0, hc1⟩ := R1.out k hlt
      obtain ⟨b2, off2, rfl, hbl2, hd0, hd1⟩ := R2.out k hlt
      rw [← kept_cell hb b _ hbl] at hc0 hc1
      rw [← kept_cell hb b2 _ hbl2] at hd0 hd1
      generalize zs[k].1 = x at *
      generalize zs[k].2 = y at *
      have hsz := hb.size
      have hbl' := Nat.lt_of_lt_of_le hbl hsz
      have hbl2' := Nat.lt_of_lt_of_le hbl2 hsz
      go_wp2_with fail
      go_region_held3 (fun w' => w'.cell? ⟨b, off + k * 2, none⟩ = some (.int .i64 x) ∧ w'.cell? ⟨b, off + k * 2 + 1, none⟩ = some (.int .i64 y) ∧ w'.cell? ⟨b2, off2 + k * 2, none⟩ = some (.int .i64 x) ∧ w'.cell? ⟨b2, off2 + k * 2 + 1, none⟩ = some (.int .i64 y)) (go_keep)
        ((go_at_call 27; refine (eqStep_same _ _ _).mono ?_; rintro e w1 ⟨rfl, hb1⟩; replace hb1 := kept_trans (a := wr) (by go_grown) hb1; have hcl := kept_cell hb1))
      go_wp2
      go_roundw
      case rel => exact ⟨k + 1, by omega, by go_num, kept_trans hb (by assumption)⟩
      case measure => simp [intOf]; omega
    · have : k = zs.length := by omega
      subst this
      go_wp2
      go_ret
      exact ⟨rfl, hb⟩

theorem flatP_set (l : List (Int × Int)) (j : Nat) (x y : Int) : ((flatP l).set (j * 2) (.int .i64 x)).set (j * 2 + 1) (.int .i64 y) = flatP (l.set j (x, y)) := by
  induction l generalizing j with
  | nil => simp [flatP]
  | cons z l ih =>
    cases j with
    | zero => simp [flatP, encP]
    | succ j =>
      have := ih j
      simp only [flatP, encP, List.flatMap_cons, List.cons_append, List.nil_append, Nat.succ_mul, List.set_cons_succ] at this ⊢
      rw [this]

theorem fill_step {α : Type} (T : List α) (z : α) (j : Nat) (h : j < T.length) : (T.take j ++ List.replicate (T.length - j) z).set j T[j] = T.take (j + 1) ++ List.replicate (T.length - (j + 1)) z := by
  obtain ⟨m, hm⟩ : ∃ m, T.length - j = m + 1 := ⟨T.length - j - 1, by omega⟩
  rw [hm, show T.length - (j + 1) = m by omega, List.replicate_succ, List.set_append, if_neg (by simp; omega), List.length_take, Nat.min_eq_left (by omega), Nat.sub_self, List.set_cons_zero, ← List.take_append_getElem h, List.append_assoc]
  rfl

/-- What a copy's block holds: the list, and behind it the filler. -/
def copyT (zs : List (Int × Int)) : List (Int × Int) := zs ++ List.replicate (roomL zs.length) fillP

theorem copyT_len (zs : List (Int × Int)) : (copyT zs).length = zs.length + roomL zs.length := by simp [copyT]

/-- A copy of a list of steps that the law made: the whole block is a row of the call's own. -/
def CopyC (w : World) (lo hi : Nat) (v : Value) (zs : List (Int × Int)) : Prop :=
  zs.length ≤ 1000000 ∧ ∃ g, v = .slice (some ⟨g, 0, none⟩) zs.length (copyT zs).length ∧ RowF 36 2 w lo hi (.slice (some ⟨g, 0, none⟩) (copyT zs).length (copyT zs).length) (copyT zs).length (flatP (copyT zs))

theorem CopyC_kept {W w1 : World} {lo hi : Nat} {v : Value} {zs : List (Int × Int)} (h : CopyC W lo hi v zs) (hb : Below W.heap.size W w1) : CopyC w1 lo hi v zs := by
  obtain ⟨hl, g, e, hr⟩ := h
  exact ⟨hl, g, e, RowF_kept hr hb⟩

theorem CopyC_row {w : World} {lo hi : Nat} {v : Value} {zs : List (Int × Int)} (h : CopyC w lo hi v zs) : RowF 36 2 w lo hi v zs.length (flatP zs) := by
  obtain ⟨hl, g, rfl, hr⟩ := h
  have := RowF_short hr (n := zs.length) (by rw [copyT_len]; omega)
  have e : (flatP (copyT zs)).take (zs.length * 2) = flatP zs := by
    rw [show flatP (copyT zs) = flatP zs ++ flatP (List.replicate (roomL zs.length) fillP) by simp [flatP, copyT]]
    rw [← flatP_len, List.take_left]
  rwa [e] at this

theorem CopyC_rd {w : World} {lo hi : Nat} {v : Value} {zs : List (Int × Int)} (h : CopyC w lo hi v zs) : RdP w v zs := RowF_rd (CopyC_row h)

theorem make_steps (n : Nat) (h : n ≤ 4000000) (w : World) :
    (Instr.makeSlice 25 (.int .i64 (n : Int)) (.int .i64 (n : Int))).run Tryd.prog w = .ok (.slice (some ⟨w.heap.size, 0, none⟩) n n) (w.alloc (.cells (madeCells #[.int .i64 0, .int .i64 0] (n * 2)) 36)) := by
  obtain ⟨i, hi, hz, hs, hb⟩ := info_parts info_step
  have hb' : (i.bytes : Int) * (n : Int) ≤ 281474976710656 := by rw [hb]; omega
  have hr := run_make (P := Tryd.prog) w 25 36 i (.agg #[.int .i64 0, .int .i64 0]) Tryd.underlying25 hi hz .i64 .i64 n n (by omega) (Int.le_refl _) hb' (by omega)
  simp only [Int.toNat_natCast, hs] at hr
  exact hr

theorem made_flat (n : Nat) : (madeCells #[.int .i64 0, .int .i64 0] (n * 2)).toList = flatP (List.replicate n (0, 0)) := by
  apply List.ext_getElem?
  intro j
  by_cases hj : j < n * 2
  · have h := flatP_at (List.replicate n ((0 : Int), (0 : Int))) (j / 2) (by simp; omega)
    simp only [List.getElem_replicate] at h
    rcases Nat.mod_two_eq_zero_or_one j with hp | hp
    · rw [show j / 2 * 2 = j by omega] at h
      rw [h.1]
      simp [madeCells, hj, hp]
    · rw [show j / 2 * 2 + 1 = j by omega] at h
      rw [h.2]
      simp [madeCells, hj, hp]
  · rw [List.getElem?_eq_none (by rw [Array.length_toList, size_madeCells]; omega), List.getElem?_eq_none (by rw [flatP_len]; simp; omega)]

theorem copyT_at (zs : List (Int × Int)) (j : Nat) : (h : j < zs.length) → (copyT zs)[j]'(by rw [copyT_len]; omega) = zs[j] := by
  intro h
  simp [copyT, h]

theorem copyT_fill (zs : List (Int × Int)) (j : Nat) (h : zs.length ≤ j) : (h2 : j < (copyT zs).length) → (copyT zs)[j] = fillP := by
  intro h2
  simp [copyT, h]

theorem toC_row (v : Value) (zs : List (Int × Int)) (bare : Bool) (w : World) (h : RdP w v zs) (hn : zs.length ≤ 1000000) (hbare : bare = false ∨ zs ≠ []) :
    Calls Tryd.prog 7 #[v, .bool bare] w fun e w' => ∃ v', e = .returned v' ∧ CopyC w' w.heap.size w'.heap.size v' zs ∧ Below w.heap.size w w' := by
  obtain ⟨A, c, rfl, hl, r1⟩ := RdP_slice h
  clear h
  have R := Lib.hid r1; clear r1
  have hN := copyT_len zs
  have hr := roomL_le zs.length
  have hmk : ∀ w : World, (Instr.makeSlice 25 (.int .i64 ((zs.length : Int) + (roomL zs.length : Int))) (.int .i64 ((zs.length : Int) + (roomL zs.length : Int)))).run Tryd.prog w = .ok (.slice (some ⟨w.heap.size, 0, none⟩) (copyT zs).length (copyT zs).length) (w.alloc (.cells (madeCells #[.int .i64 0, .int .i64 0] ((copyT zs).length * 2)) 36)) := by
    intro w
    have := make_steps (copyT zs).length (by omega) w
    rwa [show (((copyT zs).length : Nat) : Int) = (zs.length : Int) + (roomL zs.length : Int) by omega] at this
  have hcap : (copyT zs).length ≤ maxLen := by unfold maxLen; omega
  have hrow0 : ∀ wa : World, w.heap.size ≤ wa.heap.size → (wa.alloc (.cells (madeCells #[.int .i64 0, .int .i64 0] ((copyT zs).length * 2)) 36)).ownsRow w.heap.size 36 2 (.slice (some ⟨wa.heap.size, 0, none⟩) (copyT zs).length (copyT zs).length) (copyT zs).length (flatP ((copyT zs).take 0 ++ List.replicate ((copyT zs).length - 0) (0, 0))) := by
    intro wa hwa
    have := World.ownsRow_lit wa (e := 36) (size := 2) (madeCells #[.int .i64 0, .int .i64 0] ((copyT zs).length * 2)) (copyT zs).length hwa hcap (size_madeCells _ _)
    rw [made_flat] at this
    simpa using this
  have Hrow := Lib.hid hrow0; clear hrow0
  have hb0 : bare = true → ((zs.length : Int) == 0) = false := by
    intro hb
    have : zs.length ≠ 0 := fun h => by
      rcases hbare with h1 | h1
      · rw [hb] at h1; cases h1
      · exact h1 (List.eq_nil_of_length_eq_zero h)
    simpa using this
  clear hbare
  generalize hNN : (copyT zs).length = N at *
  have HNN := Lib.hid hNN; clear hNN
  have hNb : N ≤ 2000002 ∧ zs.length ≤ N := by omega
  have HN := Lib.hid hN; clear hN
  cases bare
  all_goals
    have hbn := hb0
    simp only [forall_const, reduceCtorEq, false_implies, Bool.false_eq_true] at hbn
    clear hb0
    go_enter Tryd.func7, Tryd.ntmps7
    go_wp2_with (go_at_call 17; refine (room_any _ (by omega) _).mono ?_; rintro e w1 ⟨rfl, rfl⟩)
    go_loopw [6] (fun i wr => ∃ j : Nat, j ≤ zs.length ∧ i = .int .i64 j ∧ wr.ownsRow w.heap.size 36 2 (.slice (some ⟨w.heap.size, 0, none⟩) N N) N (flatP ((copyT zs).take j ++ List.replicate (N - j) (0, 0))) ∧ Below w.heap.size w wr) (fun i _ => zs.length - (intOf i).toNat)
    case atStart => exact ⟨0, by omega, rfl, Hrow.out w (Nat.le_refl _), by go_grown⟩
    case round =>
      obtain ⟨j, hj, rfl, hown, hb⟩ := hrel
      have hsz := hb.size
      by_cases hlt : j < zs.length
      · obtain ⟨b, off, rfl, hbl, hc0, hc1⟩ := R.out j hlt
        rw [← kept_cell hb b _ hbl] at hc0 hc1
        go_wp2_with fail
        refine (toStep_any _ _ _).mono ?_
        rintro e w1 ⟨rfl, hb1⟩
        have hown1 := own_kept hown hb1
        have hlen : (flatP ((copyT zs).take j ++ List.replicate (N - j) (0, 0))).length = N * 2 := hown.1
        obtain ⟨u0, hu0⟩ : ∃ u, w1.cell? ⟨w.heap.size, j * 2, none⟩ = some u := by
          rw [hown1.cellAt _ (by omega)]
          exact ⟨_, List.getElem?_eq_getElem (by omega)⟩
        obtain ⟨u1, hu1⟩ : ∃ u, w1.cell? ⟨w.heap.size, j * 2 + 1, none⟩ = some u := by
          rw [hown1.cellAt _ (by omega)]
          exact ⟨_, List.getElem?_eq_getElem (by omega)⟩
        have hz0 := hown1.frozenAt (j * 2)
        have hz1 := hown1.frozenAt (j * 2 + 1)
        have hs0 := hown1.stored (j * 2) (.int .i64 zs[j].1)
        have hs1 := hs0.1.stored (j * 2 + 1) (.int .i64 zs[j].2)
        rw [flatP_set] at hs1
        have hstep := fill_step (copyT zs) (0, 0) j (by rw [HNN.out]; omega)
        rw [copyT_at zs j hlt, HNN.out] at hstep
        rw [show ((zs[j].1, zs[j].2) : Int × Int) = zs[j] from rfl, hstep] at hs1
        have Hs := Lib.hid hs1.1
        have Hg := Lib.hid (grown_step hs0.2 hs1.2)
        clear hs0 hs1 hstep hown hown1 hlen
        go_wp2
        go_roundw
        case rel => exact ⟨j + 1, by omega, by go_num, Hs.out, grown_below (kept_trans hb hb1) Hg.out (fun g hg => by simp at hg; omega)⟩
        case measure => simp [intOf]; omega
      · have : j = zs.length := by omega
        subst this
        go_wp2_with fail
        go_loopw [7] (fun i wr => ∃ j : Nat, zs.length ≤ j ∧ j ≤ N ∧ i = .int .i64 j ∧ wr.ownsRow w.heap.size 36 2 (.slice (some ⟨w.heap.size, 0, none⟩) N N) N (flatP ((copyT zs).take j ++ List.replicate (N - j) (0, 0))) ∧ Below w.heap.size w wr) (fun i _ => N - (intOf i).toNat)
        case atStart => exact ⟨zs.length, by omega, by omega, rfl, hown, hb⟩
        case round =>
          obtain ⟨j, hj0, hj, rfl, hown, hb⟩ := hrel
          have hsz := hb.size
          by_cases hlt : j < N
          · go_wp2_with fail
            refine (fillStep_any _).mono ?_
            rintro e w1 ⟨rfl, hb1⟩
            have hown1 := own_kept hown hb1
            have hlen : (flatP ((copyT zs).take j ++ List.replicate (N - j) (0, 0))).length = N * 2 := hown.1
            obtain ⟨u0, hu0⟩ : ∃ u, w1.cell? ⟨w.heap.size, j * 2, none⟩ = some u := by
              rw [hown1.cellAt _ (by omega)]
              exact ⟨_, List.getElem?_eq_getElem (by omega)⟩
            obtain ⟨u1, hu1⟩ : ∃ u, w1.cell? ⟨w.heap.size, j * 2 + 1, none⟩ = some u := by
              rw [hown1.cellAt _ (by omega)]
              exact ⟨_, List.getElem?_eq_getElem (by omega)⟩
            have hz0 := hown1.frozenAt (j * 2)
            have hz1 := hown1.frozenAt (j * 2 + 1)
            have hs0 := hown1.stored (j * 2) (.int .i64 fillP.1)
            have hs1 := hs0.1.stored (j * 2 + 1) (.int .i64 fillP.2)
            rw [flatP_set] at hs1
            have hstep := fill_step (copyT zs) (0, 0) j (by rw [HNN.out]; omega)
            rw [copyT_fill zs j hj0 (by rw [HNN.out]; omega), HNN.out] at hstep
            rw [show ((fillP.1, fillP.2) : Int × Int) = fillP from rfl, hstep] at hs1
            have Hs := Lib.hid hs1.1
            have Hg := Lib.hid (grown_step hs0.2 hs1.2)
            clear hs0 hs1 hstep hown hown1 hlen
            go_wp2
            go_roundw
            case rel => exact ⟨j + 1, by omega, by omega, by go_num, Hs.out, grown_below (kept_trans hb hb1) Hg.out (fun g hg => by simp at hg; omega)⟩
            case measure => simp [intOf]; omega
          · have : j = N := by omega
            subst this
            have Hown := Lib.hid hown; clear hown
            go_wp2
            go_ret
            have hT : (copyT zs).take j ++ List.replicate (j - j) (0, 0) = copyT zs := by rw [List.take_of_length_le (by rw [HNN.out]; exact Nat.le_refl _)]; simp
            refine ⟨_, rfl, ⟨hn, w.heap.size, by rw [HNN.out]; rfl, ?_⟩, hb⟩
            rw [HNN.out, ← hT]
            exact ⟨Hown.out, fun g hg => by simp [Value.ownBlock] at hg; subst hg; exact ⟨Nat.le_refl _, (Hown.out.lt _ rfl).2⟩⟩

theorem toC_false (v : Value) (zs : List (Int × Int)) (w : World) (h : RdP w v zs) (hn : zs.length ≤ 1000000) :
    Calls Tryd.prog 7 #[v, .bool false] w fun e w' => ∃ v', e = .returned v' ∧ CopyC w' w.heap.size w'.heap.size v' zs ∧ Below w.heap.size w w' := toC_row v zs false w h hn (Or.inl rfl)

theorem toC_true (v : Value) (zs : List (Int × Int)) (w : World) (h : RdP w v zs) (hn : zs.length ≤ 1000000) :
    Calls Tryd.prog 7 #[v, .bool true] w fun e w' => ∃ v', e = .returned v' ∧ RdP w' v' zs ∧ Below w.heap.size w w' := by
  by_cases hz : zs = []
  · subst hz
    obtain ⟨A, c, rfl, hl, _⟩ := RdP_slice h
    go_enter Tryd.func7, Tryd.ntmps7
    go_wp2
    go_ret
    exact ⟨_, rfl, RowF_rd (RowF_nil 36 2 _ 0 0), Below.refl _ _⟩
  · refine (toC_row v zs true w h hn (Or.inr hz)).mono ?_
    rintro e w' ⟨v', rfl, hc, hb⟩
    exact ⟨v', rfl, CopyC_rd hc, hb⟩

theorem intactC_same (v1 v2 : Value) (zs : List (Int × Int)) (lo1 hi1 lo2 hi2 : Nat) (w : World) (h1 : CopyC w lo1 hi1 v1 zs) (h2 : CopyC w lo2 hi2 v2 zs) :
    Calls Tryd.prog 9 #[v1, v2] w fun e w' => e = .returned (.bool true) ∧ Below w.heap.size w w' := by
  obtain ⟨hn, g1, rfl, r1⟩ := h1
  obtain ⟨_, g2, rfl, r2⟩ := h2
  have q1 : RdP w _ (copyT zs) := RowF_rd r1
  have q2 : RdP w _ (copyT zs) := RowF_rd r2
  clear r1 r2
  have hN := copyT_len zs
  have hr := roomL_le zs.length
  generalize hT : copyT zs = T at *
  clear hT
  have Q1 := Lib.hid q1; clear q1
  have Q2 := Lib.hid q2; clear q2
  generalize hTl : T.length = N at *
  have hN' : (zs.length : Int) + (roomL zs.length : Int) = (N : Int) := by omega
  have hcap : zs.length ≤ N := by omega
  clear hN
  go_enter Tryd.func9, Tryd.ntmps9
  go_wp2_with (go_at_call 17; refine (room_any _ (by omega) _).mono ?_; rintro e w1 ⟨rfl, rfl⟩)
  go_region_held3 (fun _ => True) (trivial)
    ((go_at_call 12; refine (eqC_same _ _ T _ (by exact Q1.out) (by exact Q2.out)).mono ?_; rintro e w1 ⟨rfl, hb1⟩; replace hb1 := kept_trans (a := w) (by go_grown) hb1))
  go_wp2
  go_ret
  exact ⟨rfl, by assumption⟩

theorem szC_fit (A : Option Addr) (n c : Nat) (left : Int) (h : (n : Int) ≤ left ∧ left ≤ 1000000) (w : World) :
    Calls Tryd.prog 5 #[.slice A n c, .int .i64 left] w fun e w' => e = .returned (.int .i64 (left - n)) ∧ w = w' := by
  have := szC_any A n c left (by omega) (by omega) w
  rwa [if_pos h.1] at this

theorem szC_over (A : Option Addr) (n c : Nat) (left : Int) (h : 0 ≤ left ∧ left ≤ 1000000) (hn : n ≤ 9223372036854775807) (hlt : left < n) (w : World) :
    Calls Tryd.prog 5 #[.slice A n c, .int .i64 left] w fun e w' => e = .returned (.int .i64 (-1)) ∧ w = w' := by
  have := szC_any A n c left h hn w
  rwa [if_neg (by omega)] at this

/-- The step i of a list is in order. -/
def OkAt (zs : List (Int × Int)) (i : Nat) (h : i < zs.length) : Prop :=
  (1 ≤ zs[i].1 ∧ zs[i].1 ≤ 1000 ∧ 0 ≤ zs[i].2 ∧ zs[i].2 ≤ 50000) ∧ (0 < i → zs[i - 1].1 < zs[i].1 ∧ zs[i].2 ≤ zs[i - 1].2)

def OkAll (zs : List (Int × Int)) (n : Nat) : Prop := ∀ i, (h : i < zs.length) → i < n → OkAt zs i h

theorem OkAll_step {zs : List (Int × Int)} {n : Nat} (h : OkAll zs n) (hn : n < zs.length) (h1 : OkAt zs n hn) : OkAll zs (n + 1) := by
  intro i hi hlt
  rcases Nat.lt_or_ge i n with h2 | h2
  · exact h i hi h2
  · obtain rfl : i = n := by omega
    exact h1

/-- The list is a load chart. -/
def ChartP (zs : List (Int × Int)) : Prop := OkAll zs zs.length ∧ 1 ≤ zs.length ∧ zs.length ≤ 20

open Classical in
/-- .. as a bool. -/
noncomputable def chartB (zs : List (Int × Int)) : Bool := decide (ChartP zs)

theorem chartB_true {zs : List (Int × Int)} (h : ChartP zs) : chartB zs = true := by simp [chartB, h]

theorem chartB_false {zs : List (Int × Int)} (h : ¬ ChartP zs) : chartB zs = false := by simp [chartB, h]

theorem specChart_any (v : Value) (zs : List (Int × Int)) (w : World) (h : RdP w v zs) :
    Calls Tryd.prog 15 #[v] w fun e w' => e = .returned (.bool (chartB zs)) ∧ Below w.heap.size w w' := by
  obtain ⟨A, c, rfl, hl, r1⟩ := RdP_slice h
  clear h
  have R := Lib.hid r1; clear r1
  go_enter Tryd.func15, Tryd.ntmps15
  go_wp2_with fail
  go_loopw [3] (fun i wr => ∃ k : Nat, k ≤ zs.length ∧ i = .int .i64 k ∧ OkAll zs k ∧ Below w.heap.size w wr) (fun i _ => zs.length - (intOf i).toNat)
  case atStart => exact ⟨0, by omega, rfl, fun i _ h => by omega, Below.refl _ _⟩
  case round =>
    obtain ⟨k, hk, rfl, hall, hb⟩ := hrel
    by_cases hlt : k < zs.length
    · obtain ⟨b, off, rfl, hbl, hc0, hc1⟩ := R.out k hlt
      rw [← kept_cell hb b _ hbl] at hc0 hc1
      have hbad : ¬ OkAt zs k hlt → chartB zs = false := fun hn => chartB_false fun hc => hn (hc.1 k hlt hlt)
      have hgood : OkAt zs k hlt → OkAll zs (k + 1) := OkAll_step hall hlt
      unfold OkAt at hbad hgood
      generalize hx : zs[k].1 = x at *
      generalize hy : zs[k].2 = y at *
      have Hall := Lib.hid hall; clear hall
      have Hbad := Lib.hid hbad; clear hbad
      have Hgood := Lib.hid hgood; clear hgood
      cases i1 : inB x 1 1000
      · go_wp2_with (go_at_call 28; refine (in_any _ _ _ _).mono ?_; rintro e w1 ⟨rfl, rfl⟩)
        go_ret
        exact ⟨by rw [Hbad.out (fun h => inB_false i1 ⟨h.1.1, h.1.2.1⟩)]; rfl, hb⟩
      · have j1 := inB_true i1
        cases i2 : inB y 0 50000
        · go_wp2_with (go_at_call 28; refine (in_any _ _ _ _).mono ?_; rintro e w1 ⟨rfl, rfl⟩)
          go_ret
          exact ⟨by rw [Hbad.out (fun h => inB_false i2 ⟨h.1.2.2.1, h.1.2.2.2⟩)]; rfl, hb⟩
        · have j2 := inB_true i2
          by_cases h0 : k = 0
          · subst h0
            simp only [Nat.zero_mul, Nat.add_zero] at hc0 hc1
            go_wp2_with (go_at_call 28; refine (in_any _ _ _ _).mono ?_; rintro e w1 ⟨rfl, rfl⟩)
            go_quiet (fail)
            go_wp2
            go_roundw
            case rel => exact ⟨1, by omega, by go_num, Hgood.out ⟨by omega, fun h => by omega⟩, kept_drewN hb _⟩
            case measure => simp [intOf]; omega
          · obtain ⟨m, hm⟩ : ∃ m, k - 1 = m := ⟨k - 1, rfl⟩
            have hkm : (k : Int) - 1 = (m : Int) := by omega
            have hkd : decide (0 < k) = true := by simp; omega
            obtain ⟨b', off', e', _, hd0, hd1⟩ := R.out m (by omega)
            simp only [Option.some.injEq, Addr.mk.injEq, and_true] at e'
            obtain ⟨rfl, rfl⟩ := e'
            rw [← kept_cell hb b _ hbl] at hd0 hd1
            simp only [hm] at Hbad Hgood
            generalize zs[m].1 = x' at *
            generalize zs[m].2 = y' at *
            by_cases h1 : x ≤ x'
            · go_wp2_with (go_at_call 28; refine (in_any _ _ _ _).mono ?_; rintro e w1 ⟨rfl, rfl⟩)
              go_quiet (fail)
              go_wp2
              go_ret
              exact ⟨by rw [Hbad.out (fun h => by omega)]; rfl, kept_drewN hb _⟩
            · have hd1 : decide (x ≤ x') = false := by simp; omega
              by_cases h2 : y' < y
              · go_wp2_with (go_at_call 28; refine (in_any _ _ _ _).mono ?_; rintro e w1 ⟨rfl, rfl⟩)
                go_quiet (fail)
                go_wp2
                go_ret
                exact ⟨by rw [Hbad.out (fun h => by omega)]; rfl, kept_drewN hb _⟩
              · go_wp2_with (go_at_call 28; refine (in_any _ _ _ _).mono ?_; rintro e w1 ⟨rfl, rfl⟩)
                go_quiet (fail)
                go_wp2
                go_roundw
                case rel => exact ⟨k + 1, by omega, by go_num, Hgood.out ⟨by omega, fun h => by omega⟩, kept_drewN hb _⟩
                case measure => simp [intOf]; omega
    · have : k = zs.length := by omega
      subst this
      have E : inB (zs.length : Int) 1 20 = chartB zs := by
        by_cases hc : 1 ≤ zs.length ∧ zs.length ≤ 20
        · rw [chartB_true ⟨hall, hc⟩]
          simp [inB]
          omega
        · rw [chartB_false fun h => hc h.2]
          simp only [inB]
          simp
          omega
      go_wp2_with (go_at_call 28; refine (in_any _ _ _ _).mono ?_; rintro e w1 ⟨rfl, rfl⟩)
      go_ret
      exact ⟨rfl, hb⟩

/-- The step before the step k; ahead of the first one, what no step can fail. -/
def prevP (zs : List (Int × Int)) : Nat → Int × Int
  | 0 => (0, 50000)
  | m + 1 => zs.getD m (0, 50000)

theorem prevP_succ (zs : List (Int × Int)) (k : Nat) (h : k < zs.length) : prevP zs (k + 1) = zs[k] := by simp [prevP, h]

theorem OkAt_prev {zs : List (Int × Int)} {k : Nat} (hall : OkAll zs k) (h : k < zs.length) :
    OkAt zs k h ↔ (prevP zs k).1 < zs[k].1 ∧ zs[k].1 ≤ 1000 ∧ 0 ≤ zs[k].2 ∧ zs[k].2 ≤ (prevP zs k).2 := by
  cases k with
  | zero => simp only [OkAt, prevP]; omega
  | succ m =>
    have h1 := hall m (by omega) (by omega)
    rw [prevP_succ zs m (by omega)]
    simp only [OkAt, Nat.add_sub_cancel] at h1 ⊢
    omega

theorem implChart_any (v : Value) (zs : List (Int × Int)) (w : World) (h : RdP w v zs) :
    Calls Tryd.prog 20 #[v] w fun e w' => e = .returned (.bool (chartB zs)) ∧ Below w.heap.size w w' := by
  obtain ⟨A, c, rfl, hl, r1⟩ := RdP_slice h
  clear h
  have R := Lib.hid r1; clear r1
  by_cases g1 : zs.length < 1
  · have hc : chartB zs = false := chartB_false fun h => by have := h.2; omega
    rw [hc]
    go_enter Tryd.func20, Tryd.ntmps20
    go_wp2
    go_ret
    exact ⟨rfl, Below.refl _ _⟩
  by_cases g2 : 20 < zs.length
  · have hc : chartB zs = false := chartB_false fun h => by have := h.2; omega
    rw [hc]
    go_enter Tryd.func20, Tryd.ntmps20
    go_wp2
    go_ret
    exact ⟨rfl, Below.refl _ _⟩
  go_enter Tryd.func20, Tryd.ntmps20
  go_wp2_with fail
  go_loopw [17] (fun i wr => ∃ k : Nat, k ≤ zs.length ∧ i = .int .i64 k ∧ OkAll zs k ∧ Below w.heap.size w wr ∧ w.heap.size < wr.heap.size ∧ wr.cell? ⟨w.heap.size, 0, none⟩ = some (.int .i64 (prevP zs k).1) ∧ wr.cell? ⟨w.heap.size, 1, none⟩ = some (.int .i64 (prevP zs k).2) ∧ wr.frozen? ⟨w.heap.size, 0, none⟩ = false ∧ wr.frozen? ⟨w.heap.size, 1, none⟩ = false) (fun i _ => zs.length - (intOf i).toNat)
  case atStart => exact ⟨0, by omega, rfl, fun i _ h => by omega, by go_grown, by simp, by simp [prevP], by simp [prevP], by simp, by simp⟩
  case round =>
    obtain ⟨k, hk, rfl, hall, hb, hlw, hp0, hp1, hz0, hz1⟩ := hrel
    by_cases hlt : k < zs.length
    · obtain ⟨b, off, rfl, hbl, hc0, hc1⟩ := R.out k hlt
      rw [← kept_cell hb b _ hbl] at hc0 hc1
      have hiff := OkAt_prev hall hlt
      have hbad : ¬ OkAt zs k hlt → chartB zs = false := fun hn => chartB_false fun hc => hn (hc.1 k hlt hlt)
      have hgood : OkAt zs k hlt → OkAll zs (k + 1) := OkAll_step hall hlt
      have hnext := prevP_succ zs k hlt
      rw [hiff] at hbad hgood
      clear hiff
      rw [show zs[k] = (zs[k].1, zs[k].2) from rfl] at hnext
      generalize zs[k].1 = x at *
      generalize zs[k].2 = y at *
      generalize (prevP zs k).1 = x' at *
      generalize (prevP zs k).2 = y' at *
      have Hall := Lib.hid hall; clear hall
      have Hbad := Lib.hid hbad; clear hbad
      have Hgood := Lib.hid hgood; clear hgood
      have Hnext := Lib.hid hnext; clear hnext
      by_cases h1 : x ≤ x'
      · go_wp2
        go_ret
        exact ⟨by rw [Hbad.out (fun h => by omega)]; rfl, by go_grown⟩
      · have hd1 : decide (x ≤ x') = false := by simp; omega
        by_cases h2 : 1000 < x
        · go_wp2
          go_ret
          exact ⟨by rw [Hbad.out (fun h => by omega)]; rfl, by go_grown⟩
        · by_cases h3 : y < 0
          · go_wp2
            go_ret
            exact ⟨by rw [Hbad.out (fun h => by omega)]; rfl, by go_grown⟩
          · by_cases h4 : y' < y
            · go_wp2
              go_ret
              exact ⟨by rw [Hbad.out (fun h => by omega)]; rfl, by go_grown⟩
            · go_wp2
              go_roundw
              case rel => exact ⟨k + 1, by omega, by go_num, Hgood.out (by omega), by go_grown, by simp; omega, by rw [Hnext.out]; simp [World.cell?_alloc_past, World.cell?_setCell_same', World.cell?_setCell_other, hlw, hp0, hp1], by rw [Hnext.out]; simp [World.cell?_alloc_past, World.cell?_setCell_same', World.cell?_setCell_other, hlw, hp0, hp1], by simp [World.frozen?_alloc_past, hlw, hz0], by simp [World.frozen?_alloc_past, hlw, hz1]⟩
              case measure => simp [intOf]; omega
    · have : k = zs.length := by omega
      subst this
      go_wp2
      go_ret
      exact ⟨by rw [chartB_true ⟨hall, by omega, by omega⟩]; rfl, hb⟩

/-- The step k. -/
def atP (zs : List (Int × Int)) (k : Nat) : Int × Int := zs.getD k (0, 0)

theorem atP_is (zs : List (Int × Int)) (k : Nat) (h : k < zs.length) : atP zs k = zs[k] := by simp [atP, h]

theorem rd_at {w : World} {A : Option Addr} {n c : Nat} {zs : List (Int × Int)} (h : RdP w (.slice A n c) zs) (k : Nat) (hk : k < zs.length) :
    n = zs.length ∧ ∃ b off, A = some ⟨b, off, none⟩ ∧ b < w.heap.size ∧ w.cell? ⟨b, off + k * 2, none⟩ = some (.int .i64 (atP zs k).1) ∧ w.cell? ⟨b, off + k * 2 + 1, none⟩ = some (.int .i64 (atP zs k).2) := by
  obtain ⟨A', c', e, hl, r1⟩ := RdP_slice h
  obtain ⟨b, off, rfl, hb, h0, h1⟩ := r1 k hk
  simp only [Value.slice.injEq] at e
  refine ⟨e.2.1, b, off, e.1, hb, ?_, ?_⟩
  · rw [atP_is zs k hk]; exact h0
  · rw [atP_is zs k hk]; exact h1

theorem map_step {α β : Type} (F : α → β) (zs : List α) (z : β) (j : Nat) (h : j < zs.length) : ((zs.map F).take j ++ List.replicate (zs.length - j) z).set j (F zs[j]) = (zs.map F).take (j + 1) ++ List.replicate (zs.length - (j + 1)) z := by
  have := fill_step (zs.map F) z j (by simpa using h)
  simp only [List.length_map, List.getElem_map] at this
  exact this

/-- The digits of a number, none of 0. -/
def dd (u : Nat) : List UInt8 := if u = 0 then [] else Lib.decDigits u

theorem dd_step (u : Nat) (h : u ≠ 0) : dd u = dd (u / 10) ++ [UInt8.ofNat (48 + u % 10)] := by
  unfold dd
  rw [if_neg h, Lib.decDigits]
  by_cases h1 : u < 10
  · rw [dif_pos h1, if_pos (by omega), Nat.mod_eq_of_lt h1]
    rfl
  · rw [dif_neg h1, if_neg (by omega)]

/-- A byte's cell. -/
def byteV (b : UInt8) : Value := .int .u8 (b.toNat : Int)

theorem info_byte : (Tryd.prog.info? 5).map (fun i => (i.zero, i.size, i.bytes)) = some (some (.int .u8 0), 1, 1) := by kernel_rfl

theorem dd_len (m : Nat) (h : m ≤ 9223372036854775808) : (dd m).length ≤ 20 := by
  unfold dd
  split
  · simp
  · rw [Lib.decDigits_length]
    exact Lib.nDigits_le20 m (by omega)

theorem row_news {w : World} {lo g cap : Nat} {bs : List UInt8} (h : w.ownsRow lo 5 1 (.slice (some ⟨g, 0, none⟩) bs.length cap) bs.length (bs.map byteV)) : ∀ j u, (bs.map byteV)[j]? = some u → w.cell? ((⟨g, 0, none⟩ : Addr).add j) = some u :=
  World.ownsRow.cells h rfl

theorem row_string {w : World} {lo g cap : Nat} {bs : List UInt8} (h : w.ownsRow lo 5 1 (.slice (some ⟨g, 0, none⟩) bs.length cap) bs.length (bs.map byteV)) :
    (convert 53 9 (.slice (some ⟨g, 0, none⟩) bs.length cap)).run Tryd.prog w = .ok (.string ⟨bs.toArray⟩) w :=
  run_convert_bytes_back (P := Tryd.prog) w 53 9 5 ⟨g, 0, none⟩ cap bs Tryd.underlying53 Tryd.underlying5 Tryd.underlying9 (fun j hj => row_news h j _ (by simp [hj, byteV]))

theorem byte_one (bs : List UInt8) : ∀ u ∈ bs.map byteV, u.oneCell' = true := by
  intro u hu
  obtain ⟨b, _, rfl⟩ := List.mem_map.1 hu
  rfl

/-- The loop of digits: what is left of m, and what is written. -/
def DecR (m : Nat) (w wr : World) (o : Value) (u : Nat) : Prop :=
  ∃ (bs : List UInt8) (g cap : Nat), dd m = dd u ++ bs ∧ o = .slice (some ⟨g, 0, none⟩) bs.length cap ∧ wr.ownsRow w.heap.size 5 1 o bs.length (bs.map byteV) ∧ Below w.heap.size w wr ∧ w.heap.size < wr.heap.size

set_option maxRecDepth 100000 in
theorem specDec_pos (m : Nat) (hm : m ≤ 9223372036854775807) (w : World) :
    Calls Tryd.prog 29 #[.int .i64 (m : Int)] w fun e w' => e = .returned (.string ⟨(Lib.itoa (m : Int)).toArray⟩) ∧ Below w.heap.size w w' := by
  obtain ⟨i0, hi, hz0, hz1, hz2⟩ := info_parts info_byte
  have hdl := dd_len m (by omega)
  have hF : Lib.itoa (m : Int) = Lib.decDigits m := by unfold Lib.itoa; rw [if_neg (by omega)]; simp
  rw [hF]
  clear hF
  have HR := Lib.hid (rfl : Lib.decDigits m = Lib.decDigits m)
  have hgen : ∃ F, Lib.decDigits m = F ∧ (m = 0 → F = [48]) ∧ (m ≠ 0 → F = dd m) := ⟨_, rfl, fun h => by rw [h, Lib.decDigits, dif_pos (by omega)]; rfl, fun h => by rw [dd, if_neg h]⟩
  obtain ⟨F, hF, hF0, hF1⟩ := hgen
  rw [hF]
  clear hF HR
  have HF0 := Lib.hid hF0; clear hF0
  have HF1 := Lib.hid hF1; clear hF1
  go_enter Tryd.func29, Tryd.ntmps29
  go_wp2_with fail
  go_loopw [3, 4] (fun o k wr => ∃ u : Nat, u ≤ m ∧ k = .int .i64 (u : Int) ∧ DecR m w wr o u) (fun _ k _ => (intOf k).toNat)
  case atStart => exact ⟨m, Nat.le_refl _, rfl, [], w.heap.size, 0, by simp, rfl, by simpa using World.ownsRow_lit w (e := 5) (size := 1) #[] 0 (Nat.le_refl _) (by decide) (by rfl), by go_grown, by simp⟩
  case round =>
    obtain ⟨u, hu, rfl, bs, g, cap, hdd, rfl, hown, hb, hlw⟩ := hrel
    by_cases h0 : u = 0
    · subst h0
      have hbs : dd m = bs := by simpa [dd] using hdd
      have hcv := row_string hown
      by_cases hm0 : m = 0
      · have hl0 : bs = [] := by rw [← hbs, hm0]; rfl
        subst hl0
        have HO := Lib.hid hown; clear hown
        go_wp2
        go_ret
        exact ⟨by rw [HF0.out hm0]; rfl, hb⟩
      · have hne : ((bs.length : Int) == 0) = false := by
          have : bs ≠ [] := by
            rw [← hbs, dd_step m hm0]
            simp
          have := List.length_pos_iff.2 this
          simp
          omega
        have HO := Lib.hid hown; clear hown
        have HB := Lib.hid hbs; clear hbs hdd
        go_wp2
        go_ret
        exact ⟨by rw [HF1.out hm0, HB.out]; rfl, hb⟩
    · have hst := dd_step u h0
      rw [hst, List.append_assoc] at hdd
      have hlen : bs.length ≤ 20 := by
        have := congrArg List.length hdd
        simp at this
        omega
      have hmod : (u : Int).tmod 10 = ((u % 10 : Nat) : Int) := by rw [Int.tmod_eq_emod_of_nonneg (by omega)]; omega
      have hdiv : (u : Int).tdiv 10 = ((u / 10 : Nat) : Int) := by rw [Int.tdiv_eq_ediv_of_nonneg (by omega)]; omega
      have hd10 : u % 10 < 10 := Nat.mod_lt _ (by omega)
      have hbyte : byteV (UInt8.ofNat (48 + u % 10)) = .int .u8 ((48 : Int) + ((u % 10 : Nat) : Int)) := by
        simp only [byteV]
        rw [UInt8.toNat_ofNat_of_lt' (by have : UInt8.size = 256 := rfl; omega)]
        push_cast
        rfl
      have hsz := hb.size
      have hlt10 : u / 10 < u := Nat.div_lt_self (by omega) (by omega)
      have HD := Lib.hid hdd; clear hdd hst
      have HBY := Lib.hid hbyte; clear hbyte
      generalize u / 10 = q at *
      generalize u % 10 = d at *
      have hw8 : IntKind.u8.wrap ((48 : Int) + (d : Int)) = 48 + (d : Int) := IntWalk.u8_in _ (by omega)
      have HO := Lib.hid hown; clear hown
      have hlit := World.ownsRow_lit wr (base := w.heap.size) (e := 5) (size := 1) #[.int .u8 ((48 : Int) + (d : Int))] 1 hsz (by decide) (by rfl)
      have HL := Lib.hid hlit; clear hlit
      have hone := byte_one bs
      have HONE := Lib.hid hone; clear hone
      go_wp2_with (at_builtin; refine wpList_append_own _ rfl (.tmp 21) (.tmp 22) _ rfl w.heap.size 5 i0 (.int .u8 0) 1 1 Tryd.underlying53 hi hz0 hz1 hz2 rfl (by decide) (.slice (some ⟨wr.heap.size, 0, none⟩) 1 1) 1 [.int .u8 ((48 : Int) + (d : Int))] rfl HL.out ⟨g, 0, none⟩ bs.length cap (bs.map byteV) rfl (by simp) (row_news (HO.out.alloc _)) HONE.out (by unfold maxLen; omega) (by omega) (by simp; omega) ?_; intro v2 w2 hown2 hg2 _)
      go_roundw
      case rel =>
        have hrow2 : RowF 5 1 w2 w.heap.size w2.heap.size v2 (1 + bs.length) ([.int .u8 ((48 : Int) + (d : Int))] ++ bs.map byteV) := ⟨hown2, hown2.lt⟩
        have hb2 : Below w.heap.size w w2 := grown_below (kept_trans hb (by go_grown)) hg2 (fun x hx => by simp [Value.ownBlock] at hx; omega)
        rcases RowF_form hrow2 with ⟨hz, _⟩ | ⟨g2, cap2, hv, _, _, hlt2, _, _⟩
        · omega
        · refine ⟨q, by omega, by go_num, UInt8.ofNat (48 + d) :: bs, g2, cap2, by simpa using HD.out, by rw [hv, List.length_cons, Nat.add_comm], ?_, hb2, ?_⟩
          · rw [List.map_cons, HBY.out, List.length_cons, Nat.add_comm bs.length 1]
            exact hown2
          · have := hg2.size
            simp at this
            omega
      case measure => simp [intOf]; omega

set_option maxRecDepth 100000 in
theorem specDec_neg (m : Nat) (h1m : 1 ≤ m) (hm : m ≤ 9223372036854775808) (w : World) :
    Calls Tryd.prog 29 #[.int .i64 (-(m : Int))] w fun e w' => e = .returned (.string ⟨(Lib.itoa (-(m : Int))).toArray⟩) ∧ Below w.heap.size w w' := by
  obtain ⟨i0, hi, hz0, hz1, hz2⟩ := info_parts info_byte
  have hdl := dd_len m (by omega)
  have hF : Lib.itoa (-(m : Int)) = 45 :: dd m := by unfold Lib.itoa dd; rw [if_pos (by omega), if_neg (by omega)]; simp
  rw [hF]
  clear hF
  go_enter Tryd.func29, Tryd.ntmps29
  go_wp2_with fail
  go_loopw [3, 4] (fun o k wr => ∃ u : Nat, u ≤ m ∧ k = .int .i64 (-(u : Int)) ∧ DecR m w wr o u) (fun _ k _ => (-(intOf k)).toNat)
  case atStart => exact ⟨m, Nat.le_refl _, rfl, [], w.heap.size, 0, by simp, rfl, by simpa using World.ownsRow_lit w (e := 5) (size := 1) #[] 0 (Nat.le_refl _) (by decide) (by rfl), by go_grown, by simp⟩
  case round =>
    obtain ⟨u, hu, rfl, bs, g, cap, hdd, rfl, hown, hb, hlw⟩ := hrel
    by_cases h0 : u = 0
    · subst h0
      have hbs : dd m = bs := by simpa [dd] using hdd
      have hcv := row_string hown
      have hne : ((bs.length : Int) == 0) = false := by
        have : bs ≠ [] := by
          rw [← hbs, dd_step m (by omega)]
          simp
        have := List.length_pos_iff.2 this
        simp
        omega
      have hcat : (ByteArray.mk #[45]) ++ (ByteArray.mk bs.toArray) = ByteArray.mk (45 :: bs).toArray := by
        apply ByteArray.ext
        simp [ByteArray.data_append]
      have hbl : bs.length ≤ 20 := by rw [← hbs]; exact hdl
      have HO := Lib.hid hown; clear hown
      have HB := Lib.hid hbs; clear hbs hdd
      go_wp2
      go_ret
      exact ⟨by rw [HB.out]; rfl, hb⟩
    · have hst := dd_step u h0
      rw [hst, List.append_assoc] at hdd
      have hlen : bs.length ≤ 20 := by
        have := congrArg List.length hdd
        simp at this
        omega
      have hmod : (-(u : Int)).tmod 10 = -((u % 10 : Nat) : Int) := by rw [Int.neg_tmod, Int.tmod_eq_emod_of_nonneg (by omega)]; omega
      have hdiv : (-(u : Int)).tdiv 10 = -((u / 10 : Nat) : Int) := by rw [Int.neg_tdiv, Int.tdiv_eq_ediv_of_nonneg (by omega)]; omega
      have hd10 : u % 10 < 10 := Nat.mod_lt _ (by omega)
      have hbyte : byteV (UInt8.ofNat (48 + u % 10)) = .int .u8 ((48 : Int) + ((u % 10 : Nat) : Int)) := by
        simp only [byteV]
        rw [UInt8.toNat_ofNat_of_lt' (by have : UInt8.size = 256 := rfl; omega)]
        push_cast
        rfl
      have hsz := hb.size
      have hlt10 : u / 10 < u := Nat.div_lt_self (by omega) (by omega)
      have HD := Lib.hid hdd; clear hdd hst
      have HBY := Lib.hid hbyte; clear hbyte
      generalize u / 10 = q at *
      generalize u % 10 = d at *
      have hw8 : IntKind.u8.wrap ((48 : Int) + (d : Int)) = 48 + (d : Int) := IntWalk.u8_in _ (by omega)
      have HO := Lib.hid hown; clear hown
      have hlit := World.ownsRow_lit wr (base := w.heap.size) (e := 5) (size := 1) #[.int .u8 ((48 : Int) + (d : Int))] 1 hsz (by decide) (by rfl)
      have HL := Lib.hid hlit; clear hlit
      have hone := byte_one bs
      have HONE := Lib.hid hone; clear hone
      by_cases hd0 : d = 0
      · subst hd0
        go_wp2_with (at_builtin; refine wpList_append_own _ rfl (.tmp 21) (.tmp 22) _ rfl w.heap.size 5 i0 (.int .u8 0) 1 1 Tryd.underlying53 hi hz0 hz1 hz2 rfl (by decide) (.slice (some ⟨wr.heap.size, 0, none⟩) 1 1) 1 [.int .u8 48] rfl HL.out ⟨g, 0, none⟩ bs.length cap (bs.map byteV) rfl (by simp) (row_news (HO.out.alloc _)) HONE.out (by unfold maxLen; omega) (by omega) (by simp; omega) ?_; intro v2 w2 hown2 hg2 _)
        go_roundw
        case rel =>
          have hrow2 : RowF 5 1 w2 w.heap.size w2.heap.size v2 (1 + bs.length) ([.int .u8 48] ++ bs.map byteV) := ⟨hown2, hown2.lt⟩
          have hb2 : Below w.heap.size w w2 := grown_below (kept_trans hb (by go_grown)) hg2 (fun x hx => by simp [Value.ownBlock] at hx; omega)
          rcases RowF_form hrow2 with ⟨hz, _⟩ | ⟨g2, cap2, hv, _, _, hlt2, _, _⟩
          · omega
          · refine ⟨q, by omega, by go_num, UInt8.ofNat 48 :: bs, g2, cap2, by simpa using HD.out, by rw [hv, List.length_cons, Nat.add_comm], ?_, hb2, ?_⟩
            · rw [List.map_cons, show byteV (UInt8.ofNat 48) = .int .u8 48 from rfl, List.length_cons, Nat.add_comm bs.length 1]
              exact hown2
            · have := hg2.size
              simp at this
              omega
        case measure => simp [intOf]; omega
      · have hdn : decide (-(d : Int) < 0) = true := by simp; omega
        go_wp2_with (at_builtin; refine wpList_append_own _ rfl (.tmp 21) (.tmp 22) _ rfl w.heap.size 5 i0 (.int .u8 0) 1 1 Tryd.underlying53 hi hz0 hz1 hz2 rfl (by decide) (.slice (some ⟨wr.heap.size, 0, none⟩) 1 1) 1 [.int .u8 ((48 : Int) + (d : Int))] rfl HL.out ⟨g, 0, none⟩ bs.length cap (bs.map byteV) rfl (by simp) (row_news (HO.out.alloc _)) HONE.out (by unfold maxLen; omega) (by omega) (by simp; omega) ?_; intro v2 w2 hown2 hg2 _)
        go_roundw
        case rel =>
          have hrow2 : RowF 5 1 w2 w.heap.size w2.heap.size v2 (1 + bs.length) ([.int .u8 ((48 : Int) + (d : Int))] ++ bs.map byteV) := ⟨hown2, hown2.lt⟩
          have hb2 : Below w.heap.size w w2 := grown_below (kept_trans hb (by go_grown)) hg2 (fun x hx => by simp [Value.ownBlock] at hx; omega)
          rcases RowF_form hrow2 with ⟨hz, _⟩ | ⟨g2, cap2, hv, _, _, hlt2, _, _⟩
          · omega
          · refine ⟨q, by omega, by go_num, UInt8.ofNat (48 + d) :: bs, g2, cap2, by simpa using HD.out, by rw [hv, List.length_cons, Nat.add_comm], ?_, hb2, ?_⟩
            · rw [List.map_cons, HBY.out, List.length_cons, Nat.add_comm bs.length 1]
              exact hown2
            · have := hg2.size
              simp at this
              omega
        case measure => simp [intOf]; omega

theorem specDec_any (n : Int) (h : -9223372036854775808 ≤ n ∧ n ≤ 9223372036854775807) (w : World) :
    Calls Tryd.prog 29 #[.int .i64 n] w fun e w' => e = .returned (.string ⟨(Lib.itoa n).toArray⟩) ∧ Below w.heap.size w w' := by
  rcases Int.lt_or_le n 0 with h0 | h0
  · obtain ⟨m, rfl⟩ : ∃ m : Nat, n = -(m : Int) := ⟨n.natAbs, by omega⟩
    exact specDec_neg m (by omega) (by omega) w
  · obtain ⟨m, rfl⟩ : ∃ m : Nat, n = (m : Int) := ⟨n.toNat, by omega⟩
    exact specDec_pos m (by omega) w

/-- New blocks behind the heap alone. -/
theorem below_ext {w w1 : World} (os : Array Obj) (h1 : w1.heap = w.heap ++ os) (h2 : w1.os = w.os) (h3 : w1.tape = w.tape) (h4 : w1.output = w.output) : Below w.heap.size w w1 where
  os := h2
  tape := h3
  output := h4
  size := by rw [h1]; simp
  block := fun i hi => by rw [h1]; simp [Array.getElem?_append, hi]

/-- The table of the powers of ten. -/
def PowTab (w : World) : Prop := Lib.TabIs Tryd.prog w "internal/strconv.uint64pow10" .u64 Lib.pow10Tab

theorem tab_kept {W w1 : World} {name : String} {k : IntKind} {zs : List Int} (h : Lib.TabIs Tryd.prog W name k zs) (hb : Below W.heap.size W w1) : Lib.TabIs Tryd.prog w1 name k zs := by
  unfold Lib.TabIs World.var? at *
  cases hg : (Tryd.prog).globalNamed name with
  | none => simp [hg] at h
  | some g =>
    simp only [hg, Option.bind_some] at h ⊢
    rcases Nat.lt_or_ge g W.heap.size with hlt | hge
    · rw [hb.block g hlt]
      exact h
    · rw [Array.getElem?_eq_none hge] at h
      simp at h

theorem tabIs_of_reads {P : Program} {W : World} {name : String} {k : IntKind} {zs : List Int} {g : Nat} {t e : TypeId} {n : Nat}
    (hg : P.globalNamed name = some g) (hty : (P.globals[g]?).map (·.type) = some t) (ht : P.underlying t = some (.array n e)) (he : P.underlying e = some (.int k)) (hce : P.cellsOf e = 1) (hct : P.cellsOf t = n)
    (h : Lib.VarReads P W name (Lib.tabData k zs)) : Lib.TabIs P W name k zs := by
  obtain ⟨g', t', cs, fuel, p, hg', ht', hvar, hd⟩ := h
  obtain rfl := Option.some.inj (hg.symm.trans hg')
  obtain rfl := Option.some.inj (hty.symm.trans ht')
  unfold Lib.TabIs
  rw [hvar, ← Lib.cells_of_tab ht he hce hct hd]

theorem powTab_of {W : World} (h : Lib.VarReads Tryd.prog W "internal/strconv.uint64pow10" Rows.laid_internal_strconv_uint64pow10) : PowTab W :=
  tabIs_of_reads (g := 0) (t := 87) (e := 76) (n := 20) (by kernel_rfl) (by kernel_rfl) Tryd.underlying87 Tryd.underlying76 (by kernel_rfl) (by kernel_rfl) h

theorem implDecimal_any (n : Int) (h : -9223372036854775808 ≤ n ∧ n ≤ 9223372036854775807) (w : World) (ht : PowTab w) :
    Calls Tryd.prog 21 #[.int .i64 n] w fun e w' => e = .returned (.string ⟨(Lib.itoa n).toArray⟩) ∧ Below w.heap.size w w' := by
  have H := Lib.hid (Tryd.strconv_FormatInt_10 n h.1 h.2 w ht)
  generalize Lib.itoa n = F at *
  go_enter Tryd.func21, Tryd.ntmps21
  go_wp2_with fail
  refine H.out.mono ?_
  rintro e w1 ⟨rfl, k, os, hw⟩
  have hb : Below w.heap.size w w1 := below_ext os (by rw [hw]; rfl) (by rw [hw]; rfl) (by rw [hw]; rfl) (by rw [hw]; rfl)
  clear hw
  go_wp2
  go_ret
  exact ⟨rfl, hb⟩

/-- The text of a step. -/
def stepB (z : Int × Int) : List UInt8 := Lib.itoa z.1 ++ 58 :: Lib.itoa z.2

/-- The text of steps. -/
def textB (zs : List (Int × Int)) : List UInt8 := Lib.join (zs.map stepB) [32]

theorem textB_step (zs : List (Int × Int)) (k : Nat) (h : k < zs.length) : textB (zs.take (k + 1)) = textB (zs.take k) ++ ((if k = 0 then [] else [32]) ++ stepB zs[k]) := by
  cases zs with
  | nil => simp at h
  | cons z r =>
    cases k with
    | zero => simp [textB, Lib.join_one, Lib.join_nil]
    | succ m =>
      have hr : (r.map stepB)[m]? = some (stepB (r[m]'(by simpa using h))) := by rw [List.getElem?_map, List.getElem?_eq_getElem (by simpa using h)]; rfl
      have hs := Lib.joinTail_take_succ [32] (r.map stepB) m _ hr
      simp only [textB, List.take_succ_cons, List.map_cons, List.map_take, Lib.join_cons, hs, List.getElem_cons_succ]
      simp [List.append_assoc]

theorem textB_len (zs : List (Int × Int)) (h : ∀ k, (hk : k < zs.length) → (stepB zs[k]).length ≤ 43) (k : Nat) (hk : k ≤ zs.length) : (textB (zs.take k)).length ≤ 44 * k := by
  induction k with
  | zero => simp [textB, Lib.join_nil]
  | succ k ih =>
    rw [textB_step zs k hk, List.length_append, List.length_append]
    have h1 := ih (by omega)
    have h2 := h k hk
    split <;> simp <;> omega

theorem stepB_len {x y : Int} (hx : -9223372036854775808 ≤ x ∧ x ≤ 9223372036854775807) (hy : -9223372036854775808 ≤ y ∧ y ≤ 9223372036854775807) : (stepB (x, y)).length ≤ 43 := by
  have h1 := Lib.itoa_length_le x hx.1 hx.2
  have h2 := Lib.itoa_length_le y hy.1 hy.2
  simp only [stepB, List.length_append, List.length_cons]
  omega

noncomputable def chartTextL (zs : List (Int × Int)) : List UInt8 := if chartB zs then textB zs else []

theorem cat_size (l : List UInt8) : (ByteArray.mk l.toArray).size = l.length := by simp [ByteArray.size]

theorem cat3 (T X Y : List UInt8) : ByteArray.mk T.toArray ++ (ByteArray.mk X.toArray ++ ByteArray.mk #[58] ++ ByteArray.mk Y.toArray) = ByteArray.mk (T ++ (X ++ 58 :: Y)).toArray := by
  rw [show ByteArray.mk #[58] = ByteArray.mk ([58] : List UInt8).toArray from rfl, ByteArray.mk_append_mk, ByteArray.mk_append_mk, ByteArray.mk_append_mk]
  simp

theorem cat4 (T X Y : List UInt8) : (ByteArray.mk T.toArray ++ ByteArray.mk #[32]) ++ (ByteArray.mk X.toArray ++ ByteArray.mk #[58] ++ ByteArray.mk Y.toArray) = ByteArray.mk (T ++ ([32] ++ (X ++ 58 :: Y))).toArray := by
  rw [show ByteArray.mk #[58] = ByteArray.mk ([58] : List UInt8).toArray from rfl, show ByteArray.mk #[32] = ByteArray.mk ([32] : List UInt8).toArray from rfl, ByteArray.mk_append_mk, ByteArray.mk_append_mk, ByteArray.mk_append_mk, ByteArray.mk_append_mk]
  simp

set_option maxRecDepth 100000 in
theorem specText_any (v : Value) (zs : List (Int × Int)) (w : World) (h : RdP w v zs) (hc : ChartP zs) :
    Calls Tryd.prog 16 #[v] w fun e w' => e = .returned (.string ⟨(textB zs).toArray⟩) ∧ Below w.heap.size w w' := by
  obtain ⟨A, c, rfl, hl, _⟩ := RdP_slice h
  have H := Lib.hid h; clear h
  have hn := hc.2
  have Hat := Lib.hid (fun (k : Nat) (hk : k < zs.length) => (hc.1 k hk hk).1)
  have Hlen := Lib.hid (textB_len zs (fun k hk => by have := (hc.1 k hk hk).1; exact stepB_len (x := zs[k].1) (y := zs[k].2) (by omega) (by omega)))
  have Hst := Lib.hid (textB_step zs)
  have Hend := Lib.hid (show textB (zs.take zs.length) = textB zs by rw [List.take_of_length_le (Nat.le_refl _)])
  clear hc
  go_enter Tryd.func16, Tryd.ntmps16
  go_wp2_with fail
  go_loopw [3, 4] (fun o i wr => ∃ k : Nat, k ≤ zs.length ∧ i = .int .i64 k ∧ o = .string ⟨(textB (zs.take k)).toArray⟩ ∧ Below w.heap.size w wr) (fun _ i _ => zs.length - (intOf i).toNat)
  case atStart => exact ⟨0, by omega, rfl, rfl, Below.refl _ _⟩
  case round =>
    obtain ⟨k, hk, rfl, rfl, hb⟩ := hrel
    by_cases hlt : k < zs.length
    · obtain ⟨_, b, off, rfl, hbl, hc0, hc1⟩ := rd_at H.out k hlt
      rw [atP_is zs k hlt] at hc0 hc1
      rw [← kept_cell hb b _ hbl] at hc0 hc1
      have hat := Hat.out k hlt
      have htl := Hlen.out k hk
      have hst := Hst.out k hlt
      have hbl' := Nat.lt_of_lt_of_le hbl hb.size
      rw [show stepB zs[k] = Lib.itoa zs[k].1 ++ 58 :: Lib.itoa zs[k].2 from rfl] at hst
      generalize textB (zs.take k) = T at *
      generalize zs[k].1 = x at *
      generalize zs[k].2 = y at *
      have hlx := Lib.itoa_length_le x (by omega) (by omega)
      have hly := Lib.itoa_length_le y (by omega) (by omega)
      have c3 := cat3 T (Lib.itoa x) (Lib.itoa y)
      have c4 := cat4 T (Lib.itoa x) (Lib.itoa y)
      have z1 := cat_size T
      have z2 := cat_size (Lib.itoa x)
      have z3 := cat_size (Lib.itoa y)
      have HST := Lib.hid hst; clear hst
      by_cases h0 : k = 0
      · subst h0
        have hF := c3.trans (show _ = ByteArray.mk (textB (zs.take (0 + 1))).toArray by rw [HST.out]; simp)
        clear c3 c4
        generalize hbx : ByteArray.mk (Lib.itoa x).toArray = bx at *
        generalize hby : ByteArray.mk (Lib.itoa y).toArray = by' at *
        generalize ByteArray.mk T.toArray = bt at *
        have hq0 : ¬ 9223372036854775807 < bt.size + 1 := by omega
        have hq1 : ¬ 9223372036854775807 < bx.size + 1 := by omega
        have hq2 : ¬ 9223372036854775807 < bx.size + 1 + by'.size := by omega
        have hq3 : ¬ 9223372036854775807 < bt.size + (bx.size + 1 + by'.size) := by omega
        have hq4 : ¬ 9223372036854775807 < bt.size + 1 + (bx.size + 1 + by'.size) := by omega
        clear z1 z2 z3
        have HF := Lib.hid hF; clear hF
        simp only [Nat.zero_mul, Nat.add_zero] at hc0 hc1
        go_wp2_with fail
        go_region_held3 (fun w' => w'.cell? ⟨b, off, none⟩ = some (.int .i64 x) ∧ w'.cell? ⟨b, off + 1, none⟩ = some (.int .i64 y)) (go_keep)
          ((go_at_call 29; refine (specDec_any _ (by omega) _).mono ?_; rintro e w1 ⟨rfl, hb1⟩; replace hb1 := kept_trans (a := wr) (by go_grown) hb1; have hcl := kept_cell hb1))
        go_wp2
        go_roundw
        case rel => exact ⟨1, by omega, by go_num, by rw [← HF.out], kept_trans hb (by assumption)⟩
        case measure => simp [intOf]; omega
      · have hkd : decide (0 < k) = true := by simp; omega
        have hF := c4.trans (show _ = ByteArray.mk (textB (zs.take (k + 1))).toArray by rw [HST.out, if_neg h0])
        clear c3 c4
        generalize hbx : ByteArray.mk (Lib.itoa x).toArray = bx at *
        generalize hby : ByteArray.mk (Lib.itoa y).toArray = by' at *
        generalize ByteArray.mk T.toArray = bt at *
        have hq0 : ¬ 9223372036854775807 < bt.size + 1 := by omega
        have hq1 : ¬ 9223372036854775807 < bx.size + 1 := by omega
        have hq2 : ¬ 9223372036854775807 < bx.size + 1 + by'.size := by omega
        have hq3 : ¬ 9223372036854775807 < bt.size + (bx.size + 1 + by'.size) := by omega
        have hq4 : ¬ 9223372036854775807 < bt.size + 1 + (bx.size + 1 + by'.size) := by omega
        clear z1 z2 z3
        have HF := Lib.hid hF; clear hF
        go_wp2_with fail
        go_region_held3 (fun w' => w'.cell? ⟨b, off + k * 2, none⟩ = some (.int .i64 x) ∧ w'.cell? ⟨b, off + k * 2 + 1, none⟩ = some (.int .i64 y)) (go_keep)
          ((go_at_call 29; refine (specDec_any _ (by omega) _).mono ?_; rintro e w1 ⟨rfl, hb1⟩; replace hb1 := kept_trans (a := wr) (by go_grown) hb1; have hcl := kept_cell hb1))
        go_wp2
        go_roundw
        case rel => exact ⟨k + 1, by omega, by go_num, by rw [← HF.out], kept_trans hb (by assumption)⟩
        case measure => simp [intOf]; omega
    · have : k = zs.length := by omega
      subst this
      rw [Hend.out]
      go_wp2
      go_ret
      exact ⟨rfl, hb⟩

theorem specChartText_any (v : Value) (zs : List (Int × Int)) (w : World) (h : RdP w v zs) :
    Calls Tryd.prog 6 #[v] w fun e w' => e = .returned (.string ⟨(chartTextL zs).toArray⟩) ∧ Below w.heap.size w w' := by
  have HC := Lib.hid (specChart_any v zs w h)
  have H := Lib.hid h; clear h
  by_cases hch : ChartP zs
  · have hcb := chartB_true hch
    rw [hcb] at HC
    rw [show chartTextL zs = textB zs by simp [chartTextL, hcb]]
    have HX := Lib.hid (fun (u : World) (h : RdP u v zs) => specText_any v zs u h hch)
    generalize textB zs = F at *
    clear hcb hch
    go_enter Tryd.func6, Tryd.ntmps6
    go_wp2_with fail
    refine HC.out.mono ?_
    rintro e w1 ⟨rfl, hb⟩
    go_wp2_with fail
    refine (HX.out _ (RdP_kept H.out hb)).mono ?_
    rintro e w2 ⟨rfl, hb2⟩
    go_wp2
    go_ret
    exact ⟨rfl, kept_trans hb hb2⟩
  · have hcb := chartB_false hch
    rw [hcb] at HC
    rw [show chartTextL zs = [] by simp [chartTextL, hcb]]
    clear hcb hch
    go_enter Tryd.func6, Tryd.ntmps6
    go_wp2_with fail
    refine HC.out.mono ?_
    rintro e w1 ⟨rfl, hb⟩
    go_wp2
    go_ret
    exact ⟨rfl, hb⟩

def stepV (z : Int × Int) : Value := .string ⟨(stepB z).toArray⟩

theorem info_text : (Tryd.prog.info? 9).map (fun i => (i.zero, i.size, i.bytes)) = some (some (.string ⟨#[]⟩), 1, 16) := by kernel_rfl

theorem cat2 (X Y : List UInt8) : ByteArray.mk X.toArray ++ ByteArray.mk #[58] ++ ByteArray.mk Y.toArray = ByteArray.mk (X ++ 58 :: Y).toArray := by
  rw [show ByteArray.mk #[58] = ByteArray.mk ([58] : List UInt8).toArray from rfl, ByteArray.mk_append_mk, ByteArray.mk_append_mk]
  simp

set_option maxRecDepth 100000 in
theorem implChartText_any (v : Value) (zs : List (Int × Int)) (w : World) (h : RdP w v zs) (ht : PowTab w) :
    Calls Tryd.prog 8 #[v] w fun e w' => e = .returned (.string ⟨(chartTextL zs).toArray⟩) ∧ Below w.heap.size w w' := by
  have HC := Lib.hid (implChart_any v zs w h)
  obtain ⟨A, c, rfl, hl, _⟩ := RdP_slice h
  have H := Lib.hid h; clear h
  have HT := Lib.hid ht; clear ht
  by_cases hch : ChartP zs
  · have hcb := chartB_true hch
    rw [hcb] at HC
    rw [show chartTextL zs = textB zs by simp [chartTextL, hcb]]
    have hn := hch.2
    have Hat := Lib.hid (fun (k : Nat) (hk : k < zs.length) => (hch.1 k hk hk).1)
    have hfl := textB_len zs (fun k hk => by have := (hch.1 k hk hk).1; exact stepB_len (x := zs[k].1) (y := zs[k].2) (by omega) (by omega)) zs.length (Nat.le_refl _)
    rw [List.take_of_length_le (Nat.le_refl _)] at hfl
    have hfl2 : (textB zs).length ≤ 880 := by omega
    clear hfl
    have Hstep := Lib.hid (fun (j : Nat) (h : j < zs.length) => map_step stepV zs (Value.string ⟨#[]⟩) j h)
    have Hend := Lib.hid (show (zs.map stepV).take zs.length = zs.map stepV from List.take_of_length_le (by simp))
    have hmk := run_make_row' (P := Tryd.prog) 40 9 (.string ⟨#[]⟩) 16 Tryd.underlying40 info_text rfl .i64 .i64 zs.length (by omega) (by omega)
    have Hrow0 := Lib.hid (fun (wa : World) (hwa : w.heap.size ≤ wa.heap.size) => (by
      have := World.ownsRow_lit wa (base := w.heap.size) (e := 9) (size := 1) (madeCells #[.string ⟨#[]⟩] zs.length) zs.length hwa (by unfold maxLen; omega) (by rw [size_madeCells]; simp)
      rw [toList_madeCells_one] at this
      exact this : (wa.alloc (.cells (madeCells #[.string ⟨#[]⟩] zs.length) 9)).ownsRow w.heap.size 9 1 (.slice (some ⟨wa.heap.size, 0, none⟩) zs.length zs.length) zs.length (List.replicate zs.length (Value.string ⟨#[]⟩))))
    have Hjoin := Lib.hid (fun (bk : Nat) (w1 : World) (hc : ∀ (j : Nat) x, (zs.map fun z => ByteArray.mk (stepB z).toArray)[j]? = some x → w1.cell? ⟨bk, 0 + j, none⟩ = some (.string x)) (hbk : bk < w1.heap.size) =>
      Tryd.strings_Join bk 0 zs.length (zs.map fun z => ByteArray.mk (stepB z).toArray) ⟨#[32]⟩ w1 hc hbk (by simp; omega) (by simp) (by
        have e : (zs.map fun z => ByteArray.mk (stepB z).toArray).map (·.data.toList) = zs.map stepB := by simp
        rw [e]
        show (textB zs).length ≤ _
        omega))
    clear hcb hch
    go_enter Tryd.func8, Tryd.ntmps8
    go_wp2_with fail
    refine HC.out.mono ?_
    rintro e w1 ⟨rfl, hb⟩
    have hs1 := hb.size
    go_wp2_with fail
    generalize hg : w1.heap.size = g at *
    go_loopw [14] (fun i wr => ∃ k : Nat, k ≤ zs.length ∧ i = .int .i64 k ∧ wr.ownsRow w.heap.size 9 1 (.slice (some ⟨g, 0, none⟩) zs.length zs.length) zs.length ((zs.map stepV).take k ++ List.replicate (zs.length - k) (Value.string ⟨#[]⟩)) ∧ g < wr.heap.size ∧ Below w.heap.size w wr) (fun i _ => zs.length - (intOf i).toNat)
    case atStart => exact ⟨0, by omega, rfl, by subst hg; simpa using Hrow0.out w1 hs1, by simp; omega, hb.alloc hb.size _⟩
    case round =>
      obtain ⟨k, hk, rfl, hown, hlw, hb⟩ := hrel
      by_cases hlt : k < zs.length
      · obtain ⟨_, b, off, rfl, hbl, hc0, hc1⟩ := rd_at H.out k hlt
        rw [atP_is zs k hlt] at hc0 hc1
        rw [← kept_cell hb b _ hbl] at hc0 hc1
        have hat := Hat.out k hlt
        have hlen : ((zs.map stepV).take k ++ List.replicate (zs.length - k) (Value.string ⟨#[]⟩)).length = zs.length * 1 := hown.1
        obtain ⟨u0, hu0⟩ : ∃ u, wr.cell? ⟨g, k, none⟩ = some u := by
          rw [hown.cellAt _ (by omega)]
          exact ⟨_, List.getElem?_eq_getElem (by omega)⟩
        have hz0 := hown.frozenAt k
        have hnext := Hstep.out k hlt
        rw [show stepV zs[k] = .string ⟨(Lib.itoa zs[k].1 ++ 58 :: Lib.itoa zs[k].2).toArray⟩ from rfl] at hnext
        have Hown := Lib.hid hown; clear hown hlen
        generalize zs[k].1 = x at *
        generalize zs[k].2 = y at *
        have hlx := Lib.itoa_length_le x (by omega) (by omega)
        have hly := Lib.itoa_length_le y (by omega) (by omega)
        have z2 := cat_size (Lib.itoa x)
        have z3 := cat_size (Lib.itoa y)
        rw [← cat2] at hnext
        have Hnext := Lib.hid hnext; clear hnext
        generalize hbx : ByteArray.mk (Lib.itoa x).toArray = bx at *
        generalize hby : ByteArray.mk (Lib.itoa y).toArray = by' at *
        have hq1 : ¬ 9223372036854775807 < bx.size + 1 := by omega
        have hq2 : ¬ 9223372036854775807 < bx.size + 1 + by'.size := by omega
        clear z2 z3
        have fx : (wr.alloc (.cells #[.int .i64 x, .int .i64 y] 36)).cell? ⟨wr.heap.size, 0, none⟩ = some (.int .i64 x) := by simp
        have fy : (wr.alloc (.cells #[.int .i64 x, .int .i64 y] 36)).cell? ⟨wr.heap.size, 1, none⟩ = some (.int .i64 y) := by simp
        have fu : (wr.alloc (.cells #[.int .i64 x, .int .i64 y] 36)).cell? ⟨g, k, none⟩ = some u0 := by rw [World.cell?_alloc_past _ _ _ hlw]; exact hu0
        have fz : (wr.alloc (.cells #[.int .i64 x, .int .i64 y] 36)).frozen? ⟨g, k, none⟩ = false := by rw [World.frozen?_alloc_past _ _ _ hlw]; exact hz0
        have frow := Lib.hid (Hown.out.alloc (.cells #[.int .i64 x, .int .i64 y] 36))
        have fb := hb.alloc hb.size (.cells #[.int .i64 x, .int .i64 y] 36)
        have fg : g < (wr.alloc (.cells #[.int .i64 x, .int .i64 y] 36)).heap.size := by simp; omega
        have fq : wr.heap.size < (wr.alloc (.cells #[.int .i64 x, .int .i64 y] 36)).heap.size := by simp
        have ft := tab_kept HT.out fb
        have hne1 : ¬ g = wr.heap.size := by omega
        go_wp2_with fail
        generalize hwb : wr.alloc (.cells #[.int .i64 x, .int .i64 y] 36) = wb at *
        generalize hqq : wr.heap.size = q at *
        have FT := Lib.hid ft; clear ft
        clear hwb
        go_region_held3 (fun w' => w'.cell? ⟨q, 0, none⟩ = some (.int .i64 x) ∧ w'.cell? ⟨q, 1, none⟩ = some (.int .i64 y)) (go_keep)
          ((go_at_call 21; refine (implDecimal_any _ (by omega) _ ?ht).mono ?_; (case ht => first | exact FT.out | exact tab_kept FT.out (by assumption)); rintro e w2 ⟨rfl, hb1⟩; replace hb1 := kept_trans (a := wb) (by go_grown) hb1; have hcl := kept_cell hb1; have hu1 := (kept_cell hb1 g k fg).trans fu; have hz1 := (kept_frozen hb1 g k fg).trans fz))
        have hB : Below wb.heap.size wb w2 := by assumption
        have hst := (own_kept frow.out hB).stored k (.string (bx ++ ⟨#[58]⟩ ++ by'))
        rw [Hnext.out] at hst
        have hszB := hB.size
        have hgB := grown_below (kept_trans fb hB) hst.2 (fun x hx => by simp at hx; omega)
        have Hs := Lib.hid hst.1
        have Hg := Lib.hid hgB
        clear hst hgB
        go_wp2
        go_roundw
        case rel => exact ⟨k + 1, by omega, by go_num, Hs.out, by simp; omega, Hg.out⟩
        case measure => simp [intOf]; omega
      · have hkn : k = zs.length := by omega
        subst hkn
        rw [Hend.out, Nat.sub_self] at hown
        have hj := Hjoin.out g wr (fun j x hx => by
          rw [Nat.zero_add, hown.cellAt j (by
            have := (List.getElem?_eq_some_iff.1 hx).1
            simp at this
            omega)]
          rw [List.getElem?_map] at hx
          obtain ⟨z, hz, rfl⟩ := Option.map_eq_some_iff.1 hx
          simp [hz, stepV]) hlw
        rw [show (zs.map fun z => ByteArray.mk (stepB z).toArray).length = zs.length by simp, show Lib.join ((zs.map fun z => ByteArray.mk (stepB z).toArray).map (·.data.toList)) (ByteArray.mk #[32]).data.toList = textB zs by rw [List.map_map]; rfl] at hj
        have HO := Lib.hid hown; clear hown
        have HJ := Lib.hid hj; clear hj
        go_wp2_with fail
        refine HJ.out.mono ?_
        rintro e w2 ⟨rfl, hb2⟩
        go_wp2
        go_ret
        exact ⟨rfl, kept_trans hb hb2⟩
  · have hcb := chartB_false hch
    rw [hcb] at HC
    rw [show chartTextL zs = [] by simp [chartTextL, hcb]]
    clear hcb hch
    go_enter Tryd.func8, Tryd.ntmps8
    go_wp2_with fail
    refine HC.out.mono ?_
    rintro e w1 ⟨rfl, hb⟩
    go_wp2
    go_ret
    exact ⟨rfl, hb⟩

theorem walk_FnExactChartText (w : World) (v0 : Value) (zs0 : List (Int × Int)) (h0 : RdP w v0 zs0) (wf0 : ∀ z ∈ zs0, (Lit.int .i64 z.1).wf = true ∧ (Lit.int .i64 z.2).wf = true) (ht : PowTab w) :
    Calls Tryd.prog 3 #[v0] w fun e w' => e = .returned (.bool true) ∧ Below w.heap.size w w' := by
  obtain ⟨A0, c0, rfl, l0, _⟩ := RdP_slice h0
  have H0 := Lib.hid h0; clear h0 wf0
  have hS := fun (x0 : Value) (u : World) (q0 : RdP u x0 zs0) => specChartText_any x0 zs0 u q0
  have hI := fun (x0 : Value) (u : World) (q0 : RdP u x0 zs0) (t : PowTab u) => implChartText_any x0 zs0 u q0 t
  have HTX := Lib.hid ht; clear ht
  generalize chartTextL zs0 = F at hS hI
  have HS := Lib.hid hS; clear hS
  have HI := Lib.hid hI; clear hI
  by_cases n1 : zs0.length ≤ 1000000
  case neg =>
    go_enter Tryd.func3, Tryd.ntmps3
    go_wp2_with fail
    refine (szC_over _ _ _ _ (by omega) l0 (by omega) _).mono ?_
    rintro e w' ⟨rfl, rfl⟩
    go_wp2
    go_ret
    exact ⟨rfl, Below.refl _ _⟩
  go_enter Tryd.func3, Tryd.ntmps3
  go_wp2_with fail
  refine (szC_fit _ _ _ _ (by omega) _).mono ?_
  rintro e w' ⟨rfl, rfl⟩
  go_wp2_with fail
  refine (toC_false _ zs0 _ H0.out (by omega)).mono ?_
  rintro e w101 ⟨s0, rfl, ks0, b1⟩
  have z1 := b1.size
  go_wp2_with fail
  refine (HS.out s0 _ (CopyC_rd ks0)).mono ?_
  rintro e w102 ⟨rfl, b2⟩
  have z2 := b2.size
  replace ks0 := CopyC_kept ks0 b2
  replace b2 := kept_trans b1 b2
  go_wp2_with fail
  refine (toC_false _ zs0 _ (RdP_kept H0.out b2) (by omega)).mono ?_
  rintro e w103 ⟨x0, rfl, kx0, b3⟩
  have z3 := b3.size
  replace b3 := kept_trans b2 b3
  go_wp2_with fail
  refine (HI.out x0 _ (CopyC_rd kx0) (tab_kept HTX.out b3)).mono ?_
  rintro e w104 ⟨rfl, b4⟩
  have z4 := b4.size
  replace kx0 := CopyC_kept kx0 b4
  replace b4 := kept_trans b3 b4
  go_wp2_with fail
  refine (toC_false _ zs0 _ (RdP_kept H0.out b4) (by omega)).mono ?_
  rintro e w105 ⟨y0, rfl, ky0, b5⟩
  have z5 := b5.size
  replace kx0 := CopyC_kept kx0 b5
  replace b5 := kept_trans b4 b5
  go_wp2_with fail
  refine (intactC_same _ _ zs0 _ _ _ _ _ kx0 ky0).mono ?_
  rintro e w106 ⟨rfl, b6⟩
  have z6 := b6.size
  replace kx0 := CopyC_kept kx0 b6
  replace ky0 := CopyC_kept ky0 b6
  replace b6 := kept_trans b5 b6
  go_wp2_with fail
  refine (toC_true _ zs0 _ (RdP_kept H0.out b6) (by omega)).mono ?_
  rintro e w107 ⟨t0, rfl, kt0, b7⟩
  have z7 := b7.size
  replace kx0 := CopyC_kept kx0 b7
  replace b7 := kept_trans b6 b7
  go_wp2_with fail
  refine (HI.out t0 _ kt0 (tab_kept HTX.out b7)).mono ?_
  rintro e w108 ⟨rfl, b8⟩
  have z8 := b8.size
  replace kx0 := CopyC_kept kx0 b8
  replace kt0 := RdP_kept kt0 b8
  replace b8 := kept_trans b7 b8
  go_wp2
  go_ret
  exact ⟨rfl, b8⟩

end Go.Proofs.YtapnihkgalbddabDoor
namespace Go.Proofs.YtapnihkgalbddabDoor.fnExactChartText
open Go.ChangeShapes Go.WideShapes Go.ChangeAt Go.RowKit
set_option linter.unusedVariables false
set_option linter.unusedSimpArgs false
open Go.Joins Go.ChangeMaps
/-- A world for the witness: the settled one, the listed variables holding what their initialisers lay. -/
noncomputable def laidWorld (os : Os) : World := { World.holding Tryd.prog os ⟨#[], #[], []⟩ with heap := ((((World.holding Tryd.prog os ⟨#[], #[], []⟩).heap.modify 4 (fun | .cells _ t frozen => .cells #[.int .u8 0, .int .u8 1, .int .u8 28, .int .u8 2, .int .u8 29, .int .u8 14, .int .u8 24, .int .u8 3, .int .u8 30, .int .u8 22, .int .u8 20, .int .u8 15, .int .u8 25, .int .u8 17, .int .u8 4, .int .u8 8, .int .u8 31, .int .u8 27, .int .u8 13, .int .u8 23, .int .u8 21, .int .u8 19, .int .u8 16, .int .u8 7, .int .u8 26, .int .u8 12, .int .u8 18, .int .u8 6, .int .u8 11, .int .u8 5, .int .u8 10, .int .u8 9] t frozen | o => o)).modify 5 (fun | .cells _ t frozen => .cells #[.int .u8 0, .int .u8 1, .int .u8 56, .int .u8 2, .int .u8 57, .int .u8 49, .int .u8 28, .int .u8 3, .int .u8 61, .int .u8 58, .int .u8 42, .int .u8 50, .int .u8 38, .int .u8 29, .int .u8 17, .int .u8 4, .int .u8 62, .int .u8 47, .int .u8 59, .int .u8 36, .int .u8 45, .int .u8 43, .int .u8 51, .int .u8 22, .int .u8 53, .int .u8 39, .int .u8 33, .int .u8 30, .int .u8 24, .int .u8 18, .int .u8 12, .int .u8 5, .int .u8 63, .int .u8 55, .int .u8 48, .int .u8 27, .int .u8 60, .int .u8 41, .int .u8 37, .int .u8 16, .int .u8 46, .int .u8 35, .int .u8 44, .int .u8 21, .int .u8 52, .int .u8 32, .int .u8 23, .int .u8 11, .int .u8 54, .int .u8 26, .int .u8 40, .int .u8 15, .int .u8 34, .int .u8 20, .int .u8 31, .int .u8 10, .int .u8 25, .int .u8 14, .int .u8 19, .int .u8 9, .int .u8 13, .int .u8 8, .int .u8 7, .int .u8 6] t frozen | o => o)).modify 0 (fun | .cells _ t frozen => .cells #[.int .u64 1, .int .u64 10, .int .u64 100, .int .u64 1000, .int .u64 10000, .int .u64 100000, .int .u64 1000000, .int .u64 10000000, .int .u64 100000000, .int .u64 1000000000, .int .u64 10000000000, .int .u64 100000000000, .int .u64 1000000000000, .int .u64 10000000000000, .int .u64 100000000000000, .int .u64 1000000000000000, .int .u64 10000000000000000, .int .u64 100000000000000000, .int .u64 1000000000000000000, .int .u64 10000000000000000000] t frozen | o => o)) }
theorem laid_met (os : Os) : laidMet Tryd.prog Rows.fnExactChartTextRow.laid ((laidWorld os).forCall (fun _ _ => 0) ⟨#[], #[.slice none 0 0], []⟩).memory :=
  laidMet_of_run' 16 (by kernel_rfl) (by kernel_rfl)
theorem reads (os : Os) {H : Type} (enc : TypeId × Value → H) : ∃ places, DataW.whole enc Tryd.prog ((laidWorld os).forCall (fun _ _ => 0) ⟨#[], #[.slice none 0 0], []⟩).memory Tryd.f3.params.toList Rows.fnExactChartTextSpec.vars false (#[.slice none 0 0] : Array Value).toList 16 = some ([.nil], [], places) :=
  ⟨[], by kernel_rfl⟩
set_option maxRecDepth 100000 in
theorem lifted (os : Os) (started : os.Started) (H : Type) (enc : TypeId × Value → H) (F : Stop.Interp) :
    ReturnsInHanded {} Tryd.checked os 3 .any ((OpenSpec.ofChange Rows.fnExactChartTextSpec).preRow enc Tryd.prog Tryd.f3 Rows.fnExactChartTextRow.domain false Rows.fnExactChartTextRow.laid) (((OpenSpec.ofChange Rows.fnExactChartTextSpec).at F).post enc Tryd.prog Tryd.f3 false true false false) := by
  obtain ⟨places, hx⟩ := reads os enc
  refine returnsInHanded_of_row (C := Tryd.checked) (s := OpenSpec.ofChange Rows.fnExactChartTextSpec) (show ownKnob Tryd.prog.godebug = none by kernel_rfl) started (by kernel_rfl) Tryd.func3
    (witness_row_at (enc := enc) (C := Tryd.checked) false (laidWorld os) #[.slice none 0 0] rfl (by kernel_rfl) (by kernel_rfl) (by kernel_rfl)
      (OpenSpec.preRow_of_cond 16 hx (by kernel_rfl) (fun k hk => by cases hk) (by kernel_rfl) (laid_met os))) ?_
  intro W base args ds gs before hval0 hW _ _ _ hL _ _
  have hval : ∀ (j : Nat) t v, Tryd.f3.params[j]? = some t → args[j]? = some v → Value.okWide Tryd.prog W .any base t v := hval0
  have hW' := hW
  obtain ⟨p, q, hA0, hV, rfl, hfz, hnd⟩ := hW
  have hA : DataW.TrodAll enc Tryd.prog W 0 (fun _ => true) true Tryd.f3.params.toList args.toList ds p := hA0
  rw [Tryd.params3] at hA hval
  obtain ⟨v0, vs0, d0, ds0, p0, q0, hargs, rfl, rfl, h0, r0⟩ := trodAll_cons hA
  obtain ⟨rfl, rfl, rfl⟩ := trodAll_nil r0
  obtain rfl : args = #[v0] := by cases args; simp_all
  obtain ⟨rfl, rfl⟩ := trodVars_none hV
  obtain ⟨zs0, hr0, wf0⟩ := open_pairs Tryd.underlying22 Tryd.underlying38 Tryd.underlying2 Tryd.underlying2 (by kernel_rfl) rfl rfl (by kernel_rfl) (by kernel_rfl) (hval 0 22 v0 rfl rfl) h0
  clear hA0 hval0
  refine (walk_FnExactChartText (w := W) _ zs0 hr0 wf0 (powTab_of (Lib.laidMet.reads (w := W) hL (.tail _ (.tail _ (.head _)))))).mono fun e W' ⟨he, hb⟩ => ?_
  subst he
  exact ⟨_, rfl, law_postV (B := 4) (by kernel_rfl) (by kernel_rfl) (by kernel_rfl) rfl Tryd.underlying4 hW' rfl hb⟩
theorem said : Rows.FnExactChartTextSaid :=
  OpenClaim.holds_of_cond 3 Tryd.f3 rfl rfl rfl rfl rfl rfl rfl ⟨rfl, rfl, rfl, rfl, rfl⟩ rfl rfl rfl rfl rfl (by kernel_rfl) Tryd.func3 (by kernel_rfl)
    (of_decide_eq_true (by kernel_rfl)) (by unfold Func.isWrapper; first | (rw [if_pos (by decide +kernel)]; kernel_rfl) | (rw [if_neg (by decide +kernel)]; exact ⟨rfl, rfl⟩))
    (fun os started H enc _ F => by rw [OpenClaim.pre_eq_preRow]; exact lifted os started H enc F)
theorem plain (f : FuncId) (fn : Func) (hf : Tryd.pinned.checked.prog.funcNamed "loop.example/g00932/laws.FnExactChartText" = some f) (hfn : Tryd.pinned.checked.prog.funcs[f]? = some fn) :
    true = Tryd.pinned.checked.prog.looks [] ∧ ∀ (j : Nat) t, fn.params[j]? = some t → Tryd.pinned.checked.prog.wantsStandIn t = false := by
  obtain rfl : f = 3 := Option.some.inj ((show Tryd.prog.funcNamed "loop.example/g00932/laws.FnExactChartText" = some 3 by kernel_rfl).symm.trans hf) |>.symm
  obtain rfl : fn = Tryd.f3 := (Option.some.inj (Tryd.func3.symm.trans hfn)).symm
  refine ⟨by kernel_rfl, fun j t ht => ?_⟩
  have hall : (Tryd.f3.params.toList.all fun t => !Tryd.pinned.checked.prog.wantsStandIn t) = true := by kernel_rfl
  have := List.all_eq_true.mp hall t (by simpa using Array.mem_of_getElem? ht)
  simpa using this
/-- The statement: the card of the law: for every input it returns true, the arguments and the listed variables read afterwards as before. -/
theorem proved : Rows.FnExactChartTextCardSaid :=
  Claim7.holds_tied_plain_at .later [] _ _ _ _ said (fun _ h => by cases h) (by kernel_rfl) (fun _ h => by cases h) fnExactChartText_row_tie rfl ⟨rfl, rfl⟩ (by kernel_rfl) rfl plain (by kernel_rfl)
end Go.Proofs.YtapnihkgalbddabDoor.fnExactChartText
