/- Proved: for every input the law FnExactBaseText returns true, and each argument reads afterwards as it read before; no condition beside those of the given row. -/
import Derived.Test.YtjdppjcmelflbabDoorRows
import Derived.WalkKit
import Derived.ProofKit
import Derived.OpenShut
import Derived.Lib.Hide
import Derived.Handy
import Derived.Carry
import Derived.Deep.RegionHeld3
import Derived.Lib.ItoaLen
import Derived.Lib.ItoaNum
import Derived.Lib.Join
import Derived.Lib.LaidTab
import Derived.Lib.LaidU8
import Derived.Shelf.Abstract
import Derived.Shelf.Strings.Builder1
import Derived.Shelf.Strings.Builder2
import Derived.Shelf.Strings.OnBuilder
import Derived.Shelf.Strconv.Itoa0
import Derived.Shelf.Strconv.Itoa1
import Derived.Shelf.LaysM
import Derived.Shelf.Strconv.Itoa2
import Derived.Shelf.Strconv.Itoa3
import Derived.Shelf.Strconv.Itoa4
import Derived.Test.YtjdppjcmelflbabDoorCards
import Derived.Test.YtjdppjcmelflbabDoorTie
import Derived.Lib.SmallJoins
import Derived.ChangeMaps5
import Derived.Deep.DeepHandedRow
import Derived.Deep.DeepWitnessRowRef
import Derived.Lib.LaidTab
import Derived.SevenTiedAt
namespace Go.Proofs
open Go.Shelf
def Tryd.lays156_ren : Go.Shelf.Ren := ⟨fun | 156 => 10 | 165 => 15 | 166 => 16 | 169 => 17 | 240 => 21 | 241 => 22 | 276 => 25 | 277 => 26 | n => n, fun | 31 => 31 | 9 => 9 | 3 => 3 | 4 => 4 | 0 => 0 | 20 => 20 | 72 => 41 | 76 => 45 | 70 => 39 | 37 => 37 | 75 => 44 | 127 => 50 | 164 => 52 | 5 => 5 | 80 => 47 | n => n, fun | n => n⟩
theorem Tryd.lays156 : Go.Proofs.Lays.n156 Tryd.prog Tryd.lays156_ren := {
  mixed := by kernel_rfl
  f156 := Tryd.func10.trans (congrArg some (by kernel_rfl))
  f165 := Tryd.func15.trans (congrArg some (by kernel_rfl))
  f166 := Tryd.func16.trans (congrArg some (by kernel_rfl))
  f169 := Tryd.func17.trans (congrArg some (by kernel_rfl))
  f240 := Tryd.func21.trans (congrArg some (by kernel_rfl))
  f241 := Tryd.func22.trans (congrArg some (by kernel_rfl))
  f276 := Tryd.func25.trans (congrArg some (by kernel_rfl))
  f277 := Tryd.func26.trans (congrArg some (by kernel_rfl))
  t0 := Tryd.underlying0
  a0 := Tryd.isAgg0
  z0 := Tryd.sizeOf0
  v0 := Tryd.zeroValue0
  t3 := Tryd.underlying3
  a3 := Tryd.isAgg3
  z3 := Tryd.sizeOf3
  v3 := Tryd.zeroValue3
  t4 := Tryd.underlying4
  a4 := Tryd.isAgg4
  z4 := Tryd.sizeOf4
  v4 := Tryd.zeroValue4
  t9 := Tryd.underlying9
  a9 := Tryd.isAgg9
  z9 := Tryd.sizeOf9
  v9 := Tryd.zeroValue9
  t20 := Tryd.underlying20
  a20 := Tryd.isAgg20
  z20 := Tryd.sizeOf20
  v20 := Tryd.zeroValue20
  t31 := Tryd.underlying31
  a31 := Tryd.isAgg31
  z31 := Tryd.sizeOf31
  v31 := Tryd.zeroValue31
  t37 := Tryd.underlying37
  a37 := Tryd.isAgg37
  z37 := Tryd.sizeOf37
  v37 := Tryd.zeroValue37
  t70 := Tryd.underlying39
  a70 := Tryd.isAgg39
  z70 := Tryd.sizeOf39
  v70 := Tryd.zeroValue39
  t72 := Tryd.underlying41
  a72 := Tryd.isAgg41
  z72 := Tryd.sizeOf41
  v72 := Tryd.zeroValue41
  t75 := Tryd.underlying44
  a75 := Tryd.isAgg44
  z75 := Tryd.sizeOf44
  v75 := Tryd.zeroValue44
  t76 := Tryd.underlying45
  a76 := Tryd.isAgg45
  z76 := Tryd.sizeOf45
  v76 := Tryd.zeroValue45
  t127 := Tryd.underlying50
  a127 := Tryd.isAgg50
  z127 := Tryd.sizeOf50
  v127 := Tryd.zeroValue50
  t164 := Tryd.underlying52
  a164 := Tryd.isAgg52
  z164 := Tryd.sizeOf52
  v164 := Tryd.zeroValue52 }
theorem Tryd.Builder_Extra_156 : Builder.Extra Tryd.prog Tryd.lays156_ren := {
  sizeBuilder := by kernel_rfl
  liesBuilder := by kernel_rfl
  t5 := Tryd.underlying5
  a5 := Tryd.isAgg5
  z5 := Tryd.sizeOf5
  v5 := Tryd.zeroValue5
  infoByte := by kernel_rfl
  cellsByte := by kernel_rfl
  sizeByte := by kernel_rfl
  neB5 := by decide }
open Go.RowKit in
/-- strings.Join: "Join concatenates the elements of its first argument to create a single string. The separator string sep is placed between elements in the resulting string.": HOWEVER MANY ELEMENTS. Below the heap's end the world is as it was. (LAID: no walk: one application.) -/
theorem Tryd.strings_Join (bk o c : Nat) (xs : List ByteArray) (sep : ByteArray) (w : World) (hcells : ∀ (j : Nat) x, xs[j]? = some x → w.cell? ⟨bk, o + j, none⟩ = some (.string x)) (hbk : bk < w.heap.size) (hN : xs.length ≤ 140737488355328) (hcap : xs.length ≤ c) (hlen : (Lib.join (xs.map (·.data.toList)) sep.data.toList).length ≤ 140737488355328) :
    Calls Tryd.prog 10 #[.slice (some ⟨bk, o, none⟩) xs.length c, .string sep] w fun e w' => e = .returned (.string ⟨(Lib.join (xs.map (·.data.toList)) sep.data.toList).toArray⟩) ∧ Below w.heap.size w w' := Any.strings_Join Tryd.lays156 Tryd.Builder_Extra_156 bk o c xs sep w hcells hbk hN hcap hlen
def Tryd.laysM173_ren : Go.Shelf.Ren := ⟨fun | 173 => 18 | 246 => 23 | 283 => 27 | 284 => 28 | 285 => 29 | 286 => 30 | 129 => 32 | 317 => 31 | 318 => 33 | 319 => 34 | 320 => 35 | 337 => 36 | 338 => 37 | n => n, fun | 2 => 2 | 3 => 3 | 9 => 9 | 4 => 4 | 171 => 56 | 0 => 0 | 53 => 57 | 37 => 37 | 5 => 5 | 173 => 60 | 212 => 64 | 51 => 65 | 20 => 20 | 213 => 66 | 46 => 68 | 232 => 71 | 233 => 72 | n => n, fun | 17 => 1 | 18 => 2 | 19 => 3 | n => n⟩
theorem Tryd.laysM173 : Go.Proofs.LaysM.n173 Tryd.prog Tryd.laysM173_ren := {
  mixed := by kernel_rfl
  f129 := Tryd.func32.trans (congrArg some (by kernel_rfl))
  f173 := Tryd.func18.trans (congrArg some (by kernel_rfl))
  f246 := Tryd.func23.trans (congrArg some (by kernel_rfl))
  f283 := Tryd.func27.trans (congrArg some (by kernel_rfl))
  f284 := Tryd.func28.trans (congrArg some (by kernel_rfl))
  f285 := Tryd.func29.trans (congrArg some (by kernel_rfl))
  f286 := Tryd.func30.trans (congrArg some (by kernel_rfl))
  f317 := Tryd.func31.trans (congrArg some (by kernel_rfl))
  f318 := Tryd.func33.trans (congrArg some (by kernel_rfl))
  f319 := Tryd.func34.trans (congrArg some (by kernel_rfl))
  f320 := Tryd.func35.trans (congrArg some (by kernel_rfl))
  f337 := Tryd.func36.trans (congrArg some (by kernel_rfl))
  f338 := Tryd.func37.trans (congrArg some (by kernel_rfl))
  t0 := Tryd.underlying0
  a0 := Tryd.isAgg0
  z0 := Tryd.sizeOf0
  v0 := Tryd.zeroValue0
  t2 := Tryd.underlying2
  a2 := Tryd.isAgg2
  z2 := Tryd.sizeOf2
  v2 := Tryd.zeroValue2
  t3 := Tryd.underlying3
  a3 := Tryd.isAgg3
  z3 := Tryd.sizeOf3
  v3 := Tryd.zeroValue3
  t4 := Tryd.underlying4
  a4 := Tryd.isAgg4
  z4 := Tryd.sizeOf4
  v4 := Tryd.zeroValue4
  t5 := Tryd.underlying5
  a5 := Tryd.isAgg5
  z5 := Tryd.sizeOf5
  v5 := Tryd.zeroValue5
  t9 := Tryd.underlying9
  a9 := Tryd.isAgg9
  z9 := Tryd.sizeOf9
  v9 := Tryd.zeroValue9
  t20 := Tryd.underlying20
  a20 := Tryd.isAgg20
  z20 := Tryd.sizeOf20
  v20 := Tryd.zeroValue20
  t37 := Tryd.underlying37
  a37 := Tryd.isAgg37
  z37 := Tryd.sizeOf37
  v37 := Tryd.zeroValue37
  t46 := Tryd.underlying68
  a46 := Tryd.isAgg68
  z46 := Tryd.sizeOf68
  v46 := Tryd.zeroValue68
  t51 := Tryd.underlying65
  a51 := Tryd.isAgg65
  z51 := Tryd.sizeOf65
  v51 := Tryd.zeroValue65
  t53 := Tryd.underlying57
  a53 := Tryd.isAgg57
  z53 := Tryd.sizeOf57
  v53 := Tryd.zeroValue57
  t171 := Tryd.underlying56
  a171 := Tryd.isAgg56
  z171 := Tryd.sizeOf56
  v171 := Tryd.zeroValue56
  t173 := Tryd.underlying60
  a173 := Tryd.isAgg60
  z173 := Tryd.sizeOf60
  v173 := Tryd.zeroValue60
  t212 := Tryd.underlying64
  a212 := Tryd.isAgg64
  z212 := Tryd.sizeOf64
  v212 := Tryd.zeroValue64
  t213 := Tryd.underlying66
  a213 := Tryd.isAgg66
  z213 := Tryd.sizeOf66
  t232 := Tryd.underlying71
  a232 := Tryd.isAgg71
  z232 := Tryd.sizeOf71
  v232 := Tryd.zeroValue71
  t233 := Tryd.underlying72
  a233 := Tryd.isAgg72
  z233 := Tryd.sizeOf72
  v233 := Tryd.zeroValue72
  g17 := by kernel_rfl
  g18 := by kernel_rfl
  g19 := by kernel_rfl
  i0 := by kernel_rfl
  i2 := by kernel_rfl
  i3 := by kernel_rfl
  i4 := by kernel_rfl
  i5 := by kernel_rfl
  i9 := by kernel_rfl
  i20 := by kernel_rfl
  i37 := by kernel_rfl
  i46 := by kernel_rfl
  i51 := by kernel_rfl
  i53 := by kernel_rfl
  i171 := by kernel_rfl
  i173 := by kernel_rfl
  i212 := by kernel_rfl
  i232 := by kernel_rfl
  i233 := by kernel_rfl
  m17 := by kernel_rfl
  m18 := by kernel_rfl
  m19 := by kernel_rfl }
open Go.RowKit Go.Sort Go.Lib in
/-- strconv.FormatInt: "FormatInt returns the string representation of i in the given base": AT BASE 10: i's decimal numeral, for every int64. (LAID: no walk: one application.) -/
theorem Tryd.strconv_FormatInt_10 (n : Int) (h0 : -9223372036854775808 ≤ n) (h1 : n ≤ 9223372036854775807) (w : World) (htab : Lib.TabIs Tryd.prog w "internal/strconv.uint64pow10" .u64 Lib.pow10Tab) :
    Calls Tryd.prog 18 #[.int .i64 n, .int .i64 10] w fun e w' => e = .returned (.string ⟨(Lib.itoa n).toArray⟩) ∧ ∃ k os, w' = grow (w.drewN k) os := Any.strconv_FormatInt_10 Tryd.laysM173 n h0 h1 w htab
end Go.Proofs
namespace Go.Proofs.YtjdppjcmelflbabDoor
open Go.ChangeShapes Go.WideShapes Go.ChangeAt Go.RowKit
set_option linter.unusedVariables false
set_option linter.unusedSimpArgs false

theorem trodAll_stay {H : Type} {enc : TypeId × Value → H} {P : Program} (hl : laidOutB P = true) {W W' : World} (hb : Below W.heap.size W W') :
    ∀ (ts : List TypeId) (vs : List Value) (ds : List (DataW H)) (ps : List MemPlace), ts.all (fun t => P.readableRec t && decide (t < P.types.size)) = true →
      DataW.TrodAll enc P W 0 (fun _ => true) true ts vs ds ps → (∀ x ∈ ps, x.block < W.heap.size) →
      DataW.TrodAll enc P W' 0 (fun b => decide (b < W.heap.size)) true ts vs ds ps := by
  intro ts
  induction ts with
  | nil => intro vs ds ps _ h _; obtain ⟨rfl, rfl, rfl⟩ := trodAll_nil h; exact rfl
  | cons t ts ih =>
    intro vs ds ps hr h hlt
    simp only [List.all_cons, Bool.and_eq_true, decide_eq_true_eq] at hr
    obtain ⟨v, vs', d, ds', p, q, rfl, rfl, rfl, h0, h1⟩ := trodAll_cons h
    exact ⟨p, q, Below.trod hl hr.1.1 hr.1.2 h0 hb (fun x hx => hlt x (by simp [hx])), ih _ _ _ hr.2 h1 (fun x hx => hlt x (by simp [hx])), rfl⟩

/-- Each variable's type is one that can be read. -/
def varsOk (P : Program) (ns : List String) : Bool := ns.all fun n => match P.globalNamed n with
  | some g => (match (P.globals[g]?).map (·.type) with | some t => P.readableRec t && decide (t < P.types.size) | none => true)
  | none => true

theorem trodVars_stay {H : Type} {enc : TypeId × Value → H} {P : Program} (hl : laidOutB P = true) {W W' : World} (hb : Below W.heap.size W W') :
    ∀ (ns : List String) (gs : List (DataW H)) (ps : List MemPlace), varsOk P ns = true → DataW.TrodVars enc P W (fun _ => true) ns gs ps → (∀ x ∈ ps, x.block < W.heap.size) →
      DataW.TrodVars enc P W' (fun b => decide (b < W.heap.size)) ns gs ps := by
  intro ns
  induction ns with
  | nil => intro gs ps _ h _; obtain ⟨rfl, rfl⟩ := trodVars_none h; exact rfl
  | cons n ns ih =>
    intro gs ps hv h hlt
    cases gs with
    | nil => exact h.elim
    | cons d gs =>
      obtain ⟨g, t, cs, fuel, p, q, hg, ht, hvar, hd, hr, rfl⟩ := h
      simp only [varsOk, List.all_cons, Bool.and_eq_true] at hv
      have hv1 := hv.1
      rw [hg] at hv1
      simp only [ht, Bool.and_eq_true, decide_eq_true_eq] at hv1
      have hgl : g < W.heap.size := by
        simp only [World.var?, hg, Option.bind_some] at hvar
        rcases Nat.lt_or_ge g W.heap.size with hlt | hge
        · exact hlt
        · rw [Array.getElem?_eq_none hge] at hvar; simp at hvar
      have h0 : DataW.Trod enc P W 0 (fun _ => true) true t (.agg cs) d p := ⟨fuel, by simpa [Value.cells] using hd⟩
      obtain ⟨fuel', hd'⟩ := Below.trod hl hv1.1 hv1.2 h0 hb (fun x hx => hlt x (by simp [hx]))
      refine ⟨g, t, cs, fuel', p, q, hg, ht, ?_, by simpa [Value.cells] using hd', ih _ _ hv.2 hr (fun x hx => hlt x (by simp [hx])), rfl⟩
      simp only [World.var?, hg, Option.bind_some] at hvar ⊢
      rw [hb.block g hgl]
      exact hvar

/-- A law's row at its end, the listed variables too: it returned true, and of what was there nothing has turned. -/
theorem law_postV {H : Type} {enc : TypeId × Value → H} {P : Program} {f : Func} {s : ChangeSpec} {W W' : World} {args : Array Value} {ds gs : List (DataW H)} {before : List MemPlace} {B : TypeId}
    (hl : laidOutB P = true) (hr : f.params.toList.all (fun t => P.readableRec t && decide (t < P.types.size)) = true) (hvs : varsOk P s.vars = true)
    (hres : f.resultTypes = #[B]) (hB : P.underlying B = some .bool)
    (hW : DataW.Whole enc P f.params.toList s.vars false W args.toList ds gs before)
    (hfn : s.fn H (ds ++ gs) = { results := [.lit (.bool true)], args := ds, vars := gs }) (hb : Below W.heap.size W W') :
    s.post enc P f false true false false W args (.bool true) W' := by
  have hlt : ∀ p ∈ before, p.block < W.heap.size := fun p hp => hW.lt p hp
  have hW' := hW
  obtain ⟨p, q, hA, hV, rfl, _, _⟩ := hW'
  refine ⟨ds, gs, p ++ q, [], p, q, hW, ?_, ?_, ?_, hb.frame _, fun h => by cases h⟩
  · rw [hfn, hres]
    exact trodAll_cons_mk (shut_bool hB _) trodAll_mk0
  · rw [hfn]
    exact trodAll_stay hl hb _ _ _ _ hr hA (fun x hx => hlt x (by simp [hx]))
  · rw [hfn]
    exact trodVars_stay hl hb _ _ _ hvs hV (fun x hx => hlt x (by simp [hx]))

theorem vars_one {H : Type} {enc : TypeId × Value → H} {P : Program} {W : World} {sp : Nat → Bool} {n : String} {gs : List (DataW H)} {q : List MemPlace} (h : DataW.TrodVars enc P W sp [n] gs q) : ∃ g1, gs = [g1] := by
  cases gs with
  | nil => exact h.elim
  | cons g gs =>
    obtain ⟨_, _, _, _, _, _, _, _, _, _, hr, _⟩ := h
    obtain ⟨rfl, _⟩ := trodVars_none hr
    exact ⟨_, rfl⟩

theorem vars_len {H : Type} {enc : TypeId × Value → H} {P : Program} {W : World} {sp : Nat → Bool} : ∀ (ns : List String) (gs : List (DataW H)) (q : List MemPlace), DataW.TrodVars enc P W sp ns gs q → gs.length = ns.length := by
  intro ns
  induction ns with
  | nil => intro gs q h; obtain ⟨rfl, _⟩ := trodVars_none h; rfl
  | cons n ns ih =>
    intro gs q h
    cases gs with
    | nil => exact h.elim
    | cons g gs =>
      obtain ⟨_, _, _, _, _, _, _, _, _, _, hr, _⟩ := h
      simp [ih _ _ hr]

theorem vars_three {H : Type} {enc : TypeId × Value → H} {P : Program} {W : World} {sp : Nat → Bool} {n1 n2 n3 : String} {gs : List (DataW H)} {q : List MemPlace} (h : DataW.TrodVars enc P W sp [n1, n2, n3] gs q) : ∃ g1 g2 g3, gs = [g1, g2, g3] := by
  have := vars_len _ _ _ h
  match gs, this with
  | [g1, g2, g3], _ => exact ⟨_, _, _, rfl⟩

theorem vars_two {H : Type} {enc : TypeId × Value → H} {P : Program} {W : World} {sp : Nat → Bool} {n1 n2 : String} {gs : List (DataW H)} {q : List MemPlace} (h : DataW.TrodVars enc P W sp [n1, n2] gs q) : ∃ g1 g2, gs = [g1, g2] := by
  have := vars_len _ _ _ h
  match gs, this with
  | [g1, g2], _ => exact ⟨_, _, rfl⟩

theorem kept_cell {W w1 : World} (hb : Below W.heap.size W w1) (b o : Nat) (h : b < W.heap.size) : w1.cell? ⟨b, o, none⟩ = W.cell? ⟨b, o, none⟩ := hb.cell (p := ⟨b, o, none⟩) h

theorem kept_frozen {W w1 : World} (hb : Below W.heap.size W w1) (b o : Nat) (h : b < W.heap.size) : w1.frozen? ⟨b, o, none⟩ = W.frozen? ⟨b, o, none⟩ := hb.frozen (p := ⟨b, o, none⟩) h

theorem kept_trans {a b c : World} (h : Below a.heap.size a b) (k : Below b.heap.size b c) : Below a.heap.size a c := h.trans (k.mono h.size)

theorem kept_at {W w1 : World} (hb : Below W.heap.size W w1) (b : Nat) {G : Prop} (h : b < W.heap.size)
    (k : (∀ o, w1.cell? ⟨b, o, none⟩ = W.cell? ⟨b, o, none⟩) → (∀ o, w1.frozen? ⟨b, o, none⟩ = W.frozen? ⟨b, o, none⟩) → b < w1.heap.size → G) : G :=
  k (fun o => kept_cell hb b o h) (fun o => kept_frozen hb b o h) (Nat.lt_of_lt_of_le h hb.size)

theorem grown_below {a b c : World} {row : Option Nat} (h : Below a.heap.size a b) (k : b.grownBy c row) (hr : ∀ g, row = some g → a.heap.size ≤ g) : Below a.heap.size a c := h.grown k h.size hr

def inB (n low high : Int) : Bool := decide (low ≤ n) && decide (n ≤ high)

theorem in_any (n low high : Int) (w : World) :
    Calls Tryd.prog 12 #[.int .i64 n, .int .i64 low, .int .i64 high] w fun e w' => e = .returned (.bool (inB n low high)) ∧ w = w' := by
  unfold inB
  by_cases h1 : low ≤ n <;> by_cases h2 : n ≤ high <;>
  · go_enter Tryd.func12, Tryd.ntmps12
    go_wp2
    go_ret
    exact ⟨by simp [*], rfl⟩

theorem inB_true {n a b : Int} (h : inB n a b = true) : a ≤ n ∧ n ≤ b := by simpa [inB] using h

/-- The slice value reads as a list of numbers. -/
def RdI (w : World) (v : Value) (zs : List Int) : Prop :=
  zs.length ≤ 9223372036854775807 ∧ ∃ A c, v = .slice A zs.length c ∧ ∀ k, (hk : k < zs.length) → ∃ b off, A = some ⟨b, off, none⟩ ∧ b < w.heap.size ∧ w.cell? ⟨b, off + k, none⟩ = some (.int .i64 zs[k])

theorem RdI_kept {W w1 : World} {v : Value} {zs : List Int} (h : RdI W v zs) (hb : Below W.heap.size W w1) : RdI w1 v zs := by
  obtain ⟨hl, A, c, rfl, hr⟩ := h
  refine ⟨hl, A, c, rfl, fun k hk => ?_⟩
  obtain ⟨b, off, e, hlt, hc⟩ := hr k hk
  exact ⟨b, off, e, Nat.lt_of_lt_of_le hlt hb.size, by rw [kept_cell hb b _ hlt]; exact hc⟩

/-- A row of elements of the call's own (type e, sz cells each), in a block from lo on and below hi. -/
def RowF (e sz : Nat) (w : World) (lo hi : Nat) (v : Value) (n : Nat) (xs : List Value) : Prop :=
  w.ownsRow lo e sz v n xs ∧ ∀ g, v.ownBlock = some g → lo ≤ g ∧ g < hi

theorem RowF_form {e sz : Nat} {w : World} {lo hi : Nat} {v : Value} {n : Nat} {xs : List Value} (h : RowF e sz w lo hi v n xs) :
    (n = 0 ∧ xs = [] ∧ v = .slice none 0 0) ∨ ∃ g cap, v = .slice (some ⟨g, 0, none⟩) n cap ∧ lo ≤ g ∧ g < hi ∧ g < w.heap.size ∧ n ≤ cap ∧ cap ≤ maxLen := by
  rcases h.1.2 with ⟨h1, h2⟩ | ⟨g, cap, cur, rfl, hg, hh, h3, h4, _⟩
  · exact Or.inl ⟨h2, List.eq_nil_of_length_eq_zero (by rw [h.1.1, h2, Nat.zero_mul]), h1⟩
  · exact Or.inr ⟨g, cap, rfl, hg, (h.2 g rfl).2, (h.1.lt g rfl).2, h3, h4⟩

/-- The digits of a number, none of 0. -/
def dd (u : Nat) : List UInt8 := if u = 0 then [] else Lib.decDigits u

theorem dd_step (u : Nat) (h : u ≠ 0) : dd u = dd (u / 10) ++ [UInt8.ofNat (48 + u % 10)] := by
  unfold dd
  rw [if_neg h, Lib.decDigits]
  by_cases h1 : u < 10
  · rw [dif_pos h1, if_pos (by omega), Nat.mod_eq_of_lt h1]
    rfl
  · rw [dif_neg h1, if_neg (by omega)]

/-- A byte's cell. -/
def byteV (b : UInt8) : Value := .int .u8 (b.toNat : Int)

theorem info_byte : (Tryd.prog.info? 5).map (fun i => (i.zero, i.size, i.bytes)) = some (some (.int .u8 0), 1, 1) := by kernel_rfl

theorem dd_len (m : Nat) (h : m ≤ 9223372036854775808) : (dd m).length ≤ 20 := by
  unfold dd
  split
  · simp
  · rw [Lib.decDigits_length]
    exact Lib.nDigits_le20 m (by omega)

theorem row_news {w : World} {lo g cap : Nat} {bs : List UInt8} (h : w.ownsRow lo 5 1 (.slice (some ⟨g, 0, none⟩) bs.length cap) bs.length (bs.map byteV)) : ∀ j u, (bs.map byteV)[j]? = some u → w.cell? ((⟨g, 0, none⟩ : Addr).add j) = some u :=
  World.ownsRow.cells h rfl

theorem row_string {w : World} {lo g cap : Nat} {bs : List UInt8} (h : w.ownsRow lo 5 1 (.slice (some ⟨g, 0, none⟩) bs.length cap) bs.length (bs.map byteV)) :
    (convert 37 9 (.slice (some ⟨g, 0, none⟩) bs.length cap)).run Tryd.prog w = .ok (.string ⟨bs.toArray⟩) w :=
  run_convert_bytes_back (P := Tryd.prog) w 37 9 5 ⟨g, 0, none⟩ cap bs Tryd.underlying37 Tryd.underlying5 Tryd.underlying9 (fun j hj => row_news h j _ (by simp [hj, byteV]))

theorem byte_one (bs : List UInt8) : ∀ u ∈ bs.map byteV, u.oneCell' = true := by
  intro u hu
  obtain ⟨b, _, rfl⟩ := List.mem_map.1 hu
  rfl

/-- The loop of digits: what is left of m, and what is written. -/
def DecR (m : Nat) (w wr : World) (o : Value) (u : Nat) : Prop :=
  ∃ (bs : List UInt8) (g cap : Nat), dd m = dd u ++ bs ∧ o = .slice (some ⟨g, 0, none⟩) bs.length cap ∧ wr.ownsRow w.heap.size 5 1 o bs.length (bs.map byteV) ∧ Below w.heap.size w wr ∧ w.heap.size < wr.heap.size

set_option maxRecDepth 100000 in
theorem specDec_pos (m : Nat) (hm : m ≤ 9223372036854775807) (w : World) :
    Calls Tryd.prog 8 #[.int .i64 (m : Int)] w fun e w' => e = .returned (.string ⟨(Lib.itoa (m : Int)).toArray⟩) ∧ Below w.heap.size w w' := by
  obtain ⟨i0, hi, hz0, hz1, hz2⟩ := info_parts info_byte
  have hdl := dd_len m (by omega)
  have hF : Lib.itoa (m : Int) = Lib.decDigits m := by unfold Lib.itoa; rw [if_neg (by omega)]; simp
  rw [hF]
  clear hF
  have HR := Lib.hid (rfl : Lib.decDigits m = Lib.decDigits m)
  have hgen : ∃ F, Lib.decDigits m = F ∧ (m = 0 → F = [48]) ∧ (m ≠ 0 → F = dd m) := ⟨_, rfl, fun h => by rw [h, Lib.decDigits, dif_pos (by omega)]; rfl, fun h => by rw [dd, if_neg h]⟩
  obtain ⟨F, hF, hF0, hF1⟩ := hgen
  rw [hF]
  clear hF HR
  have HF0 := Lib.hid hF0; clear hF0
  have HF1 := Lib.hid hF1; clear hF1
  go_enter Tryd.func8, Tryd.ntmps8
  go_wp2_with fail
  go_loopw [3, 4] (fun o k wr => ∃ u : Nat, u ≤ m ∧ k = .int .i64 (u : Int) ∧ DecR m w wr o u) (fun _ k _ => (intOf k).toNat)
  case atStart => exact ⟨m, Nat.le_refl _, rfl, [], w.heap.size, 0, by simp, rfl, by simpa using World.ownsRow_lit w (e := 5) (size := 1) #[] 0 (Nat.le_refl _) (by decide) (by rfl), by go_grown, by simp⟩
  case round =>
    obtain ⟨u, hu, rfl, bs, g, cap, hdd, rfl, hown, hb, hlw⟩ := hrel
    by_cases h0 : u = 0
    · subst h0
      have hbs : dd m = bs := by simpa [dd] using hdd
      have hcv := row_string hown
      by_cases hm0 : m = 0
      · have hl0 : bs = [] := by rw [← hbs, hm0]; rfl
        subst hl0
        have HO := Lib.hid hown; clear hown
        go_wp2
        go_ret
        exact ⟨by rw [HF0.out hm0]; rfl, hb⟩
      · have hne : ((bs.length : Int) == 0) = false := by
          have : bs ≠ [] := by
            rw [← hbs, dd_step m hm0]
            simp
          have := List.length_pos_iff.2 this
          simp
          omega
        have HO := Lib.hid hown; clear hown
        have HB := Lib.hid hbs; clear hbs hdd
        go_wp2
        go_ret
        exact ⟨by rw [HF1.out hm0, HB.out]; rfl, hb⟩
    · have hst := dd_step u h0
      rw [hst, List.append_assoc] at hdd
      have hlen : bs.length ≤ 20 := by
        have := congrArg List.length hdd
        simp at this
        omega
      have hmod : (u : Int).tmod 10 = ((u % 10 : Nat) : Int) := by rw [Int.tmod_eq_emod_of_nonneg (by omega)]; omega
      have hdiv : (u : Int).tdiv 10 = ((u / 10 : Nat) : Int) := by rw [Int.tdiv_eq_ediv_of_nonneg (by omega)]; omega
      have hd10 : u % 10 < 10 := Nat.mod_lt _ (by omega)
      have hbyte : byteV (UInt8.ofNat (48 + u % 10)) = .int .u8 ((48 : Int) + ((u % 10 : Nat) : Int)) := by
        simp only [byteV]
        rw [UInt8.toNat_ofNat_of_lt' (by have : UInt8.size = 256 := rfl; omega)]
        push_cast
        rfl
      have hsz := hb.size
      have hlt10 : u / 10 < u := Nat.div_lt_self (by omega) (by omega)
      have HD := Lib.hid hdd; clear hdd hst
      have HBY := Lib.hid hbyte; clear hbyte
      generalize u / 10 = q at *
      generalize u % 10 = d at *
      have hw8 : IntKind.u8.wrap ((48 : Int) + (d : Int)) = 48 + (d : Int) := IntWalk.u8_in _ (by omega)
      have HO := Lib.hid hown; clear hown
      have hlit := World.ownsRow_lit wr (base := w.heap.size) (e := 5) (size := 1) #[.int .u8 ((48 : Int) + (d : Int))] 1 hsz (by decide) (by rfl)
      have HL := Lib.hid hlit; clear hlit
      have hone := byte_one bs
      have HONE := Lib.hid hone; clear hone
      go_wp2_with (at_builtin; refine wpList_append_own _ rfl (.tmp 21) (.tmp 22) _ rfl w.heap.size 5 i0 (.int .u8 0) 1 1 Tryd.underlying37 hi hz0 hz1 hz2 rfl (by decide) (.slice (some ⟨wr.heap.size, 0, none⟩) 1 1) 1 [.int .u8 ((48 : Int) + (d : Int))] rfl HL.out ⟨g, 0, none⟩ bs.length cap (bs.map byteV) rfl (by simp) (row_news (HO.out.alloc _)) HONE.out (by unfold maxLen; omega) (by omega) (by simp; omega) ?_; intro v2 w2 hown2 hg2 _)
      go_roundw
      case rel =>
        have hrow2 : RowF 5 1 w2 w.heap.size w2.heap.size v2 (1 + bs.length) ([.int .u8 ((48 : Int) + (d : Int))] ++ bs.map byteV) := ⟨hown2, hown2.lt⟩
        have hb2 : Below w.heap.size w w2 := grown_below (kept_trans hb (by go_grown)) hg2 (fun x hx => by simp [Value.ownBlock] at hx; omega)
        rcases RowF_form hrow2 with ⟨hz, _⟩ | ⟨g2, cap2, hv, _, _, hlt2, _, _⟩
        · omega
        · refine ⟨q, by omega, by go_num, UInt8.ofNat (48 + d) :: bs, g2, cap2, by simpa using HD.out, by rw [hv, List.length_cons, Nat.add_comm], ?_, hb2, ?_⟩
          · rw [List.map_cons, HBY.out, List.length_cons, Nat.add_comm bs.length 1]
            exact hown2
          · have := hg2.size
            simp at this
            omega
      case measure => simp [intOf]; omega

set_option maxRecDepth 100000 in
theorem specDec_neg (m : Nat) (h1m : 1 ≤ m) (hm : m ≤ 9223372036854775808) (w : World) :
    Calls Tryd.prog 8 #[.int .i64 (-(m : Int))] w fun e w' => e = .returned (.string ⟨(Lib.itoa (-(m : Int))).toArray⟩) ∧ Below w.heap.size w w' := by
  obtain ⟨i0, hi, hz0, hz1, hz2⟩ := info_parts info_byte
  have hdl := dd_len m (by omega)
  have hF : Lib.itoa (-(m : Int)) = 45 :: dd m := by unfold Lib.itoa dd; rw [if_pos (by omega), if_neg (by omega)]; simp
  rw [hF]
  clear hF
  go_enter Tryd.func8, Tryd.ntmps8
  go_wp2_with fail
  go_loopw [3, 4] (fun o k wr => ∃ u : Nat, u ≤ m ∧ k = .int .i64 (-(u : Int)) ∧ DecR m w wr o u) (fun _ k _ => (-(intOf k)).toNat)
  case atStart => exact ⟨m, Nat.le_refl _, rfl, [], w.heap.size, 0, by simp, rfl, by simpa using World.ownsRow_lit w (e := 5) (size := 1) #[] 0 (Nat.le_refl _) (by decide) (by rfl), by go_grown, by simp⟩
  case round =>
    obtain ⟨u, hu, rfl, bs, g, cap, hdd, rfl, hown, hb, hlw⟩ := hrel
    by_cases h0 : u = 0
    · subst h0
      have hbs : dd m = bs := by simpa [dd] using hdd
      have hcv := row_string hown
      have hne : ((bs.length : Int) == 0) = false := by
        have : bs ≠ [] := by
          rw [← hbs, dd_step m (by omega)]
          simp
        have := List.length_pos_iff.2 this
        simp
        omega
      have hcat : (ByteArray.mk #[45]) ++ (ByteArray.mk bs.toArray) = ByteArray.mk (45 :: bs).toArray := by
        apply ByteArray.ext
        simp [ByteArray.data_append]
      have hbl : bs.length ≤ 20 := by rw [← hbs]; exact hdl
      have HO := Lib.hid hown; clear hown
      have HB := Lib.hid hbs; clear hbs hdd
      go_wp2
      go_ret
      exact ⟨by rw [HB.out]; rfl, hb⟩
    · have hst := dd_step u h0
      rw [hst, List.append_assoc] at hdd
      have hlen : bs.length ≤ 20 := by
        have := congrArg List.length hdd
        simp at this
        omega
      have hmod : (-(u : Int)).tmod 10 = -((u % 10 : Nat) : Int) := by rw [Int.neg_tmod, Int.tmod_eq_emod_of_nonneg (by omega)]; omega
      have hdiv : (-(u : Int)).tdiv 10 = -((u / 10 : Nat) : Int) := by rw [Int.neg_tdiv, Int.tdiv_eq_ediv_of_nonneg (by omega)]; omega
      have hd10 : u % 10 < 10 := Nat.mod_lt _ (by omega)
      have hbyte : byteV (UInt8.ofNat (48 + u % 10)) = .int .u8 ((48 : Int) + ((u % 10 : Nat) : Int)) := by
        simp only [byteV]
        rw [UInt8.toNat_ofNat_of_lt' (by have : UInt8.size = 256 := rfl; omega)]
        push_cast
        rfl
      have hsz := hb.size
      have hlt10 : u / 10 < u := Nat.div_lt_self (by omega) (by omega)
      have HD := Lib.hid hdd; clear hdd hst
      have HBY := Lib.hid hbyte; clear hbyte
      generalize u / 10 = q at *
      generalize u % 10 = d at *
      have hw8 : IntKind.u8.wrap ((48 : Int) + (d : Int)) = 48 + (d : Int) := IntWalk.u8_in _ (by omega)
      have HO := Lib.hid hown; clear hown
      have hlit := World.ownsRow_lit wr (base := w.heap.size) (e := 5) (size := 1) #[.int .u8 ((48 : Int) + (d : Int))] 1 hsz (by decide) (by rfl)
      have HL := Lib.hid hlit; clear hlit
      have hone := byte_one bs
      have HONE := Lib.hid hone; clear hone
      by_cases hd0 : d = 0
      · subst hd0
        go_wp2_with (at_builtin; refine wpList_append_own _ rfl (.tmp 21) (.tmp 22) _ rfl w.heap.size 5 i0 (.int .u8 0) 1 1 Tryd.underlying37 hi hz0 hz1 hz2 rfl (by decide) (.slice (some ⟨wr.heap.size, 0, none⟩) 1 1) 1 [.int .u8 48] rfl HL.out ⟨g, 0, none⟩ bs.length cap (bs.map byteV) rfl (by simp) (row_news (HO.out.alloc _)) HONE.out (by unfold maxLen; omega) (by omega) (by simp; omega) ?_; intro v2 w2 hown2 hg2 _)
        go_roundw
        case rel =>
          have hrow2 : RowF 5 1 w2 w.heap.size w2.heap.size v2 (1 + bs.length) ([.int .u8 48] ++ bs.map byteV) := ⟨hown2, hown2.lt⟩
          have hb2 : Below w.heap.size w w2 := grown_below (kept_trans hb (by go_grown)) hg2 (fun x hx => by simp [Value.ownBlock] at hx; omega)
          rcases RowF_form hrow2 with ⟨hz, _⟩ | ⟨g2, cap2, hv, _, _, hlt2, _, _⟩
          · omega
          · refine ⟨q, by omega, by go_num, UInt8.ofNat 48 :: bs, g2, cap2, by simpa using HD.out, by rw [hv, List.length_cons, Nat.add_comm], ?_, hb2, ?_⟩
            · rw [List.map_cons, show byteV (UInt8.ofNat 48) = .int .u8 48 from rfl, List.length_cons, Nat.add_comm bs.length 1]
              exact hown2
            · have := hg2.size
              simp at this
              omega
        case measure => simp [intOf]; omega
      · have hdn : decide (-(d : Int) < 0) = true := by simp; omega
        go_wp2_with (at_builtin; refine wpList_append_own _ rfl (.tmp 21) (.tmp 22) _ rfl w.heap.size 5 i0 (.int .u8 0) 1 1 Tryd.underlying37 hi hz0 hz1 hz2 rfl (by decide) (.slice (some ⟨wr.heap.size, 0, none⟩) 1 1) 1 [.int .u8 ((48 : Int) + (d : Int))] rfl HL.out ⟨g, 0, none⟩ bs.length cap (bs.map byteV) rfl (by simp) (row_news (HO.out.alloc _)) HONE.out (by unfold maxLen; omega) (by omega) (by simp; omega) ?_; intro v2 w2 hown2 hg2 _)
        go_roundw
        case rel =>
          have hrow2 : RowF 5 1 w2 w.heap.size w2.heap.size v2 (1 + bs.length) ([.int .u8 ((48 : Int) + (d : Int))] ++ bs.map byteV) := ⟨hown2, hown2.lt⟩
          have hb2 : Below w.heap.size w w2 := grown_below (kept_trans hb (by go_grown)) hg2 (fun x hx => by simp [Value.ownBlock] at hx; omega)
          rcases RowF_form hrow2 with ⟨hz, _⟩ | ⟨g2, cap2, hv, _, _, hlt2, _, _⟩
          · omega
          · refine ⟨q, by omega, by go_num, UInt8.ofNat (48 + d) :: bs, g2, cap2, by simpa using HD.out, by rw [hv, List.length_cons, Nat.add_comm], ?_, hb2, ?_⟩
            · rw [List.map_cons, HBY.out, List.length_cons, Nat.add_comm bs.length 1]
              exact hown2
            · have := hg2.size
              simp at this
              omega
        case measure => simp [intOf]; omega

theorem specDec_any (n : Int) (h : -9223372036854775808 ≤ n ∧ n ≤ 9223372036854775807) (w : World) :
    Calls Tryd.prog 8 #[.int .i64 n] w fun e w' => e = .returned (.string ⟨(Lib.itoa n).toArray⟩) ∧ Below w.heap.size w w' := by
  rcases Int.lt_or_le n 0 with h0 | h0
  · obtain ⟨m, rfl⟩ : ∃ m : Nat, n = -(m : Int) := ⟨n.natAbs, by omega⟩
    exact specDec_neg m (by omega) (by omega) w
  · obtain ⟨m, rfl⟩ : ∃ m : Nat, n = (m : Int) := ⟨n.toNat, by omega⟩
    exact specDec_pos m (by omega) w

/-- New blocks behind the heap alone. -/
theorem below_ext {w w1 : World} (os : Array Obj) (h1 : w1.heap = w.heap ++ os) (h2 : w1.os = w.os) (h3 : w1.tape = w.tape) (h4 : w1.output = w.output) : Below w.heap.size w w1 where
  os := h2
  tape := h3
  output := h4
  size := by rw [h1]; simp
  block := fun i hi => by rw [h1]; simp [Array.getElem?_append, hi]

/-- The table of the powers of ten. -/
def PowTab (w : World) : Prop := Lib.TabIs Tryd.prog w "internal/strconv.uint64pow10" .u64 Lib.pow10Tab

theorem tab_kept {W w1 : World} {name : String} {k : IntKind} {zs : List Int} (h : Lib.TabIs Tryd.prog W name k zs) (hb : Below W.heap.size W w1) : Lib.TabIs Tryd.prog w1 name k zs := by
  unfold Lib.TabIs World.var? at *
  cases hg : (Tryd.prog).globalNamed name with
  | none => simp [hg] at h
  | some g =>
    simp only [hg, Option.bind_some] at h ⊢
    rcases Nat.lt_or_ge g W.heap.size with hlt | hge
    · rw [hb.block g hlt]
      exact h
    · rw [Array.getElem?_eq_none hge] at h
      simp at h

theorem tabIs_of_reads {P : Program} {W : World} {name : String} {k : IntKind} {zs : List Int} {g : Nat} {t e : TypeId} {n : Nat}
    (hg : P.globalNamed name = some g) (hty : (P.globals[g]?).map (·.type) = some t) (ht : P.underlying t = some (.array n e)) (he : P.underlying e = some (.int k)) (hce : P.cellsOf e = 1) (hct : P.cellsOf t = n)
    (h : Lib.VarReads P W name (Lib.tabData k zs)) : Lib.TabIs P W name k zs := by
  obtain ⟨g', t', cs, fuel, p, hg', ht', hvar, hd⟩ := h
  obtain rfl := Option.some.inj (hg.symm.trans hg')
  obtain rfl := Option.some.inj (hty.symm.trans ht')
  unfold Lib.TabIs
  rw [hvar, ← Lib.cells_of_tab ht he hce hct hd]

theorem powTab_of {W : World} (h : Lib.VarReads Tryd.prog W "internal/strconv.uint64pow10" Rows.laid_internal_strconv_uint64pow10) : PowTab W :=
  tabIs_of_reads (g := 1) (t := 64) (e := 57) (n := 20) (by kernel_rfl) (by kernel_rfl) Tryd.underlying64 Tryd.underlying57 (by kernel_rfl) (by kernel_rfl) h

theorem implDecimal_any (n : Int) (h : -9223372036854775808 ≤ n ∧ n ≤ 9223372036854775807) (w : World) (ht : PowTab w) :
    Calls Tryd.prog 11 #[.int .i64 n] w fun e w' => e = .returned (.string ⟨(Lib.itoa n).toArray⟩) ∧ Below w.heap.size w w' := by
  have H := Lib.hid (Tryd.strconv_FormatInt_10 n h.1 h.2 w ht)
  generalize Lib.itoa n = F at *
  go_enter Tryd.func11, Tryd.ntmps11
  go_wp2_with fail
  refine H.out.mono ?_
  rintro e w1 ⟨rfl, k, os, hw⟩
  have hb : Below w.heap.size w w1 := below_ext os (by rw [hw]; rfl) (by rw [hw]; rfl) (by rw [hw]; rfl) (by rw [hw]; rfl)
  clear hw
  go_wp2
  go_ret
  exact ⟨rfl, hb⟩

theorem cat_size (l : List UInt8) : (ByteArray.mk l.toArray).size = l.length := by simp [ByteArray.size]

/-- The first place at which p holds; -1 if there is none. -/
def idxL {α : Type} (p : α → Bool) (zs : List α) : Int := if zs.findIdx p < zs.length then (zs.findIdx p : Int) else -1

theorem idxL_is {α : Type} {p : α → Bool} {zs : List α} {k : Nat} (h : k < zs.length) (hk : p zs[k] = true) (hb : ∀ j (hj : j < zs.length), j < k → p zs[j] = false) : idxL p zs = (k : Int) := by
  unfold idxL
  have e : zs.findIdx p = k := by
    rw [List.findIdx_eq h]
    exact ⟨hk, fun j hj => hb j (by omega) hj⟩
  rw [e, if_pos h]

theorem idxL_none {α : Type} {p : α → Bool} {zs : List α} (hb : ∀ j (hj : j < zs.length), p zs[j] = false) : idxL p zs = -1 := by
  unfold idxL
  have e : zs.findIdx p = zs.length := by
    rw [List.findIdx_eq_length]
    intro x hx
    obtain ⟨i, hi, rfl⟩ := List.mem_iff_getElem.1 hx
    exact hb i hi
  rw [e, if_neg (by omega)]

theorem idxL_any {α : Type} (p : α → Bool) (zs : List α) : decide (0 ≤ idxL p zs) = zs.any p := by
  unfold idxL
  by_cases h : zs.findIdx p < zs.length
  · rw [if_pos h]
    have := List.findIdx_lt_length.1 h
    simp
    obtain ⟨x, hx, hp⟩ := this
    exact ⟨x, hx, hp⟩
  · rw [if_neg h]
    have : ¬ ∃ x ∈ zs, p x = true := fun hx => h (List.findIdx_lt_length.2 hx)
    simp at this ⊢
    exact this

theorem idxL_bd {α : Type} (p : α → Bool) (zs : List α) : -1 ≤ idxL p zs ∧ idxL p zs ≤ zs.length := by
  unfold idxL
  split <;> omega

/-- A base's numbers (side, mass, ballast, jib's mass, its radius, counterweight, its radius) are as asked. -/
def baseB (s m b j a c d : Int) : Bool := inB s 10 200 && inB m 1 500000 && inB b 0 500000 && inB j 0 500000 && inB c 0 500000 && inB a 0 1000 && inB d 0 1000

theorem seven (p0 p1 p2 p3 p4 p5 p6 : Bool) : p0 = false ∨ (p0 = true ∧ p1 = false) ∨ (p0 = true ∧ p1 = true ∧ p2 = false) ∨ (p0 = true ∧ p1 = true ∧ p2 = true ∧ p3 = false) ∨ (p0 = true ∧ p1 = true ∧ p2 = true ∧ p3 = true ∧ p4 = false) ∨
    (p0 = true ∧ p1 = true ∧ p2 = true ∧ p3 = true ∧ p4 = true ∧ p5 = false) ∨ (p0 = true ∧ p1 = true ∧ p2 = true ∧ p3 = true ∧ p4 = true ∧ p5 = true ∧ p6 = false) ∨ (p0 = true ∧ p1 = true ∧ p2 = true ∧ p3 = true ∧ p4 = true ∧ p5 = true ∧ p6 = true) := by
  cases p0 <;> cases p1 <;> cases p2 <;> cases p3 <;> cases p4 <;> cases p5 <;> cases p6 <;> simp

/-- What is known of the numbers of a base. -/
theorem base_bd {s m b j a c d : Int} (h : baseB s m b j a c d = true) : (10 ≤ s ∧ s ≤ 200) ∧ (1 ≤ m ∧ m ≤ 500000) ∧ (0 ≤ b ∧ b ≤ 500000) ∧ (0 ≤ j ∧ j ≤ 500000) ∧ (0 ≤ c ∧ c ≤ 500000) ∧ (0 ≤ a ∧ a ≤ 1000) ∧ 0 ≤ d ∧ d ≤ 1000 := by
  simp only [baseB, Bool.and_eq_true] at h
  obtain ⟨⟨⟨⟨⟨⟨g0, g1⟩, g2⟩, g3⟩, g4⟩, g5⟩, g6⟩ := h
  exact ⟨inB_true g0, inB_true g1, inB_true g2, inB_true g3, inB_true g4, inB_true g5, inB_true g6⟩

/-- A base at the beginning of a block. -/
def BaAt (w : World) (p : Nat) (s m b j a c d : Int) : Prop :=
  w.cell? ⟨p, 0, none⟩ = some (.int .i64 s) ∧ w.cell? ⟨p, 1, none⟩ = some (.int .i64 m) ∧ w.cell? ⟨p, 2, none⟩ = some (.int .i64 b) ∧ w.cell? ⟨p, 3, none⟩ = some (.int .i64 j) ∧
    w.cell? ⟨p, 4, none⟩ = some (.int .i64 a) ∧ w.cell? ⟨p, 5, none⟩ = some (.int .i64 c) ∧ w.cell? ⟨p, 6, none⟩ = some (.int .i64 d)

theorem BaAt_new (s m b j a c d : Int) (w : World) : BaAt (w.alloc (.cells #[.int .i64 s, .int .i64 m, .int .i64 b, .int .i64 j, .int .i64 a, .int .i64 c, .int .i64 d] 25)) w.heap.size s m b j a c d := ⟨by simp, by simp, by simp, by simp, by simp, by simp, by simp⟩

theorem mass_any (n : Int) (w : World) :
    Calls Tryd.prog 13 #[.int .i64 n] w fun e w' => e = .returned (.bool (inB n 0 500000)) ∧ w = w' := by
  go_enter Tryd.func13, Tryd.ntmps13
  go_wp2_with (go_at_call 12; refine (in_any _ _ _ _).mono ?_; rintro e w1 ⟨rfl, rfl⟩)
  go_ret
  exact ⟨rfl, rfl⟩

theorem specBase_any (p : Nat) (s m b j a c d : Int) (w : World) (h : BaAt w p s m b j a c d) :
    Calls Tryd.prog 7 #[.pointer (some ⟨p, 0, none⟩)] w fun e w' => e = .returned (.bool (baseB s m b j a c d)) ∧ w = w' := by
  obtain ⟨h0, h1, h2, h3, h4, h5, h6⟩ := h
  unfold baseB
  rcases seven (inB s 10 200) (inB m 1 500000) (inB b 0 500000) (inB j 0 500000) (inB c 0 500000) (inB a 0 1000) (inB d 0 1000) with g | ⟨g0, g⟩ | ⟨g0, g1, g⟩ | ⟨g0, g1, g2, g⟩ | ⟨g0, g1, g2, g3, g⟩ | ⟨g0, g1, g2, g3, g4, g⟩ | ⟨g0, g1, g2, g3, g4, g5, g⟩ | ⟨g0, g1, g2, g3, g4, g5, g⟩
  all_goals
    go_enter Tryd.func7, Tryd.ntmps7
    go_wp2_with (first | (go_at_call 12; refine (in_any _ _ _ _).mono ?_; rintro e w1 ⟨rfl, rfl⟩) | (go_at_call 13; refine (mass_any _ _).mono ?_; rintro e w1 ⟨rfl, rfl⟩))
    go_ret
    exact ⟨by simp [*], rfl⟩

theorem RdI_of (w : World) (g c : Nat) (zs : List Int) (hl : zs.length ≤ 9223372036854775807) (hg : g < w.heap.size) (hc : ∀ k, (hk : k < zs.length) → w.cell? ⟨g, k, none⟩ = some (.int .i64 zs[k])) : RdI w (.slice (some ⟨g, 0, none⟩) zs.length c) zs :=
  ⟨hl, _, _, rfl, fun k hk => ⟨g, 0, rfl, hg, by rw [Nat.zero_add]; exact hc k hk⟩⟩

theorem rdI1 {w : World} {g c : Nat} {x : Int} (hg : g < w.heap.size) (h0 : w.cell? ⟨g, 0, none⟩ = some (.int .i64 x)) : RdI w (.slice (some ⟨g, 0, none⟩) 1 c) [x] :=
  RdI_of w g c [x] (by simp) hg (fun k hk => by simp at hk; subst hk; exact h0)

theorem rdI2 {w : World} {g c : Nat} {x y : Int} (hg : g < w.heap.size) (h0 : w.cell? ⟨g, 0, none⟩ = some (.int .i64 x)) (h1 : w.cell? ⟨g, 1, none⟩ = some (.int .i64 y)) : RdI w (.slice (some ⟨g, 0, none⟩) 2 c) [x, y] :=
  RdI_of w g c [x, y] (by simp) hg (fun k hk => by
    match k, hk with
    | 0, _ => exact h0
    | 1, _ => exact h1)

theorem rdI3 {w : World} {g c : Nat} {x y z : Int} (hg : g < w.heap.size) (h0 : w.cell? ⟨g, 0, none⟩ = some (.int .i64 x)) (h1 : w.cell? ⟨g, 1, none⟩ = some (.int .i64 y)) (h2 : w.cell? ⟨g, 2, none⟩ = some (.int .i64 z)) : RdI w (.slice (some ⟨g, 0, none⟩) 3 c) [x, y, z] :=
  RdI_of w g c [x, y, z] (by simp) hg (fun k hk => by
    match k, hk with
    | 0, _ => exact h0
    | 1, _ => exact h1
    | 2, _ => exact h2)

set_option maxRecDepth 100000 in
theorem indexFuncI_any (v : Value) (zs : List Int) (g : FuncId) (he : Enters Tryd.prog g) (cap : Array Value) (p : Int → Bool) (w : World) (h : RdI w v zs)
    (hf : ∀ k (hk : k < zs.length) w1, Below w.heap.size w w1 → Calls Tryd.prog g (#[.int .i64 zs[k]] ++ cap) w1 fun e w2 => e = .returned (.bool (p zs[k])) ∧ Below w1.heap.size w1 w2) :
    Calls Tryd.prog 24 #[v, .func (.func g) #[] cap] w fun e w' => e = .returned (.int .i64 (idxL p zs)) ∧ Below w.heap.size w w' := by
  obtain ⟨hl, A, c, rfl, r1⟩ := h
  have R := Lib.hid r1; clear r1
  have Hf := Lib.hid hf; clear hf
  have HIS := Lib.hid (fun k (h : k < zs.length) => @idxL_is _ p zs k h)
  have HNO := Lib.hid (@idxL_none _ p zs)
  generalize idxL p zs = G at *
  go_enter Tryd.func24, Tryd.ntmps24
  go_wp2_with fail
  go_loopw [8] (fun i wr => ∃ k : Nat, k ≤ zs.length ∧ i = .int .i64 k ∧ (∀ j (hj : j < zs.length), j < k → p zs[j] = false) ∧ Below w.heap.size w wr) (fun i _ => zs.length - (intOf i).toNat)
  case atStart => exact ⟨0, by omega, rfl, fun j _ h => by omega, Below.refl _ _⟩
  case round =>
    obtain ⟨k, hk, rfl, hall, hb⟩ := hrel
    by_cases hlt : k < zs.length
    · obtain ⟨b, off, rfl, hbl, hc0⟩ := R.out k hlt
      rw [← kept_cell hb b _ hbl] at hc0
      have hc := Hf.out k hlt wr hb
      cases hp : p zs[k]
      · have hnx : ∀ j (hj : j < zs.length), j < k + 1 → p zs[j] = false := fun j hj hjk => by
          rcases Nat.lt_or_ge j k with h1 | h1
          · exact hall j hj h1
          · obtain rfl : j = k := by omega
            exact hp
        rw [hp] at hc
        have HNX := Lib.hid hnx; clear hnx hall hp
        have Hc := Lib.hid hc; clear hc
        generalize zs[k] = x at *
        go_wp2_with fail
        rw [he, Oper.upon_enter]
        refine Hc.out.mono ?_
        rintro e w1 ⟨rfl, hb1⟩
        go_wp2
        go_roundw
        case rel => exact ⟨k + 1, by omega, by go_num, HNX.out, kept_trans hb hb1⟩
        case measure => simp [intOf]; omega
      · have hE := HIS.out k hlt hp hall
        subst hE
        rw [hp] at hc
        have Hc := Lib.hid hc; clear hc hall hp
        generalize zs[k] = x at *
        go_wp2_with fail
        rw [he, Oper.upon_enter]
        refine Hc.out.mono ?_
        rintro e w1 ⟨rfl, hb1⟩
        go_wp2
        go_ret
        exact ⟨rfl, kept_trans hb hb1⟩
    · have : k = zs.length := by omega
      subst this
      have hE := HNO.out (fun j hj => hall j hj hj)
      clear hall
      subst hE
      go_wp2
      go_ret
      exact ⟨rfl, hb⟩

theorem containsFuncI_any (v : Value) (zs : List Int) (g : FuncId) (he : Enters Tryd.prog g) (cap : Array Value) (p : Int → Bool) (w : World) (h : RdI w v zs)
    (hf : ∀ k (hk : k < zs.length) w1, Below w.heap.size w w1 → Calls Tryd.prog g (#[.int .i64 zs[k]] ++ cap) w1 fun e w2 => e = .returned (.bool (p zs[k])) ∧ Below w1.heap.size w1 w2) :
    Calls Tryd.prog 19 #[v, .func (.func g) #[] cap] w fun e w' => e = .returned (.bool (zs.any p)) ∧ Below w.heap.size w w' := by
  have H := Lib.hid (indexFuncI_any v zs g he cap p w h hf)
  obtain ⟨hl, A, c, rfl, r1⟩ := h
  clear hf r1
  have hbd := idxL_bd p zs
  rw [← idxL_any]
  generalize idxL p zs = G at *
  go_enter Tryd.func19, Tryd.ntmps19
  go_wp2_with fail
  refine H.out.mono ?_
  rintro e w1 ⟨rfl, hb1⟩
  go_wp2
  go_ret
  exact ⟨rfl, hb1⟩

theorem outside_any (n lo hi : Int) (b1 b2 : Nat) (w : World) (h1 : w.cell? ⟨b1, 0, none⟩ = some (.int .i64 lo)) (h2 : w.cell? ⟨b2, 0, none⟩ = some (.int .i64 hi)) :
    Calls Tryd.prog 20 #[.int .i64 n, .pointer (some ⟨b1, 0, none⟩), .pointer (some ⟨b2, 0, none⟩)] w fun e w' => e = .returned (.bool (!inB n lo hi)) ∧ Below w.heap.size w w' := by
  unfold inB
  by_cases g1 : lo ≤ n <;> by_cases g2 : n ≤ hi
  all_goals
    go_enter Tryd.func20, Tryd.ntmps20
    go_wp2
    go_ret
    exact ⟨by simp [*], Below.refl _ _⟩

theorem within_any (lo hi : Int) (v : Value) (zs : List Int) (w : World) (h : RdI w v zs) :
    Calls Tryd.prog 14 #[.int .i64 lo, .int .i64 hi, v] w fun e w' => e = .returned (.bool (zs.all fun n => inB n lo hi)) ∧ Below w.heap.size w w' := by
  have hall : (zs.all fun n => inB n lo hi) = !(zs.any fun n => !inB n lo hi) := by simp [List.any_eq_not_all_not]
  rw [hall]
  clear hall
  have HC := Lib.hid (fun u (q : RdI u v zs) b1 b2 (l1 : b1 < u.heap.size) (l2 : b2 < u.heap.size) (c1 : u.cell? ⟨b1, 0, none⟩ = some (.int .i64 lo)) (c2 : u.cell? ⟨b2, 0, none⟩ = some (.int .i64 hi)) =>
    containsFuncI_any v zs 20 (enters_of Tryd.func20 (by kernel_rfl) rfl) #[.pointer (some ⟨b1, 0, none⟩), .pointer (some ⟨b2, 0, none⟩)] (fun n => !inB n lo hi) u q
      (fun k hk w1 hb => outside_any zs[k] lo hi b1 b2 w1 (by rw [kept_cell hb b1 0 l1]; exact c1) (by rw [kept_cell hb b2 0 l2]; exact c2)))
  obtain ⟨hl, A, c, rfl, r1⟩ := h
  have H := Lib.hid (show RdI w (.slice A zs.length c) zs from ⟨hl, A, c, rfl, r1⟩); clear r1
  generalize (zs.any fun n => !inB n lo hi) = X at *
  have hmf : ∀ (fn : Fn) (first cap : Array Value) (w : World), (Instr.makeFunc fn first cap).run Tryd.prog w = .ok (.func fn first cap) w := fun _ _ _ _ => rfl
  go_enter Tryd.func14, Tryd.ntmps14
  go_wp2_with fail
  refine (HC.out _ (RdI_kept H.out (by go_grown)) w.heap.size (w.heap.size + 1) (by simp; try omega) (by simp) (by simp) (by simp)).mono ?_
  rintro e w1 ⟨rfl, hb1⟩
  have b1 := kept_trans (a := w) (by go_grown) hb1
  go_wp2
  go_ret
  exact ⟨rfl, b1⟩

theorem toBase_any (s m b j a c d : Int) (w : World) :
    Calls Tryd.prog 5 #[.agg #[.int .i64 s, .int .i64 m, .int .i64 b, .int .i64 j, .int .i64 a, .int .i64 c, .int .i64 d]] w fun e w' => e = .returned (.agg #[.int .i64 s, .int .i64 m, .int .i64 b, .int .i64 j, .int .i64 a, .int .i64 c, .int .i64 d]) ∧ Below w.heap.size w w' := by
  go_enter Tryd.func5, Tryd.ntmps5
  go_wp2
  go_returns
  exact ⟨rfl, by go_grown⟩

set_option maxRecDepth 100000 in
/-- An argument that is a base. -/
theorem open_base {H : Type} {enc : TypeId × Value → H} {W : World} {base : Nat} {v : Value} {d : DataW H} {p : List MemPlace}
    (hv : Value.okWide Tryd.prog W .any base 23 v) (h : DataW.Trod enc Tryd.prog W 0 (fun _ => true) true 23 v d p) :
    ∃ s m b j a c d : Int, v = .agg #[.int .i64 s, .int .i64 m, .int .i64 b, .int .i64 j, .int .i64 a, .int .i64 c, .int .i64 d] := by
  obtain ⟨cs, rfl, hsz⟩ := okWide_struct Tryd.underlying23 hv
  obtain ⟨fuel, hf⟩ := h
  obtain ⟨xs, n, _, _, hl, hlen, hg⟩ := DataW.trod_struct Tryd.underlying23 (show DataW.trod enc Tryd.prog W 0 (fun _ => true) true fuel 23 cs.toList = some (d, p) from by simpa [Value.cells] using hf)
  have hl7 : cs.toList.length = 7 := hl.trans (by kernel_rfl)
  have z : Tryd.prog.cellsOf 2 = 1 := by kernel_rfl
  have h0 : DataW.trod enc Tryd.prog W 0 (fun _ => true) true n 2 ((cs.toList.drop 0).take (Tryd.prog.cellsOf 2)) = xs[0]? := hg 0 _ rfl
  have h1 : DataW.trod enc Tryd.prog W 0 (fun _ => true) true n 2 ((cs.toList.drop 1).take (Tryd.prog.cellsOf 2)) = xs[1]? := hg 1 _ rfl
  have h2 : DataW.trod enc Tryd.prog W 0 (fun _ => true) true n 2 ((cs.toList.drop 2).take (Tryd.prog.cellsOf 2)) = xs[2]? := hg 2 _ rfl
  have h3 : DataW.trod enc Tryd.prog W 0 (fun _ => true) true n 2 ((cs.toList.drop 3).take (Tryd.prog.cellsOf 2)) = xs[3]? := hg 3 _ rfl
  have h4 : DataW.trod enc Tryd.prog W 0 (fun _ => true) true n 2 ((cs.toList.drop 4).take (Tryd.prog.cellsOf 2)) = xs[4]? := hg 4 _ rfl
  have h5 : DataW.trod enc Tryd.prog W 0 (fun _ => true) true n 2 ((cs.toList.drop 5).take (Tryd.prog.cellsOf 2)) = xs[5]? := hg 5 _ rfl
  have h6 : DataW.trod enc Tryd.prog W 0 (fun _ => true) true n 2 ((cs.toList.drop 6).take (Tryd.prog.cellsOf 2)) = xs[6]? := hg 6 _ rfl
  obtain ⟨l⟩ := cs
  match l, hl7 with
  | [c0, c1, c2, c3, c4, c5, c6], _ =>
    have i0 : xs[0]? = some (xs[0]'(by rw [hlen]; decide)) := List.getElem?_eq_getElem _
    have i1 : xs[1]? = some (xs[1]'(by rw [hlen]; decide)) := List.getElem?_eq_getElem _
    have i2 : xs[2]? = some (xs[2]'(by rw [hlen]; decide)) := List.getElem?_eq_getElem _
    have i3 : xs[3]? = some (xs[3]'(by rw [hlen]; decide)) := List.getElem?_eq_getElem _
    have i4 : xs[4]? = some (xs[4]'(by rw [hlen]; decide)) := List.getElem?_eq_getElem _
    have i5 : xs[5]? = some (xs[5]'(by rw [hlen]; decide)) := List.getElem?_eq_getElem _
    have i6 : xs[6]? = some (xs[6]'(by rw [hlen]; decide)) := List.getElem?_eq_getElem _
    simp only [i0, i1, i2, i3, i4, i5, i6, z, List.drop_succ_cons, List.drop_zero, List.take_succ_cons, List.take_zero] at h0 h1 h2 h3 h4 h5 h6
    obtain ⟨x0, e0, _, _⟩ := DataW.trod_int Tryd.underlying2 h0
    obtain ⟨x1, e1, _, _⟩ := DataW.trod_int Tryd.underlying2 h1
    obtain ⟨x2, e2, _, _⟩ := DataW.trod_int Tryd.underlying2 h2
    obtain ⟨x3, e3, _, _⟩ := DataW.trod_int Tryd.underlying2 h3
    obtain ⟨x4, e4, _, _⟩ := DataW.trod_int Tryd.underlying2 h4
    obtain ⟨x5, e5, _, _⟩ := DataW.trod_int Tryd.underlying2 h5
    obtain ⟨x6, e6, _, _⟩ := DataW.trod_int Tryd.underlying2 h6
    simp only [List.cons.injEq, and_true] at e0 e1 e2 e3 e4 e5 e6
    subst e0 e1 e2 e3 e4 e5 e6
    exact ⟨x0, x1, x2, x3, x4, x5, x6, rfl⟩

theorem four (p0 p1 p2 p3 : Bool) : p0 = false ∨ (p0 = true ∧ p1 = false) ∨ (p0 = true ∧ p1 = true ∧ p2 = false) ∨ (p0 = true ∧ p1 = true ∧ p2 = true ∧ p3 = false) ∨ (p0 = true ∧ p1 = true ∧ p2 = true ∧ p3 = true) := by
  cases p0 <;> cases p1 <;> cases p2 <;> cases p3 <;> simp

set_option maxHeartbeats 1000000 in
theorem implVB_any (s m b j a c d : Int) (w : World) :
    Calls Tryd.prog 9 #[.agg #[.int .i64 s, .int .i64 m, .int .i64 b, .int .i64 j, .int .i64 a, .int .i64 c, .int .i64 d]] w fun e w' => e = .returned (.bool (baseB s m b j a c d)) ∧ Below w.heap.size w w' := by
  have e1 : baseB s m b j a c d = ([s].all (fun n => inB n 10 200) && [m].all (fun n => inB n 1 500000) && [b, j, c].all (fun n => inB n 0 500000) && [a, d].all (fun n => inB n 0 1000)) := by simp [baseB, Bool.and_assoc]
  rw [e1]; clear e1
  have H0 := fun v u q => within_any 10 200 v [s] u q
  have H1 := fun v u q => within_any 1 500000 v [m] u q
  have H2 := fun v u q => within_any 0 500000 v [b, j, c] u q
  have H3 := fun v u q => within_any 0 1000 v [a, d] u q
  generalize [s].all (fun n => inB n 10 200) = p0 at *
  generalize [m].all (fun n => inB n 1 500000) = p1 at *
  generalize [b, j, c].all (fun n => inB n 0 500000) = p2 at *
  generalize [a, d].all (fun n => inB n 0 1000) = p3 at *
  rcases four p0 p1 p2 p3 with rfl | ⟨rfl, rfl⟩ | ⟨rfl, rfl, rfl⟩ | ⟨rfl, rfl, rfl, rfl⟩ | ⟨rfl, rfl, rfl, rfl⟩
  all_goals
    have H0 := Lib.hid H0
    have H1 := Lib.hid H1
    have H2 := Lib.hid H2
    have H3 := Lib.hid H3
  case inl =>
    go_enter Tryd.func9, Tryd.ntmps9
    go_wp2_with fail
    refine (H0.out _ _ (rdI1 (by go_size) (by go_simp))).mono ?_
    rintro e w1 ⟨rfl, hb1⟩
    refine kept_at hb1 w.heap.size (by go_size) fun c1_0 z1_0 s1_0 => ?_
    have b1 := kept_trans (a := w) (by go_grown) hb1
    go_wp2
    go_ret
    exact ⟨rfl, b1⟩
  case inr.inl =>
    go_enter Tryd.func9, Tryd.ntmps9
    go_wp2_with fail
    refine (H0.out _ _ (rdI1 (by go_size) (by go_simp))).mono ?_
    rintro e w1 ⟨rfl, hb1⟩
    refine kept_at hb1 w.heap.size (by go_size) fun c1_0 z1_0 s1_0 => ?_
    have b1 := kept_trans (a := w) (by go_grown) hb1
    go_wp2_with fail
    refine (H1.out _ _ (rdI1 (by go_size) (by go_simp))).mono ?_
    rintro e w2 ⟨rfl, hb2⟩
    refine kept_at hb2 w.heap.size (by go_size) fun c2_0 z2_0 s2_0 => ?_
    have b2 := kept_trans (a := w) (by go_grown) hb2
    go_wp2
    go_ret
    exact ⟨rfl, b2⟩
  case inr.inr.inl =>
    go_enter Tryd.func9, Tryd.ntmps9
    go_wp2_with fail
    refine (H0.out _ _ (rdI1 (by go_size) (by go_simp))).mono ?_
    rintro e w1 ⟨rfl, hb1⟩
    refine kept_at hb1 w.heap.size (by go_size) fun c1_0 z1_0 s1_0 => ?_
    have b1 := kept_trans (a := w) (by go_grown) hb1
    go_wp2_with fail
    refine (H1.out _ _ (rdI1 (by go_size) (by go_simp))).mono ?_
    rintro e w2 ⟨rfl, hb2⟩
    refine kept_at hb2 w.heap.size (by go_size) fun c2_0 z2_0 s2_0 => ?_
    have b2 := kept_trans (a := w) (by go_grown) hb2
    go_wp2_with fail
    refine (H2.out _ _ (rdI3 (by go_size) (by go_simp) (by go_simp) (by go_simp))).mono ?_
    rintro e w3 ⟨rfl, hb3⟩
    refine kept_at hb3 w.heap.size (by go_size) fun c3_0 z3_0 s3_0 => ?_
    have b3 := kept_trans (a := w) (by go_grown) hb3
    go_wp2
    go_ret
    exact ⟨rfl, b3⟩
  all_goals
    go_enter Tryd.func9, Tryd.ntmps9
    go_wp2_with fail
    refine (H0.out _ _ (rdI1 (by go_size) (by go_simp))).mono ?_
    rintro e w1 ⟨rfl, hb1⟩
    refine kept_at hb1 w.heap.size (by go_size) fun c1_0 z1_0 s1_0 => ?_
    have b1 := kept_trans (a := w) (by go_grown) hb1
    go_wp2_with fail
    refine (H1.out _ _ (rdI1 (by go_size) (by go_simp))).mono ?_
    rintro e w2 ⟨rfl, hb2⟩
    refine kept_at hb2 w.heap.size (by go_size) fun c2_0 z2_0 s2_0 => ?_
    have b2 := kept_trans (a := w) (by go_grown) hb2
    go_wp2_with fail
    refine (H2.out _ _ (rdI3 (by go_size) (by go_simp) (by go_simp) (by go_simp))).mono ?_
    rintro e w3 ⟨rfl, hb3⟩
    refine kept_at hb3 w.heap.size (by go_size) fun c3_0 z3_0 s3_0 => ?_
    have b3 := kept_trans (a := w) (by go_grown) hb3
    go_wp2_with fail
    refine (H3.out _ _ (rdI2 (by go_size) (by go_simp) (by go_simp))).mono ?_
    rintro e w4 ⟨rfl, hb4⟩
    have b4 := kept_trans (a := w) (by go_grown) hb4
    go_wp2
    go_ret
    exact ⟨rfl, b4⟩

theorem join_step {α : Type} (f : α → List UInt8) (sep : List UInt8) (zs : List α) (k : Nat) (h : k < zs.length) : Lib.join ((zs.take (k + 1)).map f) sep = Lib.join ((zs.take k).map f) sep ++ ((if k = 0 then [] else sep) ++ f zs[k]) := by
  cases zs with
  | nil => simp at h
  | cons z r =>
    cases k with
    | zero => simp [Lib.join_one, Lib.join_nil]
    | succ m =>
      have hr : (r.map f)[m]? = some (f (r[m]'(by simpa using h))) := by rw [List.getElem?_map, List.getElem?_eq_getElem (by simpa using h)]; rfl
      have hs := Lib.joinTail_take_succ sep (r.map f) m _ hr
      simp only [List.take_succ_cons, List.map_cons, List.map_take, Lib.join_cons, hs, List.getElem_cons_succ]
      simp [List.append_assoc]

/-- The words of a base's text. -/
def bwords : List (List UInt8) := [[115, 105, 100, 101], [109, 97, 115, 115], [98, 97, 108, 108, 97, 115, 116], [106, 105, 98], [97, 116], [99, 111, 117, 110, 116, 101, 114], [97, 116]]

def bseg (z : List UInt8 × Int) : List UInt8 := z.1 ++ 32 :: Lib.itoa z.2

/-- The text of a base. -/
def btextL (s m b j a c d : Int) : List UInt8 := if baseB s m b j a c d then Lib.join ((bwords.zip [s, m, b, j, a, c, d]).map bseg) [32] else []

theorem btext_len {zs : List (List UInt8 × Int)} (h : ∀ k, (hk : k < zs.length) → (bseg zs[k]).length ≤ 29) (k : Nat) (hk : k ≤ zs.length) : (Lib.join ((zs.take k).map bseg) [32]).length ≤ 30 * k := by
  induction k with
  | zero => simp [Lib.join_nil]
  | succ k ih =>
    rw [join_step bseg [32] zs k hk, List.length_append, List.length_append]
    have h1 := ih (by omega)
    have h2 := h k hk
    split <;> simp only [List.length_nil, List.length_cons] <;> omega

theorem btext_14 (x0 x1 x2 x3 x4 x5 x6 : List UInt8) : Lib.join [[115, 105, 100, 101], x0, [109, 97, 115, 115], x1, [98, 97, 108, 108, 97, 115, 116], x2, [106, 105, 98], x3, [97, 116], x4, [99, 111, 117, 110, 116, 101, 114], x5, [97, 116], x6] [32] =
    Lib.join [[115, 105, 100, 101] ++ 32 :: x0, [109, 97, 115, 115] ++ 32 :: x1, [98, 97, 108, 108, 97, 115, 116] ++ 32 :: x2, [106, 105, 98] ++ 32 :: x3, [97, 116] ++ 32 :: x4, [99, 111, 117, 110, 116, 101, 114] ++ 32 :: x5, [97, 116] ++ 32 :: x6] [32] := by
  simp [Lib.join_cons, Lib.joinTail, List.append_assoc]

theorem bt_cells (s m b j a c d : Int) (w : World) (k : Nat) (hk : k < (bwords.zip [s, m, b, j, a, c, d]).length) :
    (((w.alloc (.cells #[.int .i64 s, .int .i64 m, .int .i64 b, .int .i64 j, .int .i64 a, .int .i64 c, .int .i64 d] 25)).alloc (.cells #[.int .i64 s, .int .i64 m, .int .i64 b, .int .i64 j, .int .i64 a, .int .i64 c, .int .i64 d] 2)).alloc (.cells #[.string ⟨#[115, 105, 100, 101]⟩, .string ⟨#[109, 97, 115, 115]⟩, .string ⟨#[98, 97, 108, 108, 97, 115, 116]⟩, .string ⟨#[106, 105, 98]⟩, .string ⟨#[97, 116]⟩, .string ⟨#[99, 111, 117, 110, 116, 101, 114]⟩, .string ⟨#[97, 116]⟩] 9)).cell? ⟨w.heap.size + 1, k, none⟩ = some (.int .i64 (bwords.zip [s, m, b, j, a, c, d])[k].2) ∧ (((w.alloc (.cells #[.int .i64 s, .int .i64 m, .int .i64 b, .int .i64 j, .int .i64 a, .int .i64 c, .int .i64 d] 25)).alloc (.cells #[.int .i64 s, .int .i64 m, .int .i64 b, .int .i64 j, .int .i64 a, .int .i64 c, .int .i64 d] 2)).alloc (.cells #[.string ⟨#[115, 105, 100, 101]⟩, .string ⟨#[109, 97, 115, 115]⟩, .string ⟨#[98, 97, 108, 108, 97, 115, 116]⟩, .string ⟨#[106, 105, 98]⟩, .string ⟨#[97, 116]⟩, .string ⟨#[99, 111, 117, 110, 116, 101, 114]⟩, .string ⟨#[97, 116]⟩] 9)).cell? ⟨w.heap.size + 1 + 1, k, none⟩ = some (.string ⟨(bwords.zip [s, m, b, j, a, c, d])[k].1.toArray⟩) := by
  match k, hk with
  | 0, _ => exact ⟨by go_simp, by go_simp; rfl⟩
  | 1, _ => exact ⟨by go_simp, by go_simp; rfl⟩
  | 2, _ => exact ⟨by go_simp, by go_simp; rfl⟩
  | 3, _ => exact ⟨by go_simp, by go_simp; rfl⟩
  | 4, _ => exact ⟨by go_simp, by go_simp; rfl⟩
  | 5, _ => exact ⟨by go_simp, by go_simp; rfl⟩
  | 6, _ => exact ⟨by go_simp, by go_simp; rfl⟩
  | k + 7, h => simp [bwords] at h; omega

theorem cat5 (T X Y : List UInt8) : ByteArray.mk T.toArray ++ (ByteArray.mk X.toArray ++ ByteArray.mk #[32] ++ ByteArray.mk Y.toArray) = ByteArray.mk (T ++ (X ++ 32 :: Y)).toArray := by
  rw [show ByteArray.mk #[32] = ByteArray.mk ([32] : List UInt8).toArray from rfl, ByteArray.mk_append_mk, ByteArray.mk_append_mk, ByteArray.mk_append_mk]
  simp

theorem cat6 (T X Y : List UInt8) : (ByteArray.mk T.toArray ++ ByteArray.mk #[32]) ++ (ByteArray.mk X.toArray ++ ByteArray.mk #[32] ++ ByteArray.mk Y.toArray) = ByteArray.mk (T ++ ([32] ++ (X ++ 32 :: Y))).toArray := by
  rw [show ByteArray.mk #[32] = ByteArray.mk ([32] : List UInt8).toArray from rfl, ByteArray.mk_append_mk, ByteArray.mk_append_mk, ByteArray.mk_append_mk, ByteArray.mk_append_mk]
  simp

theorem bt_bd {s m b j a c d : Int} (h : baseB s m b j a c d = true) (k : Nat) (hk : k < (bwords.zip [s, m, b, j, a, c, d]).length) : (0 ≤ (bwords.zip [s, m, b, j, a, c, d])[k].2 ∧ (bwords.zip [s, m, b, j, a, c, d])[k].2 ≤ 500000) ∧ (bwords.zip [s, m, b, j, a, c, d])[k].1.length ≤ 7 := by
  have hb := base_bd h
  match k, hk with
  | 0, _ => exact ⟨show 0 ≤ s ∧ s ≤ 500000 by omega, by simp [bwords]⟩
  | 1, _ => exact ⟨show 0 ≤ m ∧ m ≤ 500000 by omega, by simp [bwords]⟩
  | 2, _ => exact ⟨show 0 ≤ b ∧ b ≤ 500000 by omega, by simp [bwords]⟩
  | 3, _ => exact ⟨show 0 ≤ j ∧ j ≤ 500000 by omega, by simp [bwords]⟩
  | 4, _ => exact ⟨show 0 ≤ a ∧ a ≤ 500000 by omega, by simp [bwords]⟩
  | 5, _ => exact ⟨show 0 ≤ c ∧ c ≤ 500000 by omega, by simp [bwords]⟩
  | 6, _ => exact ⟨show 0 ≤ d ∧ d ≤ 500000 by omega, by simp [bwords]⟩
  | k + 7, h => simp [bwords] at h; omega

set_option maxHeartbeats 2000000 in
theorem specBT_any (s m b j a c d : Int) (w : World) :
    Calls Tryd.prog 4 #[.agg #[.int .i64 s, .int .i64 m, .int .i64 b, .int .i64 j, .int .i64 a, .int .i64 c, .int .i64 d]] w fun e w' => e = .returned (.string ⟨(btextL s m b j a c d).toArray⟩) ∧ Below w.heap.size w w' := by
  have HB := fun u (x : BaAt u w.heap.size s m b j a c d) => specBase_any w.heap.size s m b j a c d u x
  have HA := Lib.hid (BaAt_new s m b j a c d w)
  unfold btextL
  cases hv : baseB s m b j a c d
  · rw [hv] at HB
    have HB := Lib.hid HB
    rw [if_neg (by simp)]
    go_enter Tryd.func4, Tryd.ntmps4
    go_wp2_with fail
    refine (HB.out _ HA.out).mono ?_
    rintro e w1 ⟨rfl, rfl⟩
    go_wp2
    go_ret
    exact ⟨rfl, by go_grown⟩
  · rw [if_pos rfl]
    have hcells := bt_cells s m b j a c d w
    have hbd := fun k hk => bt_bd hv k hk
    have hb0 : Below w.heap.size w (((w.alloc (.cells #[.int .i64 s, .int .i64 m, .int .i64 b, .int .i64 j, .int .i64 a, .int .i64 c, .int .i64 d] 25)).alloc (.cells #[.int .i64 s, .int .i64 m, .int .i64 b, .int .i64 j, .int .i64 a, .int .i64 c, .int .i64 d] 2)).alloc (.cells #[.string ⟨#[115, 105, 100, 101]⟩, .string ⟨#[109, 97, 115, 115]⟩, .string ⟨#[98, 97, 108, 108, 97, 115, 116]⟩, .string ⟨#[106, 105, 98]⟩, .string ⟨#[97, 116]⟩, .string ⟨#[99, 111, 117, 110, 116, 101, 114]⟩, .string ⟨#[97, 116]⟩] 9)) := by go_grown
    have hz0 : (((w.alloc (.cells #[.int .i64 s, .int .i64 m, .int .i64 b, .int .i64 j, .int .i64 a, .int .i64 c, .int .i64 d] 25)).alloc (.cells #[.int .i64 s, .int .i64 m, .int .i64 b, .int .i64 j, .int .i64 a, .int .i64 c, .int .i64 d] 2)).alloc (.cells #[.string ⟨#[115, 105, 100, 101]⟩, .string ⟨#[109, 97, 115, 115]⟩, .string ⟨#[98, 97, 108, 108, 97, 115, 116]⟩, .string ⟨#[106, 105, 98]⟩, .string ⟨#[97, 116]⟩, .string ⟨#[99, 111, 117, 110, 116, 101, 114]⟩, .string ⟨#[97, 116]⟩] 9)).heap.size = w.heap.size + 3 := by simp
    rw [hv] at HB
    have HB := Lib.hid HB
    clear hv
    have hlen : (bwords.zip [s, m, b, j, a, c, d]).length = 7 := rfl
    generalize bwords.zip [s, m, b, j, a, c, d] = zs at *
    have Hlen := Lib.hid (btext_len (zs := zs) (fun k hk => by
      have := hbd k hk
      have h2 := Lib.itoa_length_le zs[k].2 (by omega) (by omega)
      simp only [bseg, List.length_append, List.length_cons]
      omega))
    have Hst := Lib.hid (join_step bseg [32] zs)
    have Hend := Lib.hid (show Lib.join ((zs.take zs.length).map bseg) [32] = Lib.join (zs.map bseg) [32] by rw [List.take_of_length_le (Nat.le_refl _)])
    have Hbd := Lib.hid hbd; clear hbd
    have Hc := Lib.hid hcells; clear hcells
    have HL := Lib.hid hlen; clear hlen
    go_enter Tryd.func4, Tryd.ntmps4
    go_wp2_with fail
    refine (HB.out _ HA.out).mono ?_
    rintro e w1 ⟨rfl, rfl⟩
    go_wp2_with fail
    generalize (((w.alloc (.cells #[.int .i64 s, .int .i64 m, .int .i64 b, .int .i64 j, .int .i64 a, .int .i64 c, .int .i64 d] 25)).alloc (.cells #[.int .i64 s, .int .i64 m, .int .i64 b, .int .i64 j, .int .i64 a, .int .i64 c, .int .i64 d] 2)).alloc (.cells #[.string ⟨#[115, 105, 100, 101]⟩, .string ⟨#[109, 97, 115, 115]⟩, .string ⟨#[98, 97, 108, 108, 97, 115, 116]⟩, .string ⟨#[106, 105, 98]⟩, .string ⟨#[97, 116]⟩, .string ⟨#[99, 111, 117, 110, 116, 101, 114]⟩, .string ⟨#[97, 116]⟩] 9)) = W3 at *
    go_loopw [5, 6] (fun o i wr => ∃ k : Nat, k ≤ zs.length ∧ i = .int .i64 k ∧ o = .string ⟨(Lib.join ((zs.take k).map bseg) [32]).toArray⟩ ∧ Below W3.heap.size W3 wr) (fun _ i _ => 7 - (intOf i).toNat)
    case atStart => exact ⟨0, by omega, rfl, rfl, Below.refl _ _⟩
    case round =>
      obtain ⟨k, hk, rfl, rfl, hb⟩ := hrel
      by_cases hlt : k < zs.length
      · have hk7 : k < 7 := by rw [← HL.out]; exact hlt
        obtain ⟨hc0, hc1⟩ := Hc.out k hlt
        have hsz := hb.size
        rw [← kept_cell hb _ _ (by omega)] at hc0 hc1
        have hq0 : w.heap.size + 1 < wr.heap.size := by omega
        have hq1 : w.heap.size + 1 + 1 < wr.heap.size := by omega
        have hat := Hbd.out k hlt
        have htl := Hlen.out k hk
        have hst := Hst.out k hlt
        rw [show bseg zs[k] = zs[k].1 ++ 32 :: Lib.itoa zs[k].2 from rfl] at hst
        generalize Lib.join ((zs.take k).map bseg) [32] = T at *
        generalize zs[k].1 = x at *
        generalize zs[k].2 = y at *
        have hly := Lib.itoa_length_le y (by omega) (by omega)
        have c3 := cat5 T x (Lib.itoa y)
        have c4 := cat6 T x (Lib.itoa y)
        have z1 := cat_size T
        have z2 := cat_size x
        have z3 := cat_size (Lib.itoa y)
        have HST := Lib.hid hst; clear hst
        by_cases h0 : k = 0
        · subst h0
          have hF := c3.trans (show _ = ByteArray.mk (Lib.join ((zs.take (0 + 1)).map bseg) [32]).toArray by rw [HST.out]; simp)
          clear c3 c4
          generalize hbx : ByteArray.mk x.toArray = bx at *
          generalize hby : ByteArray.mk (Lib.itoa y).toArray = by' at *
          generalize ByteArray.mk T.toArray = bt at *
          have hq1 : ¬ 9223372036854775807 < bx.size + 1 := by omega
          have hq2 : ¬ 9223372036854775807 < bx.size + 1 + by'.size := by omega
          have hq3 : ¬ 9223372036854775807 < bt.size + (bx.size + 1 + by'.size) := by omega
          clear z1 z2 z3
          have HF := Lib.hid hF; clear hF
          go_wp2_with fail
          go_region_held3 (fun w' => w'.cell? ⟨w.heap.size + 1, 0, none⟩ = some (.int .i64 y) ∧ w'.cell? ⟨w.heap.size + 1 + 1, 0, none⟩ = some (.string bx)) (go_keep)
            ((go_at_call 8; refine (specDec_any _ (by omega) _).mono ?_; rintro e w1 ⟨rfl, hb1⟩; replace hb1 := kept_trans (a := wr) (by go_grown) hb1; have hcl := kept_cell hb1))
          go_wp2
          go_roundw
          case rel => exact ⟨1, by omega, by go_num, by rw [← HF.out], kept_trans hb (by assumption)⟩
          case measure => simp [intOf] <;> omega
        · have hkd : decide (0 < k) = true := by simp; omega
          have hF := c4.trans (show _ = ByteArray.mk (Lib.join ((zs.take (k + 1)).map bseg) [32]).toArray by rw [HST.out, if_neg h0])
          clear c3 c4
          generalize hbx : ByteArray.mk x.toArray = bx at *
          generalize hby : ByteArray.mk (Lib.itoa y).toArray = by' at *
          generalize ByteArray.mk T.toArray = bt at *
          have hq0' : ¬ 9223372036854775807 < bt.size + 1 := by omega
          have hq1' : ¬ 9223372036854775807 < bx.size + 1 := by omega
          have hq2' : ¬ 9223372036854775807 < bx.size + 1 + by'.size := by omega
          have hq4' : ¬ 9223372036854775807 < bt.size + 1 + (bx.size + 1 + by'.size) := by omega
          clear z1 z2 z3
          have HF := Lib.hid hF; clear hF
          go_wp2_with fail
          go_region_held3 (fun w' => w'.cell? ⟨w.heap.size + 1, k, none⟩ = some (.int .i64 y) ∧ w'.cell? ⟨w.heap.size + 1 + 1, k, none⟩ = some (.string bx)) (go_keep)
            ((go_at_call 8; refine (specDec_any _ (by omega) _).mono ?_; rintro e w1 ⟨rfl, hb1⟩; replace hb1 := kept_trans (a := wr) (by go_grown) hb1; have hcl := kept_cell hb1))
          go_wp2
          go_roundw
          case rel => exact ⟨k + 1, by omega, by go_num, by rw [← HF.out], kept_trans hb (by assumption)⟩
          case measure => simp [intOf] <;> omega
      · have hk' : k = zs.length := by omega
        have hk7 : ¬ k < 7 := by rw [← HL.out]; exact hlt
        have hE : Lib.join ((zs.take k).map bseg) [32] = Lib.join (zs.map bseg) [32] := by rw [hk', Hend.out]
        rw [hE]
        clear hk hlt hk' hE
        go_wp2
        go_ret
        exact ⟨rfl, kept_trans hb0 hb⟩

/-- The parts of a base's text. -/
def b14 (x0 x1 x2 x3 x4 x5 x6 : List UInt8) : List ByteArray := [⟨#[115, 105, 100, 101]⟩, ⟨x0.toArray⟩, ⟨#[109, 97, 115, 115]⟩, ⟨x1.toArray⟩, ⟨#[98, 97, 108, 108, 97, 115, 116]⟩, ⟨x2.toArray⟩, ⟨#[106, 105, 98]⟩, ⟨x3.toArray⟩, ⟨#[97, 116]⟩, ⟨x4.toArray⟩, ⟨#[99, 111, 117, 110, 116, 101, 114]⟩, ⟨x5.toArray⟩, ⟨#[97, 116]⟩, ⟨x6.toArray⟩]

theorem b14_cells (xs : List ByteArray) (u : World) (t : TypeId) (j : Nat) (x : ByteArray) (h : xs[j]? = some x) : (u.alloc (.cells (xs.map Value.string).toArray t)).cell? ⟨u.heap.size, 0 + j, none⟩ = some (.string x) := by
  rw [cell_of_row _ _ (0 + j) _ _ _ (heap_alloc_new u _)]
  simp [h]

theorem b14_join (x0 x1 x2 x3 x4 x5 x6 : List UInt8) : Lib.join ((b14 x0 x1 x2 x3 x4 x5 x6).map (·.data.toList)) [32] = Lib.join [[115, 105, 100, 101] ++ 32 :: x0, [109, 97, 115, 115] ++ 32 :: x1, [98, 97, 108, 108, 97, 115, 116] ++ 32 :: x2, [106, 105, 98] ++ 32 :: x3, [97, 116] ++ 32 :: x4, [99, 111, 117, 110, 116, 101, 114] ++ 32 :: x5, [97, 116] ++ 32 :: x6] [32] := by
  rw [← btext_14]
  rfl

set_option maxHeartbeats 4000000 in
theorem implBT_any (s m b j a c d : Int) (w : World) (ht : PowTab w) :
    Calls Tryd.prog 6 #[.agg #[.int .i64 s, .int .i64 m, .int .i64 b, .int .i64 j, .int .i64 a, .int .i64 c, .int .i64 d]] w fun e w' => e = .returned (.string ⟨(btextL s m b j a c d).toArray⟩) ∧ Below w.heap.size w w' := by
  have HB := fun u => implVB_any s m b j a c d u
  unfold btextL
  cases hv : baseB s m b j a c d
  · rw [hv] at HB
    have HB := Lib.hid HB
    rw [if_neg (by simp)]
    clear ht
    go_enter Tryd.func6, Tryd.ntmps6
    go_wp2_with fail
    refine (HB.out _).mono ?_
    rintro e w1 ⟨rfl, hb1⟩
    have b1 := kept_trans (a := w) (by go_grown) hb1
    go_wp2
    go_ret
    exact ⟨rfl, b1⟩
  · rw [if_pos rfl]
    have hbd := base_bd hv
    have hlen := btext_len (zs := bwords.zip [s, m, b, j, a, c, d]) (fun k hk => by
      have := bt_bd hv k hk
      have h2 := Lib.itoa_length_le (bwords.zip [s, m, b, j, a, c, d])[k].2 (by omega) (by omega)
      simp only [bseg, List.length_append, List.length_cons]
      omega) 7 (Nat.le_refl _)
    rw [show (bwords.zip [s, m, b, j, a, c, d]).take 7 = bwords.zip [s, m, b, j, a, c, d] from rfl] at hlen
    have hE : Lib.join ((b14 (Lib.itoa s) (Lib.itoa m) (Lib.itoa b) (Lib.itoa j) (Lib.itoa a) (Lib.itoa c) (Lib.itoa d)).map (·.data.toList)) [32] = Lib.join ((bwords.zip [s, m, b, j, a, c, d]).map bseg) [32] := by
      rw [b14_join]
      rfl
    rw [← hE] at hlen ⊢
    have HJ := Lib.hid (fun (u : World) => Tryd.strings_Join u.heap.size 0 14 (b14 (Lib.itoa s) (Lib.itoa m) (Lib.itoa b) (Lib.itoa j) (Lib.itoa a) (Lib.itoa c) (Lib.itoa d)) ⟨#[32]⟩ (u.alloc (.cells ((b14 (Lib.itoa s) (Lib.itoa m) (Lib.itoa b) (Lib.itoa j) (Lib.itoa a) (Lib.itoa c) (Lib.itoa d)).map Value.string).toArray 9))
      (fun j x h => b14_cells _ u _ j x h) (by simp) (by simp [b14]) (by simp [b14]) (by
        show (Lib.join _ [32]).length ≤ _
        omega))
    rw [hv] at HB
    have HB := Lib.hid HB
    have HT := Lib.hid ht; clear ht hE hlen hv
    generalize hF : Lib.join ((b14 (Lib.itoa s) (Lib.itoa m) (Lib.itoa b) (Lib.itoa j) (Lib.itoa a) (Lib.itoa c) (Lib.itoa d)).map (·.data.toList)) [32] = F at *
    go_enter Tryd.func6, Tryd.ntmps6
    go_wp2_with fail
    refine (HB.out _).mono ?_
    rintro e w1 ⟨rfl, hb1⟩
    refine kept_at hb1 w.heap.size (by go_size) fun c1_0 z1_0 s1_0 => ?_
    have b1 := kept_trans (a := w) (by go_grown) hb1
    have FT := Lib.hid (tab_kept HT.out b1)
    go_wp2_with fail
    go_region_held3 (fun w' => w'.cell? ⟨w.heap.size, 0, none⟩ = some (.int .i64 s) ∧ w'.cell? ⟨w.heap.size, 1, none⟩ = some (.int .i64 m) ∧ w'.cell? ⟨w.heap.size, 2, none⟩ = some (.int .i64 b) ∧ w'.cell? ⟨w.heap.size, 3, none⟩ = some (.int .i64 j) ∧ w'.cell? ⟨w.heap.size, 4, none⟩ = some (.int .i64 a) ∧ w'.cell? ⟨w.heap.size, 5, none⟩ = some (.int .i64 c) ∧ w'.cell? ⟨w.heap.size, 6, none⟩ = some (.int .i64 d)) (go_keep) (first
          | (go_at_call 11; refine (implDecimal_any _ (by omega) _ ?ht).mono ?_; (case ht => first | exact FT.out | exact tab_kept FT.out (by assumption)); rintro e w2 ⟨rfl, hb2⟩; refine kept_at hb2 w.heap.size (by go_size) fun c2_0 z2_0 s2_0 => ?_; replace hb2 := kept_trans (a := w1) (by go_grown) hb2)
          | (go_at_call 10; refine (HJ.out _).mono ?_; rintro e w3 ⟨rfl, hb3⟩; refine kept_at hb3 w.heap.size (by go_size) fun c3_0 z3_0 s3_0 => ?_; have b3 := kept_trans (a := w1) (by first | (go_grown; done) | (go_grown; exact hb2.size)) hb3))
    all_goals
      go_wp2
      go_ret
      exact ⟨rfl, kept_trans b1 b3⟩

theorem walk_FnExactBaseText (s m b j a c d : Int) (w : World) (ht : PowTab w) :
    Calls Tryd.prog 3 #[.agg #[.int .i64 s, .int .i64 m, .int .i64 b, .int .i64 j, .int .i64 a, .int .i64 c, .int .i64 d]] w fun e w' => e = .returned (.bool true) ∧ Below w.heap.size w w' := by
  have hS := fun u => specBT_any s m b j a c d u
  have hI := fun u t => implBT_any s m b j a c d u t
  generalize (⟨(btextL s m b j a c d).toArray⟩ : ByteArray) = L at *
  have HS := Lib.hid hS; clear hS
  have HI := Lib.hid hI; clear hI
  have HT := Lib.hid ht; clear ht
  go_enter Tryd.func3, Tryd.ntmps3
  go_wp2_with fail
  refine (toBase_any s m b j a c d _).mono ?_
  rintro e w1 ⟨rfl, b1⟩
  refine kept_at b1 (w.heap.size) (by go_size) fun c1_0 z1_0 s1_0 => ?_
  replace b1 := kept_trans (a := w) (by go_grown) b1
  have l1 := kept_cell b1
  have zz1 := b1.size
  go_wp2_with fail
  refine (HS.out _).mono ?_
  rintro e w2 ⟨rfl, b2⟩
  refine kept_at b2 (w.heap.size) (by go_size) fun c2_0 z2_0 s2_0 => ?_
  replace b2 := kept_trans (a := w) (by go_grown) b2
  have l2 := kept_cell b2
  have zz2 := b2.size
  go_wp2_with fail
  refine (toBase_any s m b j a c d _).mono ?_
  rintro e w3 ⟨rfl, b3⟩
  refine kept_at b3 (w.heap.size) (by go_size) fun c3_0 z3_0 s3_0 => ?_
  replace b3 := kept_trans (a := w) (by go_grown) b3
  have l3 := kept_cell b3
  have zz3 := b3.size
  go_wp2_with fail
  refine (HI.out _ (tab_kept HT.out (by go_grown))).mono ?_
  rintro e w4 ⟨rfl, b4⟩
  replace b4 := kept_trans (a := w) (by go_grown) b4
  have l4 := kept_cell b4
  have zz4 := b4.size
  go_wp2
  go_ret
  exact ⟨rfl, by go_grown⟩

end Go.Proofs.YtjdppjcmelflbabDoor
namespace Go.Proofs.YtjdppjcmelflbabDoor.fnExactBaseText
open Go.ChangeShapes Go.WideShapes Go.ChangeAt Go.RowKit
set_option linter.unusedVariables false
set_option linter.unusedSimpArgs false
open Go.Joins Go.ChangeMaps
/-- A world for the witness: the settled one, the listed variables holding what their initialisers lay. -/
noncomputable def laidWorld (os : Os) : World := { World.holding Tryd.prog os ⟨#[], #[], []⟩ with heap := ((((World.holding Tryd.prog os ⟨#[], #[], []⟩).heap.modify 2 (fun | .cells _ t frozen => .cells #[.int .u8 0, .int .u8 1, .int .u8 28, .int .u8 2, .int .u8 29, .int .u8 14, .int .u8 24, .int .u8 3, .int .u8 30, .int .u8 22, .int .u8 20, .int .u8 15, .int .u8 25, .int .u8 17, .int .u8 4, .int .u8 8, .int .u8 31, .int .u8 27, .int .u8 13, .int .u8 23, .int .u8 21, .int .u8 19, .int .u8 16, .int .u8 7, .int .u8 26, .int .u8 12, .int .u8 18, .int .u8 6, .int .u8 11, .int .u8 5, .int .u8 10, .int .u8 9] t frozen | o => o)).modify 3 (fun | .cells _ t frozen => .cells #[.int .u8 0, .int .u8 1, .int .u8 56, .int .u8 2, .int .u8 57, .int .u8 49, .int .u8 28, .int .u8 3, .int .u8 61, .int .u8 58, .int .u8 42, .int .u8 50, .int .u8 38, .int .u8 29, .int .u8 17, .int .u8 4, .int .u8 62, .int .u8 47, .int .u8 59, .int .u8 36, .int .u8 45, .int .u8 43, .int .u8 51, .int .u8 22, .int .u8 53, .int .u8 39, .int .u8 33, .int .u8 30, .int .u8 24, .int .u8 18, .int .u8 12, .int .u8 5, .int .u8 63, .int .u8 55, .int .u8 48, .int .u8 27, .int .u8 60, .int .u8 41, .int .u8 37, .int .u8 16, .int .u8 46, .int .u8 35, .int .u8 44, .int .u8 21, .int .u8 52, .int .u8 32, .int .u8 23, .int .u8 11, .int .u8 54, .int .u8 26, .int .u8 40, .int .u8 15, .int .u8 34, .int .u8 20, .int .u8 31, .int .u8 10, .int .u8 25, .int .u8 14, .int .u8 19, .int .u8 9, .int .u8 13, .int .u8 8, .int .u8 7, .int .u8 6] t frozen | o => o)).modify 1 (fun | .cells _ t frozen => .cells #[.int .u64 1, .int .u64 10, .int .u64 100, .int .u64 1000, .int .u64 10000, .int .u64 100000, .int .u64 1000000, .int .u64 10000000, .int .u64 100000000, .int .u64 1000000000, .int .u64 10000000000, .int .u64 100000000000, .int .u64 1000000000000, .int .u64 10000000000000, .int .u64 100000000000000, .int .u64 1000000000000000, .int .u64 10000000000000000, .int .u64 100000000000000000, .int .u64 1000000000000000000, .int .u64 10000000000000000000] t frozen | o => o)) }
theorem laid_met (os : Os) : laidMet Tryd.prog Rows.fnExactBaseTextRow.laid ((laidWorld os).forCall (fun _ _ => 0) ⟨#[], #[.agg #[.int .i64 0, .int .i64 0, .int .i64 0, .int .i64 0, .int .i64 0, .int .i64 0, .int .i64 0]], []⟩).memory :=
  laidMet_of_run' 16 (by kernel_rfl) (by kernel_rfl)
theorem reads (os : Os) {H : Type} (enc : TypeId × Value → H) : ∃ places, DataW.whole enc Tryd.prog ((laidWorld os).forCall (fun _ _ => 0) ⟨#[], #[.agg #[.int .i64 0, .int .i64 0, .int .i64 0, .int .i64 0, .int .i64 0, .int .i64 0, .int .i64 0]], []⟩).memory Tryd.f3.params.toList Rows.fnExactBaseTextSpec.vars false (#[.agg #[.int .i64 0, .int .i64 0, .int .i64 0, .int .i64 0, .int .i64 0, .int .i64 0, .int .i64 0]] : Array Value).toList 16 = some ([.agg [.lit (.int .i64 0), .lit (.int .i64 0), .lit (.int .i64 0), .lit (.int .i64 0), .lit (.int .i64 0), .lit (.int .i64 0), .lit (.int .i64 0)]], [], places) :=
  ⟨[], by kernel_rfl⟩
set_option maxRecDepth 100000 in
theorem lifted (os : Os) (started : os.Started) (H : Type) (enc : TypeId × Value → H) (F : Stop.Interp) :
    ReturnsInHanded {} Tryd.checked os 3 .any ((OpenSpec.ofChange Rows.fnExactBaseTextSpec).preRow enc Tryd.prog Tryd.f3 Rows.fnExactBaseTextRow.domain false Rows.fnExactBaseTextRow.laid) (((OpenSpec.ofChange Rows.fnExactBaseTextSpec).at F).post enc Tryd.prog Tryd.f3 false true false false) := by
  obtain ⟨places, hx⟩ := reads os enc
  refine returnsInHanded_of_row (C := Tryd.checked) (s := OpenSpec.ofChange Rows.fnExactBaseTextSpec) (show ownKnob Tryd.prog.godebug = none by kernel_rfl) started (by kernel_rfl) Tryd.func3
    (witness_row_at (enc := enc) (C := Tryd.checked) false (laidWorld os) #[.agg #[.int .i64 0, .int .i64 0, .int .i64 0, .int .i64 0, .int .i64 0, .int .i64 0, .int .i64 0]] rfl (by kernel_rfl) (by kernel_rfl) (by kernel_rfl)
      (OpenSpec.preRow_of_cond 16 hx (by kernel_rfl) (fun k hk => by cases hk) (by kernel_rfl) (laid_met os))) ?_
  intro W base args ds gs before hval0 hW _ _ hsz hL hSh _
  have hval : ∀ (j : Nat) t v, Tryd.f3.params[j]? = some t → args[j]? = some v → Value.okWide Tryd.prog W .any base t v := hval0
  have hW' := hW
  obtain ⟨p, q, hA0, hV, rfl, hfz, hnd⟩ := hW
  have hA : DataW.TrodAll enc Tryd.prog W 0 (fun _ => true) true Tryd.f3.params.toList args.toList ds p := hA0
  rw [Tryd.params3] at hA hval
  obtain ⟨v0, vs0, d0, ds0, p0, q0, hargs, rfl, rfl, h0, r0⟩ := trodAll_cons hA
  obtain ⟨rfl, rfl, rfl⟩ := trodAll_nil r0
  obtain rfl : args = #[v0] := by cases args; simp_all
  obtain ⟨rfl, rfl⟩ := trodVars_none hV
  obtain ⟨b0_0, b0_1, b0_2, b0_3, b0_4, b0_5, b0_6, rfl⟩ := open_base (hval 0 23 v0 rfl rfl) h0
  clear hA0 hval0
  refine (walk_FnExactBaseText (w := W) b0_0 b0_1 b0_2 b0_3 b0_4 b0_5 b0_6 (powTab_of (Lib.laidMet.reads (w := W) hL (.tail _ (.tail _ (.head _)))))).mono fun e W' ⟨he, hb⟩ => ?_
  subst he
  exact ⟨_, rfl, law_postV (B := 4) (by kernel_rfl) (by kernel_rfl) (by kernel_rfl) rfl Tryd.underlying4 hW' rfl hb⟩
theorem said : Rows.FnExactBaseTextSaid :=
  OpenClaim.holds_of_cond 3 Tryd.f3 rfl rfl rfl rfl rfl rfl rfl ⟨rfl, rfl, rfl, rfl, rfl⟩ rfl rfl rfl rfl rfl (by kernel_rfl) Tryd.func3 (by kernel_rfl)
    (of_decide_eq_true (by kernel_rfl)) (by unfold Func.isWrapper; first | (rw [if_pos (by decide +kernel)]; kernel_rfl) | (rw [if_neg (by decide +kernel)]; exact ⟨rfl, rfl⟩))
    (fun os started H enc _ F => by rw [OpenClaim.pre_eq_preRow]; exact lifted os started H enc F)
theorem plain (f : FuncId) (fn : Func) (hf : Tryd.pinned.checked.prog.funcNamed "loop.example/g00932/laws.FnExactBaseText" = some f) (hfn : Tryd.pinned.checked.prog.funcs[f]? = some fn) :
    false = Tryd.pinned.checked.prog.looks [] ∧ ∀ (j : Nat) t, fn.params[j]? = some t → Tryd.pinned.checked.prog.wantsStandIn t = false := by
  obtain rfl : f = 3 := Option.some.inj ((show Tryd.prog.funcNamed "loop.example/g00932/laws.FnExactBaseText" = some 3 by kernel_rfl).symm.trans hf) |>.symm
  obtain rfl : fn = Tryd.f3 := (Option.some.inj (Tryd.func3.symm.trans hfn)).symm
  refine ⟨by kernel_rfl, fun j t ht => ?_⟩
  have hall : (Tryd.f3.params.toList.all fun t => !Tryd.pinned.checked.prog.wantsStandIn t) = true := by kernel_rfl
  have := List.all_eq_true.mp hall t (by simpa using Array.mem_of_getElem? ht)
  simpa using this
/-- The statement: the card of the law: for every input it returns true, the arguments and the listed variables read afterwards as before. -/
theorem proved : Rows.FnExactBaseTextCardSaid :=
  Claim7.holds_tied_plain_at .later [] _ _ _ _ said (fun _ h => by cases h) (by kernel_rfl) (fun _ h => by cases h) fnExactBaseText_row_tie rfl ⟨rfl, rfl⟩ (by kernel_rfl) rfl plain (by kernel_rfl)
end Go.Proofs.YtjdppjcmelflbabDoor.fnExactBaseText
