/- Proved: for every input the law FnStability returns true, and each argument reads afterwards as it read before; no condition beside those of the given row. -/
import Derived.Test.YtjdppjcmelflbaaDoorRows
import Derived.WalkKit
import Derived.ProofKit
import Derived.OpenShut
import Derived.Lib.Hide
import Derived.Handy
import Derived.BigQuiet
import Derived.Carry
import Derived.ChangeSlices
import Derived.Deep.DeepCutAuto
import Derived.Deep.Draws
import Derived.Deep.QuietTactic
import Derived.Deep.RegionHeld3
import Derived.Laws.ResultCell
import Derived.Lib.ItoaLen
import Derived.Lib.ItoaNum
import Derived.Lib.Join
import Derived.Lib.LaidTab
import Derived.Lib.LaidU8
import Derived.Shelf.Abstract
import Derived.Shelf.Strings.Builder1
import Derived.Shelf.Strings.Builder2
import Derived.Shelf.Strings.OnBuilder
import Derived.Shelf.Strconv.Itoa0
import Derived.Shelf.Strconv.Itoa1
import Derived.Shelf.LaysM
import Derived.Shelf.Strconv.Itoa2
import Derived.Shelf.Strconv.Itoa3
import Derived.Shelf.Strconv.Itoa4
import Derived.Shelf.Strconv.ParseIntEmpty
import Derived.Shelf.Strconv.Clone
import Derived.Shelf.Strconv.SyntaxError
import Derived.Shelf.LaysC
import Derived.Shelf.Strconv.ToError
import Derived.Shelf.Strconv.Lower
import Derived.Shelf.Strconv.ParseUint10
import Derived.Shelf.Strconv.ParseUint10Empty
import Derived.Shelf.Strconv.ParseUint10Any
import Derived.Shelf.Strconv.ParseInt10
import Derived.Shelf.Strconv.RangeError
import Derived.Shelf.Strconv.ToErrorRange
import Derived.Shelf.Strconv.ParseUintEmpty
import Derived.Shelf.Strconv.ParseUint10b64
import Derived.Shelf.Strconv.ParseUint10b32
import Derived.Shelf.Strconv.ParseUint10b16
import Derived.Shelf.Strconv.ParseUint10b8
import Derived.Shelf.Strconv.ParseUint10At
import Derived.Shelf.Strconv.ParseInt10At64
import Derived.Shelf.Strconv.ParseInt10At32
import Derived.Shelf.Strconv.ParseInt10At16
import Derived.Shelf.Strconv.ParseInt10At8
import Derived.Shelf.Strconv.ParseInt10All
import Derived.Shelf.Strconv.ParseIntPublic10
import Derived.Shelf.Strings.Search1
import Derived.Shelf.Strings.Search2
import Derived.Shelf.Strings.Cut
import Derived.Shelf.Strings.Shaped
import Derived.Shelf.Strings.Prefix
import Derived.Shelf.Strings.FieldsFuncAny
import Derived.Test.YtjdppjcmelflbaaDoorCards
import Derived.Test.YtjdppjcmelflbaaDoorTie
import Derived.Lib.SmallJoins
import Derived.ChangeMaps5
import Derived.Deep.DeepHandedRow
import Derived.Deep.DeepWitnessRowRef
import Derived.Lib.LaidTab
import Derived.SevenTiedAt
namespace Go.Proofs
open Go.Shelf
def Tryd.lays156_ren : Go.Shelf.Ren := ⟨fun | 156 => 91 | 165 => 197 | 166 => 198 | 169 => 199 | 240 => 255 | 241 => 256 | 276 => 296 | 277 => 297 | n => n, fun | 31 => 119 | 9 => 9 | 3 => 3 | 4 => 4 | 0 => 0 | 20 => 20 | 72 => 231 | 76 => 233 | 70 => 229 | 37 => 22 | 75 => 134 | 127 => 274 | 164 => 305 | 5 => 5 | 80 => 235 | n => n, fun | n => n⟩
theorem Tryd.lays156 : Go.Proofs.Lays.n156 Tryd.prog Tryd.lays156_ren := {
  mixed := by kernel_rfl
  f156 := Tryd.func91.trans (congrArg some (by kernel_rfl))
  f165 := Tryd.func197.trans (congrArg some (by kernel_rfl))
  f166 := Tryd.func198.trans (congrArg some (by kernel_rfl))
  f169 := Tryd.func199.trans (congrArg some (by kernel_rfl))
  f240 := Tryd.func255.trans (congrArg some (by kernel_rfl))
  f241 := Tryd.func256.trans (congrArg some (by kernel_rfl))
  f276 := Tryd.func296.trans (congrArg some (by kernel_rfl))
  f277 := Tryd.func297.trans (congrArg some (by kernel_rfl))
  t0 := Tryd.underlying0
  a0 := Tryd.isAgg0
  z0 := Tryd.sizeOf0
  v0 := Tryd.zeroValue0
  t3 := Tryd.underlying3
  a3 := Tryd.isAgg3
  z3 := Tryd.sizeOf3
  v3 := Tryd.zeroValue3
  t4 := Tryd.underlying4
  a4 := Tryd.isAgg4
  z4 := Tryd.sizeOf4
  v4 := Tryd.zeroValue4
  t9 := Tryd.underlying9
  a9 := Tryd.isAgg9
  z9 := Tryd.sizeOf9
  v9 := Tryd.zeroValue9
  t20 := Tryd.underlying20
  a20 := Tryd.isAgg20
  z20 := Tryd.sizeOf20
  v20 := Tryd.zeroValue20
  t31 := Tryd.underlying119
  a31 := Tryd.isAgg119
  z31 := Tryd.sizeOf119
  v31 := Tryd.zeroValue119
  t37 := Tryd.underlying22
  a37 := Tryd.isAgg22
  z37 := Tryd.sizeOf22
  v37 := Tryd.zeroValue22
  t70 := Tryd.underlying229
  a70 := Tryd.isAgg229
  z70 := Tryd.sizeOf229
  v70 := Tryd.zeroValue229
  t72 := Tryd.underlying231
  a72 := Tryd.isAgg231
  z72 := Tryd.sizeOf231
  v72 := Tryd.zeroValue231
  t75 := Tryd.underlying134
  a75 := Tryd.isAgg134
  z75 := Tryd.sizeOf134
  v75 := Tryd.zeroValue134
  t76 := Tryd.underlying233
  a76 := Tryd.isAgg233
  z76 := Tryd.sizeOf233
  v76 := Tryd.zeroValue233
  t127 := Tryd.underlying274
  a127 := Tryd.isAgg274
  z127 := Tryd.sizeOf274
  v127 := Tryd.zeroValue274
  t164 := Tryd.underlying305
  a164 := Tryd.isAgg305
  z164 := Tryd.sizeOf305
  v164 := Tryd.zeroValue305 }
theorem Tryd.Builder_Extra_156 : Builder.Extra Tryd.prog Tryd.lays156_ren := {
  sizeBuilder := by kernel_rfl
  liesBuilder := by kernel_rfl
  t5 := Tryd.underlying5
  a5 := Tryd.isAgg5
  z5 := Tryd.sizeOf5
  v5 := Tryd.zeroValue5
  infoByte := by kernel_rfl
  cellsByte := by kernel_rfl
  sizeByte := by kernel_rfl
  neB5 := by decide }
open Go.RowKit in
/-- strings.Join: "Join concatenates the elements of its first argument to create a single string. The separator string sep is placed between elements in the resulting string.": HOWEVER MANY ELEMENTS. Below the heap's end the world is as it was. (LAID: no walk: one application.) -/
theorem Tryd.strings_Join (bk o c : Nat) (xs : List ByteArray) (sep : ByteArray) (w : World) (hcells : ∀ (j : Nat) x, xs[j]? = some x → w.cell? ⟨bk, o + j, none⟩ = some (.string x)) (hbk : bk < w.heap.size) (hN : xs.length ≤ 140737488355328) (hcap : xs.length ≤ c) (hlen : (Lib.join (xs.map (·.data.toList)) sep.data.toList).length ≤ 140737488355328) :
    Calls Tryd.prog 91 #[.slice (some ⟨bk, o, none⟩) xs.length c, .string sep] w fun e w' => e = .returned (.string ⟨(Lib.join (xs.map (·.data.toList)) sep.data.toList).toArray⟩) ∧ Below w.heap.size w w' := Any.strings_Join Tryd.lays156 Tryd.Builder_Extra_156 bk o c xs sep w hcells hbk hN hcap hlen
def Tryd.laysM173_ren : Go.Shelf.Ren := ⟨fun | 173 => 196 | 246 => 254 | 283 => 292 | 284 => 293 | 285 => 294 | 286 => 295 | 129 => 312 | 317 => 311 | 318 => 313 | 319 => 314 | 320 => 315 | 337 => 323 | 338 => 324 | n => n, fun | 2 => 2 | 3 => 3 | 9 => 9 | 4 => 4 | 171 => 300 | 0 => 0 | 53 => 220 | 37 => 22 | 5 => 5 | 173 => 303 | 212 => 329 | 51 => 330 | 20 => 20 | 213 => 331 | 46 => 236 | 232 => 344 | 233 => 345 | n => n, fun | 17 => 6 | 18 => 9 | 19 => 10 | n => n⟩
theorem Tryd.laysM173 : Go.Proofs.LaysM.n173 Tryd.prog Tryd.laysM173_ren := {
  mixed := by kernel_rfl
  f129 := Tryd.func312.trans (congrArg some (by kernel_rfl))
  f173 := Tryd.func196.trans (congrArg some (by kernel_rfl))
  f246 := Tryd.func254.trans (congrArg some (by kernel_rfl))
  f283 := Tryd.func292.trans (congrArg some (by kernel_rfl))
  f284 := Tryd.func293.trans (congrArg some (by kernel_rfl))
  f285 := Tryd.func294.trans (congrArg some (by kernel_rfl))
  f286 := Tryd.func295.trans (congrArg some (by kernel_rfl))
  f317 := Tryd.func311.trans (congrArg some (by kernel_rfl))
  f318 := Tryd.func313.trans (congrArg some (by kernel_rfl))
  f319 := Tryd.func314.trans (congrArg some (by kernel_rfl))
  f320 := Tryd.func315.trans (congrArg some (by kernel_rfl))
  f337 := Tryd.func323.trans (congrArg some (by kernel_rfl))
  f338 := Tryd.func324.trans (congrArg some (by kernel_rfl))
  t0 := Tryd.underlying0
  a0 := Tryd.isAgg0
  z0 := Tryd.sizeOf0
  v0 := Tryd.zeroValue0
  t2 := Tryd.underlying2
  a2 := Tryd.isAgg2
  z2 := Tryd.sizeOf2
  v2 := Tryd.zeroValue2
  t3 := Tryd.underlying3
  a3 := Tryd.isAgg3
  z3 := Tryd.sizeOf3
  v3 := Tryd.zeroValue3
  t4 := Tryd.underlying4
  a4 := Tryd.isAgg4
  z4 := Tryd.sizeOf4
  v4 := Tryd.zeroValue4
  t5 := Tryd.underlying5
  a5 := Tryd.isAgg5
  z5 := Tryd.sizeOf5
  v5 := Tryd.zeroValue5
  t9 := Tryd.underlying9
  a9 := Tryd.isAgg9
  z9 := Tryd.sizeOf9
  v9 := Tryd.zeroValue9
  t20 := Tryd.underlying20
  a20 := Tryd.isAgg20
  z20 := Tryd.sizeOf20
  v20 := Tryd.zeroValue20
  t37 := Tryd.underlying22
  a37 := Tryd.isAgg22
  z37 := Tryd.sizeOf22
  v37 := Tryd.zeroValue22
  t46 := Tryd.underlying236
  a46 := Tryd.isAgg236
  z46 := Tryd.sizeOf236
  v46 := Tryd.zeroValue236
  t51 := Tryd.underlying330
  a51 := Tryd.isAgg330
  z51 := Tryd.sizeOf330
  v51 := Tryd.zeroValue330
  t53 := Tryd.underlying220
  a53 := Tryd.isAgg220
  z53 := Tryd.sizeOf220
  v53 := Tryd.zeroValue220
  t171 := Tryd.underlying300
  a171 := Tryd.isAgg300
  z171 := Tryd.sizeOf300
  v171 := Tryd.zeroValue300
  t173 := Tryd.underlying303
  a173 := Tryd.isAgg303
  z173 := Tryd.sizeOf303
  v173 := Tryd.zeroValue303
  t212 := Tryd.underlying329
  a212 := Tryd.isAgg329
  z212 := Tryd.sizeOf329
  v212 := Tryd.zeroValue329
  t213 := Tryd.underlying331
  a213 := Tryd.isAgg331
  z213 := Tryd.sizeOf331
  t232 := Tryd.underlying344
  a232 := Tryd.isAgg344
  z232 := Tryd.sizeOf344
  v232 := Tryd.zeroValue344
  t233 := Tryd.underlying345
  a233 := Tryd.isAgg345
  z233 := Tryd.sizeOf345
  v233 := Tryd.zeroValue345
  g17 := by kernel_rfl
  g18 := by kernel_rfl
  g19 := by kernel_rfl
  i0 := by kernel_rfl
  i2 := by kernel_rfl
  i3 := by kernel_rfl
  i4 := by kernel_rfl
  i5 := by kernel_rfl
  i9 := by kernel_rfl
  i20 := by kernel_rfl
  i37 := by kernel_rfl
  i46 := by kernel_rfl
  i51 := by kernel_rfl
  i53 := by kernel_rfl
  i171 := by kernel_rfl
  i173 := by kernel_rfl
  i212 := by kernel_rfl
  i232 := by kernel_rfl
  i233 := by kernel_rfl
  m17 := by kernel_rfl
  m18 := by kernel_rfl
  m19 := by kernel_rfl }
open Go.RowKit Go.Sort Go.Lib in
/-- strconv.FormatInt: "FormatInt returns the string representation of i in the given base": AT BASE 10: i's decimal numeral, for every int64. (LAID: no walk: one application.) -/
theorem Tryd.strconv_FormatInt_10 (n : Int) (h0 : -9223372036854775808 ≤ n) (h1 : n ≤ 9223372036854775807) (w : World) (htab : Lib.TabIs Tryd.prog w "internal/strconv.uint64pow10" .u64 Lib.pow10Tab) :
    Calls Tryd.prog 196 #[.int .i64 n, .int .i64 10] w fun e w' => e = .returned (.string ⟨(Lib.itoa n).toArray⟩) ∧ ∃ k os, w' = grow (w.drewN k) os := Any.strconv_FormatInt_10 Tryd.laysM173 n h0 h1 w htab
end Go.Proofs
namespace Go.Proofs.YtjdppjcmelflbaaDoor
open Go.ChangeShapes Go.WideShapes Go.ChangeAt Go.RowKit
set_option linter.unusedVariables false
set_option linter.unusedSimpArgs false

theorem tmod_pos (n k : Int) (h : 0 ≤ n) : n.tmod k = n % k := Int.tmod_eq_emod_of_nonneg h

theorem trodAll_stay {H : Type} {enc : TypeId × Value → H} {P : Program} (hl : laidOutB P = true) {W W' : World} (hb : Below W.heap.size W W') :
    ∀ (ts : List TypeId) (vs : List Value) (ds : List (DataW H)) (ps : List MemPlace), ts.all (fun t => P.readableRec t && decide (t < P.types.size)) = true →
      DataW.TrodAll enc P W 0 (fun _ => true) true ts vs ds ps → (∀ x ∈ ps, x.block < W.heap.size) →
      DataW.TrodAll enc P W' 0 (fun b => decide (b < W.heap.size)) true ts vs ds ps := by
  intro ts
  induction ts with
  | nil => intro vs ds ps _ h _; obtain ⟨rfl, rfl, rfl⟩ := trodAll_nil h; exact rfl
  | cons t ts ih =>
    intro vs ds ps hr h hlt
    simp only [List.all_cons, Bool.and_eq_true, decide_eq_true_eq] at hr
    obtain ⟨v, vs', d, ds', p, q, rfl, rfl, rfl, h0, h1⟩ := trodAll_cons h
    exact ⟨p, q, Below.trod hl hr.1.1 hr.1.2 h0 hb (fun x hx => hlt x (by simp [hx])), ih _ _ _ hr.2 h1 (fun x hx => hlt x (by simp [hx])), rfl⟩

/-- Each variable's type is one that can be read. -/
def varsOk (P : Program) (ns : List String) : Bool := ns.all fun n => match P.globalNamed n with
  | some g => (match (P.globals[g]?).map (·.type) with | some t => P.readableRec t && decide (t < P.types.size) | none => true)
  | none => true

theorem trodVars_stay {H : Type} {enc : TypeId × Value → H} {P : Program} (hl : laidOutB P = true) {W W' : World} (hb : Below W.heap.size W W') :
    ∀ (ns : List String) (gs : List (DataW H)) (ps : List MemPlace), varsOk P ns = true → DataW.TrodVars enc P W (fun _ => true) ns gs ps → (∀ x ∈ ps, x.block < W.heap.size) →
      DataW.TrodVars enc P W' (fun b => decide (b < W.heap.size)) ns gs ps := by
  intro ns
  induction ns with
  | nil => intro gs ps _ h _; obtain ⟨rfl, rfl⟩ := trodVars_none h; exact rfl
  | cons n ns ih =>
    intro gs ps hv h hlt
    cases gs with
    | nil => exact h.elim
    | cons d gs =>
      obtain ⟨g, t, cs, fuel, p, q, hg, ht, hvar, hd, hr, rfl⟩ := h
      simp only [varsOk, List.all_cons, Bool.and_eq_true] at hv
      have hv1 := hv.1
      rw [hg] at hv1
      simp only [ht, Bool.and_eq_true, decide_eq_true_eq] at hv1
      have hgl : g < W.heap.size := by
        simp only [World.var?, hg, Option.bind_some] at hvar
        rcases Nat.lt_or_ge g W.heap.size with hlt | hge
        · exact hlt
        · rw [Array.getElem?_eq_none hge] at hvar; simp at hvar
      have h0 : DataW.Trod enc P W 0 (fun _ => true) true t (.agg cs) d p := ⟨fuel, by simpa [Value.cells] using hd⟩
      obtain ⟨fuel', hd'⟩ := Below.trod hl hv1.1 hv1.2 h0 hb (fun x hx => hlt x (by simp [hx]))
      refine ⟨g, t, cs, fuel', p, q, hg, ht, ?_, by simpa [Value.cells] using hd', ih _ _ hv.2 hr (fun x hx => hlt x (by simp [hx])), rfl⟩
      simp only [World.var?, hg, Option.bind_some] at hvar ⊢
      rw [hb.block g hgl]
      exact hvar

/-- A law's row at its end, the listed variables too: it returned true, and of what was there nothing has turned. -/
theorem law_postV {H : Type} {enc : TypeId × Value → H} {P : Program} {f : Func} {s : ChangeSpec} {W W' : World} {args : Array Value} {ds gs : List (DataW H)} {before : List MemPlace} {B : TypeId}
    (hl : laidOutB P = true) (hr : f.params.toList.all (fun t => P.readableRec t && decide (t < P.types.size)) = true) (hvs : varsOk P s.vars = true)
    (hres : f.resultTypes = #[B]) (hB : P.underlying B = some .bool)
    (hW : DataW.Whole enc P f.params.toList s.vars false W args.toList ds gs before)
    (hfn : s.fn H (ds ++ gs) = { results := [.lit (.bool true)], args := ds, vars := gs }) (hb : Below W.heap.size W W') :
    s.post enc P f false true false false W args (.bool true) W' := by
  have hlt : ∀ p ∈ before, p.block < W.heap.size := fun p hp => hW.lt p hp
  have hW' := hW
  obtain ⟨p, q, hA, hV, rfl, _, _⟩ := hW'
  refine ⟨ds, gs, p ++ q, [], p, q, hW, ?_, ?_, ?_, hb.frame _, fun h => by cases h⟩
  · rw [hfn, hres]
    exact trodAll_cons_mk (shut_bool hB _) trodAll_mk0
  · rw [hfn]
    exact trodAll_stay hl hb _ _ _ _ hr hA (fun x hx => hlt x (by simp [hx]))
  · rw [hfn]
    exact trodVars_stay hl hb _ _ _ hvs hV (fun x hx => hlt x (by simp [hx]))

theorem vars_one {H : Type} {enc : TypeId × Value → H} {P : Program} {W : World} {sp : Nat → Bool} {n : String} {gs : List (DataW H)} {q : List MemPlace} (h : DataW.TrodVars enc P W sp [n] gs q) : ∃ g1, gs = [g1] := by
  cases gs with
  | nil => exact h.elim
  | cons g gs =>
    obtain ⟨_, _, _, _, _, _, _, _, _, _, hr, _⟩ := h
    obtain ⟨rfl, _⟩ := trodVars_none hr
    exact ⟨_, rfl⟩

theorem vars_len {H : Type} {enc : TypeId × Value → H} {P : Program} {W : World} {sp : Nat → Bool} : ∀ (ns : List String) (gs : List (DataW H)) (q : List MemPlace), DataW.TrodVars enc P W sp ns gs q → gs.length = ns.length := by
  intro ns
  induction ns with
  | nil => intro gs q h; obtain ⟨rfl, _⟩ := trodVars_none h; rfl
  | cons n ns ih =>
    intro gs q h
    cases gs with
    | nil => exact h.elim
    | cons g gs =>
      obtain ⟨_, _, _, _, _, _, _, _, _, _, hr, _⟩ := h
      simp [ih _ _ hr]

theorem vars_three {H : Type} {enc : TypeId × Value → H} {P : Program} {W : World} {sp : Nat → Bool} {n1 n2 n3 : String} {gs : List (DataW H)} {q : List MemPlace} (h : DataW.TrodVars enc P W sp [n1, n2, n3] gs q) : ∃ g1 g2 g3, gs = [g1, g2, g3] := by
  have := vars_len _ _ _ h
  match gs, this with
  | [g1, g2, g3], _ => exact ⟨_, _, _, rfl⟩

theorem vars_two {H : Type} {enc : TypeId × Value → H} {P : Program} {W : World} {sp : Nat → Bool} {n1 n2 : String} {gs : List (DataW H)} {q : List MemPlace} (h : DataW.TrodVars enc P W sp [n1, n2] gs q) : ∃ g1 g2, gs = [g1, g2] := by
  have := vars_len _ _ _ h
  match gs, this with
  | [g1, g2], _ => exact ⟨_, _, rfl⟩

theorem kept_cell {W w1 : World} (hb : Below W.heap.size W w1) (b o : Nat) (h : b < W.heap.size) : w1.cell? ⟨b, o, none⟩ = W.cell? ⟨b, o, none⟩ := hb.cell (p := ⟨b, o, none⟩) h

theorem kept_frozen {W w1 : World} (hb : Below W.heap.size W w1) (b o : Nat) (h : b < W.heap.size) : w1.frozen? ⟨b, o, none⟩ = W.frozen? ⟨b, o, none⟩ := hb.frozen (p := ⟨b, o, none⟩) h

theorem kept_trans {a b c : World} (h : Below a.heap.size a b) (k : Below b.heap.size b c) : Below a.heap.size a c := h.trans (k.mono h.size)

theorem kept_at {W w1 : World} (hb : Below W.heap.size W w1) (b : Nat) {G : Prop} (h : b < W.heap.size)
    (k : (∀ o, w1.cell? ⟨b, o, none⟩ = W.cell? ⟨b, o, none⟩) → (∀ o, w1.frozen? ⟨b, o, none⟩ = W.frozen? ⟨b, o, none⟩) → b < w1.heap.size → G) : G :=
  k (fun o => kept_cell hb b o h) (fun o => kept_frozen hb b o h) (Nat.lt_of_lt_of_le h hb.size)

theorem kept_drewN {B : Nat} {a w : World} (h : Below B a w) (n : Nat) : Below B a (w.drewN n) := { os := h.os, tape := h.tape, output := h.output, size := h.size, block := h.block }

theorem grown_step {a b c : World} {row : Option Nat} (h : a.grownBy b row) (k : b.grownBy c row) : a.grownBy c row :=
  ⟨k.os.trans h.os, k.tape.trans h.tape, k.output.trans h.output, Nat.le_trans h.size k.size, fun i hi hne => (k.block i (Nat.lt_of_lt_of_le hi h.size) hne).trans (h.block i hi hne)⟩

theorem grown_below {a b c : World} {row : Option Nat} (h : Below a.heap.size a b) (k : b.grownBy c row) (hr : ∀ g, row = some g → a.heap.size ≤ g) : Below a.heap.size a c := h.grown k h.size hr

theorem results_cell1 {fn : Func} {p : Tmp} {ty : TypeId} (h : fn.results = #[.cell p ty]) (tmps : Array Value) (P : Program) (w : World) :
    (results fn tmps).run P w = ((asAddr (tmps.getD p undef)).run P w).andThen fun a w₁ => (loadVar ty a).run P w₁ := by
  simp only [results, h]
  simp [Sem.run_bind, Result.andThen]

theorem grown_set (w : World) (a : Addr) (u : Value) : w.grownBy (w.setCell a u) (some a.block) :=
  ⟨rfl, rfl, rfl, by simp, fun k _ hk => heap_setCell_other w a k u (fun e => hk (by rw [e]))⟩

def inB (n low high : Int) : Bool := decide (low ≤ n) && decide (n ≤ high)

theorem in_any (n low high : Int) (w : World) :
    Calls Tryd.prog 203 #[.int .i64 n, .int .i64 low, .int .i64 high] w fun e w' => e = .returned (.bool (inB n low high)) ∧ w = w' := by
  unfold inB
  by_cases h1 : low ≤ n <;> by_cases h2 : n ≤ high <;>
  · go_enter Tryd.func203, Tryd.ntmps203
    go_wp2
    go_ret
    exact ⟨by simp [*], rfl⟩

theorem inB_true {n a b : Int} (h : inB n a b = true) : a ≤ n ∧ n ≤ b := by simpa [inB] using h

/-- The slice value reads as a list of numbers. -/
def RdI (w : World) (v : Value) (zs : List Int) : Prop :=
  zs.length ≤ 9223372036854775807 ∧ ∃ A c, v = .slice A zs.length c ∧ ∀ k, (hk : k < zs.length) → ∃ b off, A = some ⟨b, off, none⟩ ∧ b < w.heap.size ∧ w.cell? ⟨b, off + k, none⟩ = some (.int .i64 zs[k])

theorem RdI_kept {W w1 : World} {v : Value} {zs : List Int} (h : RdI W v zs) (hb : Below W.heap.size W w1) : RdI w1 v zs := by
  obtain ⟨hl, A, c, rfl, hr⟩ := h
  refine ⟨hl, A, c, rfl, fun k hk => ?_⟩
  obtain ⟨b, off, e, hlt, hc⟩ := hr k hk
  exact ⟨b, off, e, Nat.lt_of_lt_of_le hlt hb.size, by rw [kept_cell hb b _ hlt]; exact hc⟩

/-- The slice reads as bytes, none of them in block x. -/
def RdB (w : World) (A : Option Addr) (n x : Nat) : Prop := ∀ k, k < n → ∃ b off z, A = some ⟨b, off, none⟩ ∧ b < w.heap.size ∧ b ≠ x ∧ w.cell? ⟨b, off + k, none⟩ = some (.int .u8 z) ∧ 0 ≤ z ∧ z ≤ 255

/-- A source of choices in block b: its bytes, how far it has come, its seed. -/
def SrcAt (w : World) (b : Nat) (v : Value) (N : Nat) : Prop := ∃ seed : Int, 0 ≤ seed ∧ seed ≤ 18446744073709551615 ∧ w.heap[b]? = some (.cells #[v, .int .i64 N, .int .u64 seed] 222 (0, 0))

/-- What a step of the source comes to. -/
def NextR (b : Nat) (v : Value) (N : Nat) (lo hi : Int) (w : World) (e : Ending) (w' : World) : Prop := ∃ x : Int, lo ≤ x ∧ x ≤ hi ∧ e = .returned (.int .i64 x) ∧ SrcAt w' b v N ∧ w.grownBy w' (some b)

theorem wrap_u64_bd (x : Int) : 0 ≤ IntKind.u64.wrap x ∧ IntKind.u64.wrap x ≤ 18446744073709551615 := by
  rw [IntKind.wrap_u64]
  omega

theorem and255_bd (a : Int) (h0 : 0 ≤ a) (h1 : a ≤ 18446744073709551615) : 0 ≤ bits .and .u64 a 255 ∧ bits .and .u64 a 255 ≤ 255 := by
  rw [u64_and a 255 h0 (by omega) (by omega) (by omega)]
  have : a.toNat &&& (255 : Int).toNat ≤ (255 : Int).toNat := Nat.and_le_right
  have e : (255 : Int).toNat = 255 := rfl
  omega

theorem src_after {w : World} {b : Nat} {v i s : Value} (hb : w.heap[b]? = some (.cells #[v, i, s] 222 (0, 0))) (k1 k2 : Nat) (i' s' : Value) :
    ((((w.drewN k1).setCell ⟨b, 1, none⟩ i').setCell ⟨b, 2, none⟩ s').drewN k2).heap[b]? = some (.cells #[v, i', s'] 222 (0, 0)) ∧
    w.grownBy ((((w.drewN k1).setCell ⟨b, 1, none⟩ i').setCell ⟨b, 2, none⟩ s').drewN k2) (some b) := by
  have h0 : (w.drewN k1).heap[b]? = some (.cells #[v, i, s] 222 (0, 0)) := hb
  have h1 := heap_setCell_same (w.drewN k1) b 1 _ _ i' h0
  have h2 := heap_setCell_same _ b 2 _ _ s' h1
  refine ⟨h2, ⟨rfl, rfl, rfl, ?_, fun k hk hne => ?_⟩⟩
  · show w.heap.size ≤ ((((w.drewN k1).setCell ⟨b, 1, none⟩ i').setCell ⟨b, 2, none⟩ s')).heap.size
    simp [World.setCell]
  · have hne' : k ≠ b := fun e => hne (by rw [e])
    show ((((w.drewN k1).setCell ⟨b, 1, none⟩ i').setCell ⟨b, 2, none⟩ s')).heap[k]? = _
    rw [heap_setCell_other _ _ _ _ hne', heap_setCell_other _ _ _ _ hne']
    rfl

theorem next_any (b : Nat) (A : Option Addr) (n c N : Nat) (w : World) (hs : SrcAt w b (.slice A n c) N) (hr : RdB w A n b) (hN : N < 1000000000) (hn : n ≤ 1000000) :
    Calls Tryd.prog 250 #[.pointer (some ⟨b, 0, none⟩)] w (NextR b (.slice A n c) (N + 1) 0 255 w) := by
  obtain ⟨seed, s0, s1, hb⟩ := hs
  have c0 : w.cell? ⟨b, 0, none⟩ = some (.slice A n c) := by rw [cell_of_row w b 0 _ _ _ hb]; rfl
  have c1 : w.cell? ⟨b, 1, none⟩ = some (.int .i64 N) := by rw [cell_of_row w b 1 _ _ _ hb]; rfl
  have c2 : w.cell? ⟨b, 2, none⟩ = some (.int .u64 seed) := by rw [cell_of_row w b 2 _ _ _ hb]; rfl
  have f1 := frozen_of_row w b 1 _ _ hb
  have f2 := frozen_of_row w b 2 _ _ hb
  have HB := Lib.hid hb; clear hb
  by_cases hlt : N < n
  · obtain ⟨g, off, z, rfl, hg, hgb, hz, z0, z1⟩ := hr N hlt
    clear hr
    go_enter Tryd.func250, Tryd.ntmps250
    go_wp2_with fail
    go_quiet (fail)
    go_wp2_with fail
    go_quiet (fail)
    go_wp2_with fail
    go_quiet (fail)
    go_wp2
    go_ret
    have h := src_after HB.out
    exact ⟨z, z0, z1, rfl, ⟨_, (wrap_u64_bd _).1, (wrap_u64_bd _).2, (h _ _ _ _).1⟩, (h _ _ _ _).2⟩
  · clear hr
    go_enter Tryd.func250, Tryd.ntmps250
    go_wp2_with fail
    go_quiet (fail)
    go_wp2_with fail
    go_quiet (fail)
    have hw := wrap_u64_bd (IntKind.u64.wrap (IntKind.u64.wrap (seed * 6364136223846793005)) + 1442695040888963407)
    go_wp2
    go_ret
    have h := src_after HB.out
    generalize hS : IntKind.u64.wrap (IntKind.u64.wrap (IntKind.u64.wrap (seed * 6364136223846793005)) + 1442695040888963407) = S at *
    have ha := and255_bd (S / 1099511627776) (by omega) (by omega)
    refine ⟨bits .and .u64 (S / 1099511627776) 255, ha.1, ha.2, ?_, ⟨S, hw.1, hw.2, (h _ _ _ _).1⟩, (h _ _ _ _).2⟩
    show Ending.returned (Value.int IntKind.i64 (wrap64 _)) = _
    rw [IntWalk.wrap64_in _ (by omega)]

/-- The slice reads as bytes. -/
def RdC (w : World) (A : Option Addr) (n : Nat) : Prop := ∀ k, k < n → ∃ b off z, A = some ⟨b, off, none⟩ ∧ b < w.heap.size ∧ w.cell? ⟨b, off + k, none⟩ = some (.int .u8 z) ∧ 0 ≤ z ∧ z ≤ 255

theorem from_any (v : Value) (w : World) (A : Option Addr) (n c : Nat) (hv : v = .slice A n c) :
    Calls Tryd.prog 86 #[v] w fun e w' => e = .returned (.pointer (some ⟨w.heap.size, 0, none⟩)) ∧ w.alloc (.cells #[v, .int .i64 0, .int .u64 0] 222) = w' := by
  subst hv
  go_enter Tryd.func86, Tryd.ntmps86
  go_wp2
  go_ret
  exact ⟨rfl, rfl⟩

theorem blk_grown {w w4 : World} {b B : Nat} {o : Obj} (h : w.heap[b]? = some o) (hg : w.grownBy w4 (some B)) (hne : b ≠ B) : w4.heap[b]? = some o := by
  have hlt : b < w.heap.size := by
    rcases Nat.lt_or_ge b w.heap.size with h' | h'
    · exact h'
    · rw [Array.getElem?_eq_none h'] at h; cases h
  rw [hg.block b hlt (fun e => hne (by injection e))]
  exact h

theorem undrew {w w1 : World} {row : Option Nat} (h : w.drew.grownBy w1 row) : w.grownBy w1 row := { os := h.os, tape := h.tape, output := h.output, size := h.size, block := h.block }

/-- A slice of bytes that came in, opened. -/
theorem open_bytes {H : Type} {enc : TypeId × Value → H} {P : Program} {W : World} {r : Reach} {b0 base : Nat} {sp : Nat → Bool} {held : Bool} {t e : TypeId} {v : Value} {d : DataW H} {p : List MemPlace}
    (ht : P.underlying t = some (.slice e)) (he : P.underlying e = some (.int .u8)) (hc : P.cellsOf e = 1) (hv : Value.okWide P W r b0 t v) (hd : DataW.Trod enc P W base sp held t v d p) :
    ∃ A n c, v = .slice A n c ∧ RdC W A n ∧ n ≤ maxLen := by
  obtain ⟨A, n, c, rfl⟩ := okWide_slice ht hv
  obtain ⟨fuel, hf⟩ := hd
  rcases open_ints ht he hc hf with ⟨hcs, _⟩ | ⟨a, l, cap, zs, hcs, _, hl, hm, hz, _, hcell, hwf⟩
  · simp [Value.cells] at hcs
    obtain ⟨rfl, rfl, rfl⟩ := hcs
    exact ⟨_, _, _, rfl, fun k hk => by omega, by omega⟩
  · simp [Value.cells] at hcs
    obtain ⟨rfl, rfl, rfl⟩ := hcs
    refine ⟨_, _, _, rfl, fun k hk => ?_, by omega⟩
    have hlen : n ≤ zs.length := by rw [hz]; split <;> omega
    obtain ⟨b, off, rfl, hc2⟩ := ints_at hcell (by omega)
    have hk2 := hc2 k (by omega)
    have hz2 := bounds_u8 (hwf (zs.getD k 0) (by simp [List.getD, show k < zs.length by omega]))
    exact ⟨b, off, zs.getD k 0, rfl, block_lt_of_cell hk2, hk2, hz2.1, hz2.2⟩

theorem RdC_kept {w w1 : World} {A : Option Addr} {n : Nat} (h : RdC w A n) (hb : Below w.heap.size w w1) : RdC w1 A n := by
  intro k hk
  obtain ⟨b, off, z, e, hlt, hc, z0, z1⟩ := h k hk
  exact ⟨b, off, z, e, Nat.lt_of_lt_of_le hlt hb.size, by rw [kept_cell hb b _ hlt]; exact hc, z0, z1⟩

/-- A row of elements of the call's own (type e, sz cells each), in a block from lo on and below hi. -/
def RowF (e sz : Nat) (w : World) (lo hi : Nat) (v : Value) (n : Nat) (xs : List Value) : Prop :=
  w.ownsRow lo e sz v n xs ∧ ∀ g, v.ownBlock = some g → lo ≤ g ∧ g < hi

theorem RowF_form {e sz : Nat} {w : World} {lo hi : Nat} {v : Value} {n : Nat} {xs : List Value} (h : RowF e sz w lo hi v n xs) :
    (n = 0 ∧ xs = [] ∧ v = .slice none 0 0) ∨ ∃ g cap, v = .slice (some ⟨g, 0, none⟩) n cap ∧ lo ≤ g ∧ g < hi ∧ g < w.heap.size ∧ n ≤ cap ∧ cap ≤ maxLen := by
  rcases h.1.2 with ⟨h1, h2⟩ | ⟨g, cap, cur, rfl, hg, hh, h3, h4, _⟩
  · exact Or.inl ⟨h2, List.eq_nil_of_length_eq_zero (by rw [h.1.1, h2, Nat.zero_mul]), h1⟩
  · exact Or.inr ⟨g, cap, rfl, hg, (h.2 g rfl).2, (h.1.lt g rfl).2, h3, h4⟩

theorem mul_bd (a b p q : Int) (h1 : 0 ≤ a ∧ a ≤ p) (h2 : 0 ≤ b ∧ b ≤ q) : 0 ≤ a * b ∧ a * b ≤ p * q :=
  ⟨Int.mul_nonneg h1.1 h2.1, Int.mul_le_mul h1.2 h2.2 h2.1 (by omega)⟩

theorem max_any (a b : Int) (w : World) :
    Calls Tryd.prog 191 #[.int .i64 a, .int .i64 b] w fun e w' => e = .returned (.int .i64 (max a b)) ∧ w = w' := by
  by_cases h : b < a
  · rw [show max a b = a by omega]
    go_enter Tryd.func191, Tryd.ntmps191
    go_wp2
    go_ret
    exact ⟨rfl, rfl⟩
  · rw [show max a b = b by omega]
    go_enter Tryd.func191, Tryd.ntmps191
    go_wp2
    go_ret
    exact ⟨rfl, rfl⟩

/-- The digits of a number, none of 0. -/
def dd (u : Nat) : List UInt8 := if u = 0 then [] else Lib.decDigits u

theorem dd_step (u : Nat) (h : u ≠ 0) : dd u = dd (u / 10) ++ [UInt8.ofNat (48 + u % 10)] := by
  unfold dd
  rw [if_neg h, Lib.decDigits]
  by_cases h1 : u < 10
  · rw [dif_pos h1, if_pos (by omega), Nat.mod_eq_of_lt h1]
    rfl
  · rw [dif_neg h1, if_neg (by omega)]

/-- A byte's cell. -/
def byteV (b : UInt8) : Value := .int .u8 (b.toNat : Int)

theorem info_byte : (Tryd.prog.info? 5).map (fun i => (i.zero, i.size, i.bytes)) = some (some (.int .u8 0), 1, 1) := by kernel_rfl

theorem dd_len (m : Nat) (h : m ≤ 9223372036854775808) : (dd m).length ≤ 20 := by
  unfold dd
  split
  · simp
  · rw [Lib.decDigits_length]
    exact Lib.nDigits_le20 m (by omega)

theorem row_news {w : World} {lo g cap : Nat} {bs : List UInt8} (h : w.ownsRow lo 5 1 (.slice (some ⟨g, 0, none⟩) bs.length cap) bs.length (bs.map byteV)) : ∀ j u, (bs.map byteV)[j]? = some u → w.cell? ((⟨g, 0, none⟩ : Addr).add j) = some u :=
  World.ownsRow.cells h rfl

theorem row_string {w : World} {lo g cap : Nat} {bs : List UInt8} (h : w.ownsRow lo 5 1 (.slice (some ⟨g, 0, none⟩) bs.length cap) bs.length (bs.map byteV)) :
    (convert 22 9 (.slice (some ⟨g, 0, none⟩) bs.length cap)).run Tryd.prog w = .ok (.string ⟨bs.toArray⟩) w :=
  run_convert_bytes_back (P := Tryd.prog) w 22 9 5 ⟨g, 0, none⟩ cap bs Tryd.underlying22 Tryd.underlying5 Tryd.underlying9 (fun j hj => row_news h j _ (by simp [hj, byteV]))

theorem byte_one (bs : List UInt8) : ∀ u ∈ bs.map byteV, u.oneCell' = true := by
  intro u hu
  obtain ⟨b, _, rfl⟩ := List.mem_map.1 hu
  rfl

/-- The loop of digits: what is left of m, and what is written. -/
def DecR (m : Nat) (w wr : World) (o : Value) (u : Nat) : Prop :=
  ∃ (bs : List UInt8) (g cap : Nat), dd m = dd u ++ bs ∧ o = .slice (some ⟨g, 0, none⟩) bs.length cap ∧ wr.ownsRow w.heap.size 5 1 o bs.length (bs.map byteV) ∧ Below w.heap.size w wr ∧ w.heap.size < wr.heap.size

set_option maxRecDepth 100000 in
theorem specDec_pos (m : Nat) (hm : m ≤ 9223372036854775807) (w : World) :
    Calls Tryd.prog 134 #[.int .i64 (m : Int)] w fun e w' => e = .returned (.string ⟨(Lib.itoa (m : Int)).toArray⟩) ∧ Below w.heap.size w w' := by
  obtain ⟨i0, hi, hz0, hz1, hz2⟩ := info_parts info_byte
  have hdl := dd_len m (by omega)
  have hF : Lib.itoa (m : Int) = Lib.decDigits m := by unfold Lib.itoa; rw [if_neg (by omega)]; simp
  rw [hF]
  clear hF
  have HR := Lib.hid (rfl : Lib.decDigits m = Lib.decDigits m)
  have hgen : ∃ F, Lib.decDigits m = F ∧ (m = 0 → F = [48]) ∧ (m ≠ 0 → F = dd m) := ⟨_, rfl, fun h => by rw [h, Lib.decDigits, dif_pos (by omega)]; rfl, fun h => by rw [dd, if_neg h]⟩
  obtain ⟨F, hF, hF0, hF1⟩ := hgen
  rw [hF]
  clear hF HR
  have HF0 := Lib.hid hF0; clear hF0
  have HF1 := Lib.hid hF1; clear hF1
  go_enter Tryd.func134, Tryd.ntmps134
  go_wp2_with fail
  go_loopw [3, 4] (fun o k wr => ∃ u : Nat, u ≤ m ∧ k = .int .i64 (u : Int) ∧ DecR m w wr o u) (fun _ k _ => (intOf k).toNat)
  case atStart => exact ⟨m, Nat.le_refl _, rfl, [], w.heap.size, 0, by simp, rfl, by simpa using World.ownsRow_lit w (e := 5) (size := 1) #[] 0 (Nat.le_refl _) (by decide) (by rfl), by go_grown, by simp⟩
  case round =>
    obtain ⟨u, hu, rfl, bs, g, cap, hdd, rfl, hown, hb, hlw⟩ := hrel
    by_cases h0 : u = 0
    · subst h0
      have hbs : dd m = bs := by simpa [dd] using hdd
      have hcv := row_string hown
      by_cases hm0 : m = 0
      · have hl0 : bs = [] := by rw [← hbs, hm0]; rfl
        subst hl0
        have HO := Lib.hid hown; clear hown
        go_wp2
        go_ret
        exact ⟨by rw [HF0.out hm0]; rfl, hb⟩
      · have hne : ((bs.length : Int) == 0) = false := by
          have : bs ≠ [] := by
            rw [← hbs, dd_step m hm0]
            simp
          have := List.length_pos_iff.2 this
          simp
          omega
        have HO := Lib.hid hown; clear hown
        have HB := Lib.hid hbs; clear hbs hdd
        go_wp2
        go_ret
        exact ⟨by rw [HF1.out hm0, HB.out]; rfl, hb⟩
    · have hst := dd_step u h0
      rw [hst, List.append_assoc] at hdd
      have hlen : bs.length ≤ 20 := by
        have := congrArg List.length hdd
        simp at this
        omega
      have hmod : (u : Int).tmod 10 = ((u % 10 : Nat) : Int) := by rw [Int.tmod_eq_emod_of_nonneg (by omega)]; omega
      have hdiv : (u : Int).tdiv 10 = ((u / 10 : Nat) : Int) := by rw [Int.tdiv_eq_ediv_of_nonneg (by omega)]; omega
      have hd10 : u % 10 < 10 := Nat.mod_lt _ (by omega)
      have hbyte : byteV (UInt8.ofNat (48 + u % 10)) = .int .u8 ((48 : Int) + ((u % 10 : Nat) : Int)) := by
        simp only [byteV]
        rw [UInt8.toNat_ofNat_of_lt' (by have : UInt8.size = 256 := rfl; omega)]
        push_cast
        rfl
      have hsz := hb.size
      have hlt10 : u / 10 < u := Nat.div_lt_self (by omega) (by omega)
      have HD := Lib.hid hdd; clear hdd hst
      have HBY := Lib.hid hbyte; clear hbyte
      generalize u / 10 = q at *
      generalize u % 10 = d at *
      have hw8 : IntKind.u8.wrap ((48 : Int) + (d : Int)) = 48 + (d : Int) := IntWalk.u8_in _ (by omega)
      have HO := Lib.hid hown; clear hown
      have hlit := World.ownsRow_lit wr (base := w.heap.size) (e := 5) (size := 1) #[.int .u8 ((48 : Int) + (d : Int))] 1 hsz (by decide) (by rfl)
      have HL := Lib.hid hlit; clear hlit
      have hone := byte_one bs
      have HONE := Lib.hid hone; clear hone
      go_wp2_with (at_builtin; refine wpList_append_own _ rfl (.tmp 21) (.tmp 22) _ rfl w.heap.size 5 i0 (.int .u8 0) 1 1 Tryd.underlying22 hi hz0 hz1 hz2 rfl (by decide) (.slice (some ⟨wr.heap.size, 0, none⟩) 1 1) 1 [.int .u8 ((48 : Int) + (d : Int))] rfl HL.out ⟨g, 0, none⟩ bs.length cap (bs.map byteV) rfl (by simp) (row_news (HO.out.alloc _)) HONE.out (by unfold maxLen; omega) (by omega) (by simp; omega) ?_; intro v2 w2 hown2 hg2 _)
      go_roundw
      case rel =>
        have hrow2 : RowF 5 1 w2 w.heap.size w2.heap.size v2 (1 + bs.length) ([.int .u8 ((48 : Int) + (d : Int))] ++ bs.map byteV) := ⟨hown2, hown2.lt⟩
        have hb2 : Below w.heap.size w w2 := grown_below (kept_trans hb (by go_grown)) hg2 (fun x hx => by simp [Value.ownBlock] at hx; omega)
        rcases RowF_form hrow2 with ⟨hz, _⟩ | ⟨g2, cap2, hv, _, _, hlt2, _, _⟩
        · omega
        · refine ⟨q, by omega, by go_num, UInt8.ofNat (48 + d) :: bs, g2, cap2, by simpa using HD.out, by rw [hv, List.length_cons, Nat.add_comm], ?_, hb2, ?_⟩
          · rw [List.map_cons, HBY.out, List.length_cons, Nat.add_comm bs.length 1]
            exact hown2
          · have := hg2.size
            simp at this
            omega
      case measure => simp [intOf]; omega

set_option maxRecDepth 100000 in
theorem specDec_neg (m : Nat) (h1m : 1 ≤ m) (hm : m ≤ 9223372036854775808) (w : World) :
    Calls Tryd.prog 134 #[.int .i64 (-(m : Int))] w fun e w' => e = .returned (.string ⟨(Lib.itoa (-(m : Int))).toArray⟩) ∧ Below w.heap.size w w' := by
  obtain ⟨i0, hi, hz0, hz1, hz2⟩ := info_parts info_byte
  have hdl := dd_len m (by omega)
  have hF : Lib.itoa (-(m : Int)) = 45 :: dd m := by unfold Lib.itoa dd; rw [if_pos (by omega), if_neg (by omega)]; simp
  rw [hF]
  clear hF
  go_enter Tryd.func134, Tryd.ntmps134
  go_wp2_with fail
  go_loopw [3, 4] (fun o k wr => ∃ u : Nat, u ≤ m ∧ k = .int .i64 (-(u : Int)) ∧ DecR m w wr o u) (fun _ k _ => (-(intOf k)).toNat)
  case atStart => exact ⟨m, Nat.le_refl _, rfl, [], w.heap.size, 0, by simp, rfl, by simpa using World.ownsRow_lit w (e := 5) (size := 1) #[] 0 (Nat.le_refl _) (by decide) (by rfl), by go_grown, by simp⟩
  case round =>
    obtain ⟨u, hu, rfl, bs, g, cap, hdd, rfl, hown, hb, hlw⟩ := hrel
    by_cases h0 : u = 0
    · subst h0
      have hbs : dd m = bs := by simpa [dd] using hdd
      have hcv := row_string hown
      have hne : ((bs.length : Int) == 0) = false := by
        have : bs ≠ [] := by
          rw [← hbs, dd_step m (by omega)]
          simp
        have := List.length_pos_iff.2 this
        simp
        omega
      have hcat : (ByteArray.mk #[45]) ++ (ByteArray.mk bs.toArray) = ByteArray.mk (45 :: bs).toArray := by
        apply ByteArray.ext
        simp [ByteArray.data_append]
      have hbl : bs.length ≤ 20 := by rw [← hbs]; exact hdl
      have HO := Lib.hid hown; clear hown
      have HB := Lib.hid hbs; clear hbs hdd
      go_wp2
      go_ret
      exact ⟨by rw [HB.out]; rfl, hb⟩
    · have hst := dd_step u h0
      rw [hst, List.append_assoc] at hdd
      have hlen : bs.length ≤ 20 := by
        have := congrArg List.length hdd
        simp at this
        omega
      have hmod : (-(u : Int)).tmod 10 = -((u % 10 : Nat) : Int) := by rw [Int.neg_tmod, Int.tmod_eq_emod_of_nonneg (by omega)]; omega
      have hdiv : (-(u : Int)).tdiv 10 = -((u / 10 : Nat) : Int) := by rw [Int.neg_tdiv, Int.tdiv_eq_ediv_of_nonneg (by omega)]; omega
      have hd10 : u % 10 < 10 := Nat.mod_lt _ (by omega)
      have hbyte : byteV (UInt8.ofNat (48 + u % 10)) = .int .u8 ((48 : Int) + ((u % 10 : Nat) : Int)) := by
        simp only [byteV]
        rw [UInt8.toNat_ofNat_of_lt' (by have : UInt8.size = 256 := rfl; omega)]
        push_cast
        rfl
      have hsz := hb.size
      have hlt10 : u / 10 < u := Nat.div_lt_self (by omega) (by omega)
      have HD := Lib.hid hdd; clear hdd hst
      have HBY := Lib.hid hbyte; clear hbyte
      generalize u / 10 = q at *
      generalize u % 10 = d at *
      have hw8 : IntKind.u8.wrap ((48 : Int) + (d : Int)) = 48 + (d : Int) := IntWalk.u8_in _ (by omega)
      have HO := Lib.hid hown; clear hown
      have hlit := World.ownsRow_lit wr (base := w.heap.size) (e := 5) (size := 1) #[.int .u8 ((48 : Int) + (d : Int))] 1 hsz (by decide) (by rfl)
      have HL := Lib.hid hlit; clear hlit
      have hone := byte_one bs
      have HONE := Lib.hid hone; clear hone
      by_cases hd0 : d = 0
      · subst hd0
        go_wp2_with (at_builtin; refine wpList_append_own _ rfl (.tmp 21) (.tmp 22) _ rfl w.heap.size 5 i0 (.int .u8 0) 1 1 Tryd.underlying22 hi hz0 hz1 hz2 rfl (by decide) (.slice (some ⟨wr.heap.size, 0, none⟩) 1 1) 1 [.int .u8 48] rfl HL.out ⟨g, 0, none⟩ bs.length cap (bs.map byteV) rfl (by simp) (row_news (HO.out.alloc _)) HONE.out (by unfold maxLen; omega) (by omega) (by simp; omega) ?_; intro v2 w2 hown2 hg2 _)
        go_roundw
        case rel =>
          have hrow2 : RowF 5 1 w2 w.heap.size w2.heap.size v2 (1 + bs.length) ([.int .u8 48] ++ bs.map byteV) := ⟨hown2, hown2.lt⟩
          have hb2 : Below w.heap.size w w2 := grown_below (kept_trans hb (by go_grown)) hg2 (fun x hx => by simp [Value.ownBlock] at hx; omega)
          rcases RowF_form hrow2 with ⟨hz, _⟩ | ⟨g2, cap2, hv, _, _, hlt2, _, _⟩
          · omega
          · refine ⟨q, by omega, by go_num, UInt8.ofNat 48 :: bs, g2, cap2, by simpa using HD.out, by rw [hv, List.length_cons, Nat.add_comm], ?_, hb2, ?_⟩
            · rw [List.map_cons, show byteV (UInt8.ofNat 48) = .int .u8 48 from rfl, List.length_cons, Nat.add_comm bs.length 1]
              exact hown2
            · have := hg2.size
              simp at this
              omega
        case measure => simp [intOf]; omega
      · have hdn : decide (-(d : Int) < 0) = true := by simp; omega
        go_wp2_with (at_builtin; refine wpList_append_own _ rfl (.tmp 21) (.tmp 22) _ rfl w.heap.size 5 i0 (.int .u8 0) 1 1 Tryd.underlying22 hi hz0 hz1 hz2 rfl (by decide) (.slice (some ⟨wr.heap.size, 0, none⟩) 1 1) 1 [.int .u8 ((48 : Int) + (d : Int))] rfl HL.out ⟨g, 0, none⟩ bs.length cap (bs.map byteV) rfl (by simp) (row_news (HO.out.alloc _)) HONE.out (by unfold maxLen; omega) (by omega) (by simp; omega) ?_; intro v2 w2 hown2 hg2 _)
        go_roundw
        case rel =>
          have hrow2 : RowF 5 1 w2 w.heap.size w2.heap.size v2 (1 + bs.length) ([.int .u8 ((48 : Int) + (d : Int))] ++ bs.map byteV) := ⟨hown2, hown2.lt⟩
          have hb2 : Below w.heap.size w w2 := grown_below (kept_trans hb (by go_grown)) hg2 (fun x hx => by simp [Value.ownBlock] at hx; omega)
          rcases RowF_form hrow2 with ⟨hz, _⟩ | ⟨g2, cap2, hv, _, _, hlt2, _, _⟩
          · omega
          · refine ⟨q, by omega, by go_num, UInt8.ofNat (48 + d) :: bs, g2, cap2, by simpa using HD.out, by rw [hv, List.length_cons, Nat.add_comm], ?_, hb2, ?_⟩
            · rw [List.map_cons, HBY.out, List.length_cons, Nat.add_comm bs.length 1]
              exact hown2
            · have := hg2.size
              simp at this
              omega
        case measure => simp [intOf]; omega

theorem specDec_any (n : Int) (h : -9223372036854775808 ≤ n ∧ n ≤ 9223372036854775807) (w : World) :
    Calls Tryd.prog 134 #[.int .i64 n] w fun e w' => e = .returned (.string ⟨(Lib.itoa n).toArray⟩) ∧ Below w.heap.size w w' := by
  rcases Int.lt_or_le n 0 with h0 | h0
  · obtain ⟨m, rfl⟩ : ∃ m : Nat, n = -(m : Int) := ⟨n.natAbs, by omega⟩
    exact specDec_neg m (by omega) (by omega) w
  · obtain ⟨m, rfl⟩ : ∃ m : Nat, n = (m : Int) := ⟨n.toNat, by omega⟩
    exact specDec_pos m (by omega) w

/-- New blocks behind the heap alone. -/
theorem below_ext {w w1 : World} (os : Array Obj) (h1 : w1.heap = w.heap ++ os) (h2 : w1.os = w.os) (h3 : w1.tape = w.tape) (h4 : w1.output = w.output) : Below w.heap.size w w1 where
  os := h2
  tape := h3
  output := h4
  size := by rw [h1]; simp
  block := fun i hi => by rw [h1]; simp [Array.getElem?_append, hi]

/-- The table of the powers of ten. -/
def PowTab (w : World) : Prop := Lib.TabIs Tryd.prog w "internal/strconv.uint64pow10" .u64 Lib.pow10Tab

theorem tab_kept {W w1 : World} {name : String} {k : IntKind} {zs : List Int} (h : Lib.TabIs Tryd.prog W name k zs) (hb : Below W.heap.size W w1) : Lib.TabIs Tryd.prog w1 name k zs := by
  unfold Lib.TabIs World.var? at *
  cases hg : (Tryd.prog).globalNamed name with
  | none => simp [hg] at h
  | some g =>
    simp only [hg, Option.bind_some] at h ⊢
    rcases Nat.lt_or_ge g W.heap.size with hlt | hge
    · rw [hb.block g hlt]
      exact h
    · rw [Array.getElem?_eq_none hge] at h
      simp at h

theorem tabIs_of_reads {P : Program} {W : World} {name : String} {k : IntKind} {zs : List Int} {g : Nat} {t e : TypeId} {n : Nat}
    (hg : P.globalNamed name = some g) (hty : (P.globals[g]?).map (·.type) = some t) (ht : P.underlying t = some (.array n e)) (he : P.underlying e = some (.int k)) (hce : P.cellsOf e = 1) (hct : P.cellsOf t = n)
    (h : Lib.VarReads P W name (Lib.tabData k zs)) : Lib.TabIs P W name k zs := by
  obtain ⟨g', t', cs, fuel, p, hg', ht', hvar, hd⟩ := h
  obtain rfl := Option.some.inj (hg.symm.trans hg')
  obtain rfl := Option.some.inj (hty.symm.trans ht')
  unfold Lib.TabIs
  rw [hvar, ← Lib.cells_of_tab ht he hce hct hd]

theorem powTab_of {W : World} (h : Lib.VarReads Tryd.prog W "internal/strconv.uint64pow10" Rows.laid_internal_strconv_uint64pow10) : PowTab W :=
  tabIs_of_reads (g := 6) (t := 329) (e := 220) (n := 20) (by kernel_rfl) (by kernel_rfl) Tryd.underlying329 Tryd.underlying220 (by kernel_rfl) (by kernel_rfl) h

theorem implDecimal_any (n : Int) (h : -9223372036854775808 ≤ n ∧ n ≤ 9223372036854775807) (w : World) (ht : PowTab w) :
    Calls Tryd.prog 90 #[.int .i64 n] w fun e w' => e = .returned (.string ⟨(Lib.itoa n).toArray⟩) ∧ Below w.heap.size w w' := by
  have H := Lib.hid (Tryd.strconv_FormatInt_10 n h.1 h.2 w ht)
  generalize Lib.itoa n = F at *
  go_enter Tryd.func90, Tryd.ntmps90
  go_wp2_with fail
  refine H.out.mono ?_
  rintro e w1 ⟨rfl, k, os, hw⟩
  have hb : Below w.heap.size w w1 := below_ext os (by rw [hw]; rfl) (by rw [hw]; rfl) (by rw [hw]; rfl) (by rw [hw]; rfl)
  clear hw
  go_wp2
  go_ret
  exact ⟨rfl, hb⟩

theorem cat_size (l : List UInt8) : (ByteArray.mk l.toArray).size = l.length := by simp [ByteArray.size]

/-- The first place at which p holds; -1 if there is none. -/
def idxL {α : Type} (p : α → Bool) (zs : List α) : Int := if zs.findIdx p < zs.length then (zs.findIdx p : Int) else -1

theorem idxL_is {α : Type} {p : α → Bool} {zs : List α} {k : Nat} (h : k < zs.length) (hk : p zs[k] = true) (hb : ∀ j (hj : j < zs.length), j < k → p zs[j] = false) : idxL p zs = (k : Int) := by
  unfold idxL
  have e : zs.findIdx p = k := by
    rw [List.findIdx_eq h]
    exact ⟨hk, fun j hj => hb j (by omega) hj⟩
  rw [e, if_pos h]

theorem idxL_none {α : Type} {p : α → Bool} {zs : List α} (hb : ∀ j (hj : j < zs.length), p zs[j] = false) : idxL p zs = -1 := by
  unfold idxL
  have e : zs.findIdx p = zs.length := by
    rw [List.findIdx_eq_length]
    intro x hx
    obtain ⟨i, hi, rfl⟩ := List.mem_iff_getElem.1 hx
    exact hb i hi
  rw [e, if_neg (by omega)]

theorem idxL_any {α : Type} (p : α → Bool) (zs : List α) : decide (0 ≤ idxL p zs) = zs.any p := by
  unfold idxL
  by_cases h : zs.findIdx p < zs.length
  · rw [if_pos h]
    have := List.findIdx_lt_length.1 h
    simp
    obtain ⟨x, hx, hp⟩ := this
    exact ⟨x, hx, hp⟩
  · rw [if_neg h]
    have : ¬ ∃ x ∈ zs, p x = true := fun hx => h (List.findIdx_lt_length.2 hx)
    simp at this ⊢
    exact this

theorem idxL_bd {α : Type} (p : α → Bool) (zs : List α) : -1 ≤ idxL p zs ∧ idxL p zs ≤ zs.length := by
  unfold idxL
  split <;> omega

/-- A base's numbers (side, mass, ballast, jib's mass, its radius, counterweight, its radius) are as asked. -/
def baseB (s m b j a c d : Int) : Bool := inB s 10 200 && inB m 1 500000 && inB b 0 500000 && inB j 0 500000 && inB c 0 500000 && inB a 0 1000 && inB d 0 1000

/-- The mass of a crane with a load. -/
def totL (m b j c l : Int) : Int := m + b + j + c + l

/-- The moment of a crane with a load at a radius. -/
def tipL (j a c d l r : Int) : Int := l * r + j * a - c * d

/-- A moment without its sign. -/
def tiltL (n : Int) : Int := max n (-n)

theorem seven (p0 p1 p2 p3 p4 p5 p6 : Bool) : p0 = false ∨ (p0 = true ∧ p1 = false) ∨ (p0 = true ∧ p1 = true ∧ p2 = false) ∨ (p0 = true ∧ p1 = true ∧ p2 = true ∧ p3 = false) ∨ (p0 = true ∧ p1 = true ∧ p2 = true ∧ p3 = true ∧ p4 = false) ∨
    (p0 = true ∧ p1 = true ∧ p2 = true ∧ p3 = true ∧ p4 = true ∧ p5 = false) ∨ (p0 = true ∧ p1 = true ∧ p2 = true ∧ p3 = true ∧ p4 = true ∧ p5 = true ∧ p6 = false) ∨ (p0 = true ∧ p1 = true ∧ p2 = true ∧ p3 = true ∧ p4 = true ∧ p5 = true ∧ p6 = true) := by
  cases p0 <;> cases p1 <;> cases p2 <;> cases p3 <;> cases p4 <;> cases p5 <;> cases p6 <;> simp

theorem three (p0 p1 p2 : Bool) : p0 = false ∨ (p0 = true ∧ p1 = false) ∨ (p0 = true ∧ p1 = true ∧ p2 = false) ∨ (p0 = true ∧ p1 = true ∧ p2 = true) := by
  cases p0 <;> cases p1 <;> cases p2 <;> simp

/-- What is known of the numbers of a base. -/
theorem base_bd {s m b j a c d : Int} (h : baseB s m b j a c d = true) : (10 ≤ s ∧ s ≤ 200) ∧ (1 ≤ m ∧ m ≤ 500000) ∧ (0 ≤ b ∧ b ≤ 500000) ∧ (0 ≤ j ∧ j ≤ 500000) ∧ (0 ≤ c ∧ c ≤ 500000) ∧ (0 ≤ a ∧ a ≤ 1000) ∧ 0 ≤ d ∧ d ≤ 1000 := by
  simp only [baseB, Bool.and_eq_true] at h
  obtain ⟨⟨⟨⟨⟨⟨g0, g1⟩, g2⟩, g3⟩, g4⟩, g5⟩, g6⟩ := h
  exact ⟨inB_true g0, inB_true g1, inB_true g2, inB_true g3, inB_true g4, inB_true g5, inB_true g6⟩

/-- The parts of a moment, and that they are not too great. -/
def TipP (x y z : Int) : Prop := (0 ≤ x ∧ x ≤ 50000000) ∧ (0 ≤ y ∧ y ≤ 500000000) ∧ 0 ≤ z ∧ z ≤ 500000000

theorem tip_parts {s m b j a c d l r : Int} (h : baseB s m b j a c d = true) (hl : inB l 0 50000 = true) (hr : inB r 0 1000 = true) : TipP (l * r) (j * a) (c * d) := by
  obtain ⟨_, _, _, h3, h4, h5, h6⟩ := base_bd h
  exact ⟨mul_bd l r 50000 1000 (inB_true hl) (inB_true hr), mul_bd j a 500000 1000 h3 h5, mul_bd c d 500000 1000 h4 h6⟩

/-- A base at the beginning of a block. -/
def BaAt (w : World) (p : Nat) (s m b j a c d : Int) : Prop :=
  w.cell? ⟨p, 0, none⟩ = some (.int .i64 s) ∧ w.cell? ⟨p, 1, none⟩ = some (.int .i64 m) ∧ w.cell? ⟨p, 2, none⟩ = some (.int .i64 b) ∧ w.cell? ⟨p, 3, none⟩ = some (.int .i64 j) ∧
    w.cell? ⟨p, 4, none⟩ = some (.int .i64 a) ∧ w.cell? ⟨p, 5, none⟩ = some (.int .i64 c) ∧ w.cell? ⟨p, 6, none⟩ = some (.int .i64 d)

theorem BaAt_kept {W w1 : World} {p : Nat} {s m b j a c d : Int} (h : BaAt W p s m b j a c d) (hb : Below W.heap.size W w1) : BaAt w1 p s m b j a c d := by
  obtain ⟨h0, h1, h2, h3, h4, h5, h6⟩ := h
  have hl := World.block_lt_of_cell? _ _ h0
  refine ⟨?_, ?_, ?_, ?_, ?_, ?_, ?_⟩ <;> (rw [kept_cell hb p _ hl]; assumption)

theorem BaAt_new (s m b j a c d : Int) (w : World) : BaAt (w.alloc (.cells #[.int .i64 s, .int .i64 m, .int .i64 b, .int .i64 j, .int .i64 a, .int .i64 c, .int .i64 d] 61)) w.heap.size s m b j a c d := ⟨by simp, by simp, by simp, by simp, by simp, by simp, by simp⟩

theorem mass_any (n : Int) (w : World) :
    Calls Tryd.prog 219 #[.int .i64 n] w fun e w' => e = .returned (.bool (inB n 0 500000)) ∧ w = w' := by
  go_enter Tryd.func219, Tryd.ntmps219
  go_wp2_with (go_at_call 203; refine (in_any _ _ _ _).mono ?_; rintro e w1 ⟨rfl, rfl⟩)
  go_ret
  exact ⟨rfl, rfl⟩

theorem specBase_any (p : Nat) (s m b j a c d : Int) (w : World) (h : BaAt w p s m b j a c d) :
    Calls Tryd.prog 133 #[.pointer (some ⟨p, 0, none⟩)] w fun e w' => e = .returned (.bool (baseB s m b j a c d)) ∧ w = w' := by
  obtain ⟨h0, h1, h2, h3, h4, h5, h6⟩ := h
  unfold baseB
  rcases seven (inB s 10 200) (inB m 1 500000) (inB b 0 500000) (inB j 0 500000) (inB c 0 500000) (inB a 0 1000) (inB d 0 1000) with g | ⟨g0, g⟩ | ⟨g0, g1, g⟩ | ⟨g0, g1, g2, g⟩ | ⟨g0, g1, g2, g3, g⟩ | ⟨g0, g1, g2, g3, g4, g⟩ | ⟨g0, g1, g2, g3, g4, g5, g⟩ | ⟨g0, g1, g2, g3, g4, g5, g⟩
  all_goals
    go_enter Tryd.func133, Tryd.ntmps133
    go_wp2_with (first | (go_at_call 203; refine (in_any _ _ _ _).mono ?_; rintro e w1 ⟨rfl, rfl⟩) | (go_at_call 219; refine (mass_any _ _).mono ?_; rintro e w1 ⟨rfl, rfl⟩))
    go_ret
    exact ⟨by simp [*], rfl⟩

theorem specVB_any (s m b j a c d : Int) (w : World) :
    Calls Tryd.prog 39 #[.agg #[.int .i64 s, .int .i64 m, .int .i64 b, .int .i64 j, .int .i64 a, .int .i64 c, .int .i64 d]] w fun e w' => e = .returned (.bool (baseB s m b j a c d)) ∧ Below w.heap.size w w' := by
  go_enter Tryd.func39, Tryd.ntmps39
  go_wp2_with (go_at_call 133; refine (specBase_any _ s m b j a c d _ (BaAt_new _ _ _ _ _ _ _ _)).mono ?_; rintro e w1 ⟨rfl, rfl⟩)
  go_ret
  exact ⟨rfl, by go_grown⟩

/-- The code of a base and of what is told about the other arguments. -/
def codeL3 (B : Bool) (bs : List Bool) : Int := if B then (if bs.all id then 0 else 2) else 1

theorem codeL3_ok {B : Bool} {bs : List Bool} (h : codeL3 B bs = 0) : B = true ∧ ∀ x ∈ bs, x = true := by
  unfold codeL3 at h
  cases B
  · simp at h
  · cases hb : bs.all id
    · rw [hb] at h; simp at h
    · exact ⟨rfl, fun x hx => by have := List.all_eq_true.1 hb x hx; simpa using this⟩

theorem specBCode_any (p : Nat) (s m b j a c d : Int) (l r : Int) (w : World) (h : BaAt w p s m b j a c d) :
    Calls Tryd.prog 135 #[.pointer (some ⟨p, 0, none⟩), .int .i64 l, .int .i64 r] w fun e w' => e = .returned (.int .i64 (codeL3 (baseB s m b j a c d) [inB l 0 50000, inB r 0 1000])) ∧ w = w' := by
  have HB := Lib.hid (specBase_any p s m b j a c d w h); clear h
  rcases three (baseB s m b j a c d) (inB l 0 50000) (inB r 0 1000) with g | ⟨g0, g⟩ | ⟨g0, g1, g⟩ | ⟨g0, g1, g⟩
  all_goals
    generalize baseB s m b j a c d = B at *
    subst_vars
    go_enter Tryd.func135, Tryd.ntmps135
    go_wp2_with fail
    refine HB.out.mono ?_
    rintro e w1 ⟨rfl, rfl⟩
    go_wp2_with (go_at_call 203; refine (in_any _ _ _ _).mono ?_; rintro e w1 ⟨rfl, rfl⟩)
    go_ret
    exact ⟨by simp [codeL3, *], rfl⟩

theorem specPercent_any (n : Int) (w : World) :
    Calls Tryd.prog 218 #[.int .i64 n] w fun e w' => e = .returned (.bool (inB n 100 1000)) ∧ w = w' := by
  go_enter Tryd.func218, Tryd.ntmps218
  go_wp2_with (go_at_call 203; refine (in_any _ _ _ _).mono ?_; rintro e w1 ⟨rfl, rfl⟩)
  go_ret
  exact ⟨rfl, rfl⟩

theorem specAsked_any (p : Nat) (s m b j a c d : Int) (l r q : Int) (w : World) (h : BaAt w p s m b j a c d) :
    Calls Tryd.prog 131 #[.pointer (some ⟨p, 0, none⟩), .int .i64 l, .int .i64 r, .int .i64 q] w fun e w' => e = .returned (.int .i64 (codeL3 (baseB s m b j a c d) [inB l 0 50000, inB r 0 1000, inB q 100 1000])) ∧ w = w' := by
  have HC := specBCode_any p s m b j a c d l r w h
  clear h
  have hE : codeL3 (baseB s m b j a c d) [inB l 0 50000, inB r 0 1000, inB q 100 1000] = if codeL3 (baseB s m b j a c d) [inB l 0 50000, inB r 0 1000] = 0 then (if inB q 100 1000 then 0 else 2) else codeL3 (baseB s m b j a c d) [inB l 0 50000, inB r 0 1000] := by
    unfold codeL3
    cases baseB s m b j a c d <;> cases inB l 0 50000 <;> cases inB r 0 1000 <;> cases inB q 100 1000 <;> simp
  rw [hE]
  clear hE
  generalize codeL3 (baseB s m b j a c d) [inB l 0 50000, inB r 0 1000] = K at *
  have HC := Lib.hid HC
  by_cases hK : K = 0
  · subst hK
    rw [if_pos rfl]
    cases hq : inB q 100 1000
    all_goals
      go_enter Tryd.func131, Tryd.ntmps131
      go_wp2_with fail
      refine HC.out.mono ?_
      rintro e w1 ⟨rfl, rfl⟩
      go_wp2_with (go_at_call 218; refine (specPercent_any _ _).mono ?_; rintro e w1 ⟨rfl, rfl⟩)
      go_ret
      exact ⟨rfl, rfl⟩
  · rw [if_neg hK]
    have hK1 : (K == 0) = false := by simpa using hK
    have hK2 : (K != 0) = true := by simpa using hK
    go_enter Tryd.func131, Tryd.ntmps131
    go_wp2_with fail
    refine HC.out.mono ?_
    rintro e w1 ⟨rfl, rfl⟩
    go_wp2_with fail
    go_ret
    exact ⟨rfl, rfl⟩

theorem BaAt_drew {w : World} {p : Nat} {s m b j a c d : Int} (h : BaAt w p s m b j a c d) (n : Nat) : BaAt (w.drewN n) p s m b j a c d := BaAt_kept h (kept_drewN (Below.refl _ _) n)

theorem specTotal_any (p : Nat) (s m b j a c d : Int) (l : Int) (w : World) (h : BaAt w p s m b j a c d) (hv : baseB s m b j a c d = true) (hl : inB l 0 50000 = true) :
    Calls Tryd.prog 136 #[.pointer (some ⟨p, 0, none⟩), .int .i64 l] w fun e w' => e = .returned (.int .i64 (totL m b j c l)) ∧ ∃ n, w' = w.drewN n := by
  obtain ⟨h0, h1, h2, h3, h4, h5, h6⟩ := h
  have hb := base_bd hv
  have hi := inB_true hl
  unfold totL
  clear hv hl
  have w1 : IntKind.i64.wrap (m + b) = m + b := IntWalk.i64_in _ (by omega)
  have w2 : IntKind.i64.wrap (m + b + j) = m + b + j := IntWalk.i64_in _ (by omega)
  have w3 : IntKind.i64.wrap (m + b + j + c) = m + b + j + c := IntWalk.i64_in _ (by omega)
  have w4 : IntKind.i64.wrap (m + b + j + c + l) = m + b + j + c + l := IntWalk.i64_in _ (by omega)
  go_enter Tryd.func136, Tryd.ntmps136
  go_wp2_with fail
  go_quiet (fail)
  go_wp2
  go_ret
  exact ⟨rfl, _, rfl⟩

theorem specTip_any (p : Nat) (s m b j a c d : Int) (l r : Int) (w : World) (h : BaAt w p s m b j a c d) (hm : TipP (l * r) (j * a) (c * d)) :
    Calls Tryd.prog 137 #[.pointer (some ⟨p, 0, none⟩), .int .i64 l, .int .i64 r] w fun e w' => e = .returned (.int .i64 (tipL j a c d l r)) ∧ ∃ n, w' = w.drewN n := by
  obtain ⟨h0, h1, h2, h3, h4, h5, h6⟩ := h
  obtain ⟨m0, m1, m2⟩ := hm
  unfold tipL
  have w1 : IntKind.i64.wrap (l * r) = l * r := IntWalk.i64_in _ (by omega)
  have w2 : IntKind.i64.wrap (j * a) = j * a := IntWalk.i64_in _ (by omega)
  have w3 : IntKind.i64.wrap (c * d) = c * d := IntWalk.i64_in _ (by omega)
  have w4 : IntKind.i64.wrap (l * r + j * a) = l * r + j * a := IntWalk.i64_in _ (by omega)
  have w5 : IntKind.i64.wrap (l * r + j * a - c * d) = l * r + j * a - c * d := IntWalk.i64_in _ (by omega)
  go_enter Tryd.func137, Tryd.ntmps137
  go_wp2_with fail
  go_quiet (fail)
  go_wp2
  go_ret
  exact ⟨rfl, _, rfl⟩

theorem specSize_any (n : Int) (h : -1000000000000000000 ≤ n ∧ n ≤ 1000000000000000000) (w : World) :
    Calls Tryd.prog 139 #[.int .i64 n] w fun e w' => e = .returned (.int .i64 (tiltL n)) ∧ w = w' := by
  unfold tiltL
  go_enter Tryd.func139, Tryd.ntmps139
  go_wp2_with (go_at_call 191; refine (max_any _ _ _).mono ?_; rintro e w1 ⟨rfl, rfl⟩)
  go_ret
  exact ⟨rfl, rfl⟩

/-- A crane has a safety. -/
def stabB (s m b j a c d : Int) (l r q : Int) : Bool := decide (2 * q * tiltL (tipL j a c d l r) ≤ 100 * totL m b j c l * s)

/-- The numbers of a stability, and that their products are not too great. -/
def StabP (T M s q : Int) : Prop := (0 ≤ T ∧ T ≤ 2050000) ∧ (-550000000 ≤ M ∧ M ≤ 550000000) ∧ (0 ≤ tiltL M ∧ tiltL M ≤ 550000000) ∧ (0 ≤ 100 * T * s ∧ 100 * T * s ≤ 41000000000) ∧ (0 ≤ 2 * q * tiltL M ∧ 2 * q * tiltL M ≤ 1100000000000) ∧ (0 ≤ T * s ∧ T * s ≤ 410000000)

theorem stab_parts {s m b j a c d l r q : Int} (h : baseB s m b j a c d = true) (hl : inB l 0 50000 = true) (hr : inB r 0 1000 = true) (hq : inB q 0 1000 = true) : StabP (totL m b j c l) (tipL j a c d l r) s q := by
  have hp := tip_parts h hl hr
  have hb := base_bd h
  have gl := inB_true hl
  have gq := inB_true hq
  obtain ⟨p0, p1, p2⟩ := hp
  have hT : 0 ≤ totL m b j c l ∧ totL m b j c l ≤ 2050000 := by unfold totL; omega
  have hM : -550000000 ≤ tipL j a c d l r ∧ tipL j a c d l r ≤ 550000000 := by unfold tipL; omega
  have hA : 0 ≤ tiltL (tipL j a c d l r) ∧ tiltL (tipL j a c d l r) ≤ 550000000 := by unfold tiltL; omega
  have k1 := mul_bd (100 * totL m b j c l) s 205000000 200 (by omega) (by omega)
  have k2 := mul_bd (2 * q) (tiltL (tipL j a c d l r)) 2000 550000000 (by omega) hA
  have k3 := mul_bd (totL m b j c l) s 2050000 200 (by omega) (by omega)
  exact ⟨hT, hM, hA, by omega, by omega, by omega⟩

theorem specStable_any (p : Nat) (s m b j a c d : Int) (l r q : Int) (w : World) (h : BaAt w p s m b j a c d) (hv : baseB s m b j a c d = true) (hl : inB l 0 50000 = true) (hr : inB r 0 1000 = true) (hq : inB q 0 1000 = true) :
    Calls Tryd.prog 132 #[.pointer (some ⟨p, 0, none⟩), .int .i64 l, .int .i64 r, .int .i64 q] w fun e w' => e = .returned (.bool (stabB s m b j a c d l r q)) ∧ ∃ n, w' = w.drewN n := by
  have HT := Lib.hid (fun n => specTotal_any p s m b j a c d l (w.drewN n) (BaAt_drew h n) hv hl)
  have hS := stab_parts hv hl hr hq
  have HM := Lib.hid (fun n => specTip_any p s m b j a c d l r (w.drewN n) (BaAt_drew h n) (tip_parts hv hl hr))
  obtain ⟨h0, h1, h2, h3, h4, h5, h6⟩ := h
  have gq := inB_true hq
  have gs := (base_bd hv).1
  unfold stabB
  clear h1 h2 h3 h4 h5 h6 hv hl hr hq
  generalize totL m b j c l = T at *
  generalize tipL j a c d l r = M at *
  have HA := Lib.hid (fun u => specSize_any M (by have := hS.2.1; omega) u)
  obtain ⟨s0, s1, s2, s3, s4, _⟩ := hS
  generalize tiltL M = A at *
  have x1 : IntKind.i64.wrap (100 * T) = 100 * T := IntWalk.i64_in _ (by omega)
  have x2 : IntKind.i64.wrap (100 * T * s) = 100 * T * s := IntWalk.i64_in _ (by omega)
  have x3 : IntKind.i64.wrap (2 * q) = 2 * q := IntWalk.i64_in _ (by omega)
  have x4 : IntKind.i64.wrap (2 * q * A) = 2 * q * A := IntWalk.i64_in _ (by omega)
  go_enter Tryd.func132, Tryd.ntmps132
  go_wp2_with fail
  go_quiet (first | (go_at_call 136; exact Calls.quiet_of (HT.out _)) | (go_at_call 137; exact Calls.quiet_of (HM.out _)) | (go_at_call 139; exact Calls.quiet_of_same ((HA.out _).mono fun e w' h => ⟨h.1, h.2.symm⟩)))
  go_wp2
  go_ret
  exact ⟨rfl, _, rfl⟩

theorem tilt_abs (n : Int) : tiltL n = (n.natAbs : Int) := by unfold tiltL; omega

/-- A fraction in lowest terms. -/
def lowL (n d : Int) : Int × Int := (n.tdiv (Nat.gcd n.natAbs d.natAbs : Nat), d.tdiv (Nat.gcd n.natAbs d.natAbs : Nat))

theorem low_scale (g x y : Int) (hg : 0 < g) : lowL (g * x) (g * y) = lowL x y := by
  unfold lowL
  rw [Int.natAbs_mul, Int.natAbs_mul, Nat.gcd_mul_left, Int.natCast_mul, Int.natAbs_of_nonneg (by omega)]
  rw [Int.mul_tdiv_mul_of_pos _ _ hg, Int.mul_tdiv_mul_of_pos _ _ hg]

theorem tdiv_bd (n : Int) (g : Nat) (k : Int) (h : -k ≤ n ∧ n ≤ k) : -k ≤ n.tdiv g ∧ n.tdiv g ≤ k := by
  have := Int.natAbs_tdiv n g
  have h2 := Nat.div_le_self n.natAbs (g : Int).natAbs
  have h3 : (n.tdiv g).natAbs ≤ n.natAbs := by rw [this]; exact h2
  omega

theorem gcd_pos' (n d : Int) (hd : 0 < d) : 0 < Nat.gcd n.natAbs d.natAbs := Nat.gcd_pos_of_pos_right _ (by omega)

/-- The greatest pressure, and its code. -/
def pressL (T A s : Int) : (Int × Int) × Int :=
  if T * s ≤ 2 * A then ((0, 0), 10) else if 6 * A ≤ T * s then (lowL (T * s + 6 * A) (s * s * s), 0) else (lowL (4 * T * T) (3 * s * (T * s - 2 * A)), 0)

theorem press_scale (T A s : Int) (hT : 0 < T) : lowL (4 * T * (T.tdiv (Nat.gcd A.natAbs T.natAbs : Nat))) (3 * s * ((T.tdiv (Nat.gcd A.natAbs T.natAbs : Nat)) * s - 2 * (A.tdiv (Nat.gcd A.natAbs T.natAbs : Nat)))) = lowL (4 * T * T) (3 * s * (T * s - 2 * A)) := by
  have hp := gcd_pos' A T hT
  have d1 : ((Nat.gcd A.natAbs T.natAbs : Nat) : Int) ∣ A := Int.ofNat_dvd_left.2 (Nat.gcd_dvd_left _ _)
  have d2 : ((Nat.gcd A.natAbs T.natAbs : Nat) : Int) ∣ T := Int.ofNat_dvd_left.2 (Nat.gcd_dvd_right _ _)
  generalize Nat.gcd A.natAbs T.natAbs = g at *
  have e1 := Int.mul_tdiv_cancel' d1
  have e2 := Int.mul_tdiv_cancel' d2
  generalize A.tdiv g = x at *
  generalize T.tdiv g = y at *
  rw [← low_scale (g : Int) (4 * T * y) _ (by omega)]
  congr 1
  · rw [← e2]; grind
  · rw [← e2, ← e1]; grind

/-- The least ballast with which a total is enough. -/
def leastL (T0 s X : Int) : Int := max 0 ((X + 100 * s - 1) / (100 * s) - T0)

theorem least_iff (T0 s X k : Int) (hs : 0 < s) (hk : 0 ≤ k) : X ≤ 100 * (T0 + k) * s ↔ leastL T0 s X ≤ k := by
  unfold leastL
  have h1 : 100 * (T0 + k) * s = (T0 + k) * (100 * s) := by grind
  rw [h1]
  have h2 : (X + 100 * s - 1) / (100 * s) ≤ T0 + k ↔ X ≤ (T0 + k) * (100 * s) := by
    rw [← Int.lt_add_one_iff, Int.ediv_lt_iff_lt_mul (by omega), Int.add_mul]
    omega
  rw [← h2]
  omega

theorem gcd_step (x y : Nat) : Nat.gcd y (x % y) = Nat.gcd x y := by rw [Nat.gcd_comm x y, Nat.gcd_rec y x, Nat.gcd_comm]

theorem specGcd_any (x y : Nat) (hx : x ≤ 9000000000000000000) (hy : y ≤ 9000000000000000000) (w : World) :
    Calls Tryd.prog 140 #[.int .i64 x, .int .i64 y] w fun e w' => e = .returned (.int .i64 (Nat.gcd x y : Nat)) ∧ Below w.heap.size w w' := by
  have HE := Lib.hid (rfl : Nat.gcd x y = Nat.gcd x y)
  generalize hG : Nat.gcd x y = G at *
  have HG := Lib.hid hG; clear hG HE
  go_enter Tryd.func140, Tryd.ntmps140
  go_wp2_with fail
  go_loopw [0, 1] (fun u v wr => ∃ a b : Nat, a ≤ 9000000000000000000 ∧ b ≤ 9000000000000000000 ∧ u = .int .i64 a ∧ v = .int .i64 b ∧ Nat.gcd a b = G ∧ Below w.heap.size w wr) (fun _ v _ => (intOf v).toNat)
  case atStart => exact ⟨x, y, hx, hy, rfl, rfl, HG.out, Below.refl _ _⟩
  case round =>
    obtain ⟨a, b, ha, hb0, rfl, rfl, hgab, hb⟩ := hrel
    by_cases hz : b = 0
    · subst hz
      rw [Nat.gcd_zero_right] at hgab
      subst hgab
      go_wp2
      go_ret
      exact ⟨rfl, hb⟩
    · have b0 : ((b : Int) == 0) = false := by simp; omega
      have b1 : ¬ (b : Int) = 0 := by omega
      have b2 : ¬ (b : Int) = -1 := by omega
      have b3 : ((b : Int) != 0) = true := by simp; omega
      have b4 : decide (0 < b) = true := by simp; omega
      have e1 : (a : Int).tmod (b : Int) = ((a % b : Nat) : Int) := by rw [Int.tmod_eq_emod_of_nonneg (by omega)]; rfl
      have hlt := Nat.mod_lt a (show 0 < b by omega)
      have hgs := gcd_step a b
      rw [hgab] at hgs
      have HGS := Lib.hid hgs; clear hgs
      have hw1 : IntKind.i64.wrap ((a % b : Nat) : Int) = ((a % b : Nat) : Int) := IntWalk.i64_in _ (by omega)
      generalize a % b = t at *
      go_wp2_with fail
      go_quiet (fail)
      go_wp2
      go_roundw
      case rel => exact ⟨b, t, hb0, by omega, by go_num, by simp [e1], HGS.out, kept_drewN hb _⟩
      case measure => simp [intOf, e1]; omega

theorem implGcd_any (x y : Nat) (hx : x ≤ 9000000000000000000) (hy : y ≤ 9000000000000000000) (w : World) :
    Calls Tryd.prog 220 #[.int .i64 x, .int .i64 y] w fun e w' => e = .returned (.int .i64 (Nat.gcd x y : Nat)) ∧ Below w.heap.size w w' := by
  have HE := Lib.hid (rfl : Nat.gcd x y = Nat.gcd x y)
  generalize hG : Nat.gcd x y = G at *
  have HG := Lib.hid hG; clear hG HE
  go_enter Tryd.func220, Tryd.ntmps220
  go_wp2_with fail
  go_loopw [0, 1] (fun u v wr => ∃ a b : Nat, a ≤ 9000000000000000000 ∧ b ≤ 9000000000000000000 ∧ u = .int .i64 a ∧ v = .int .i64 b ∧ Nat.gcd a b = G ∧ Below w.heap.size w wr) (fun _ v _ => (intOf v).toNat)
  case atStart => exact ⟨x, y, hx, hy, rfl, rfl, HG.out, Below.refl _ _⟩
  case round =>
    obtain ⟨a, b, ha, hb0, rfl, rfl, hgab, hb⟩ := hrel
    by_cases hz : b = 0
    · subst hz
      rw [Nat.gcd_zero_right] at hgab
      subst hgab
      go_wp2
      go_ret
      exact ⟨rfl, hb⟩
    · have b0 : ((b : Int) == 0) = false := by simp; omega
      have b1 : ¬ (b : Int) = 0 := by omega
      have b2 : ¬ (b : Int) = -1 := by omega
      have b3 : ((b : Int) != 0) = true := by simp; omega
      have b4 : decide (0 < b) = true := by simp; omega
      have e1 : (a : Int).tmod (b : Int) = ((a % b : Nat) : Int) := by rw [Int.tmod_eq_emod_of_nonneg (by omega)]; rfl
      have hlt := Nat.mod_lt a (show 0 < b by omega)
      have hgs := gcd_step a b
      rw [hgab] at hgs
      have HGS := Lib.hid hgs; clear hgs
      have hw1 : IntKind.i64.wrap ((a % b : Nat) : Int) = ((a % b : Nat) : Int) := IntWalk.i64_in _ (by omega)
      generalize a % b = t at *
      go_wp2_with fail
      go_quiet (fail)
      go_wp2
      go_roundw
      case rel => exact ⟨b, t, hb0, by omega, by go_num, by simp [e1], HGS.out, kept_drewN hb _⟩
      case measure => simp [intOf, e1]; omega

theorem RdI_of (w : World) (g c : Nat) (zs : List Int) (hl : zs.length ≤ 9223372036854775807) (hg : g < w.heap.size) (hc : ∀ k, (hk : k < zs.length) → w.cell? ⟨g, k, none⟩ = some (.int .i64 zs[k])) : RdI w (.slice (some ⟨g, 0, none⟩) zs.length c) zs :=
  ⟨hl, _, _, rfl, fun k hk => ⟨g, 0, rfl, hg, by rw [Nat.zero_add]; exact hc k hk⟩⟩

theorem rdI1 {w : World} {g c : Nat} {x : Int} (hg : g < w.heap.size) (h0 : w.cell? ⟨g, 0, none⟩ = some (.int .i64 x)) : RdI w (.slice (some ⟨g, 0, none⟩) 1 c) [x] :=
  RdI_of w g c [x] (by simp) hg (fun k hk => by simp at hk; subst hk; exact h0)

theorem rdI2 {w : World} {g c : Nat} {x y : Int} (hg : g < w.heap.size) (h0 : w.cell? ⟨g, 0, none⟩ = some (.int .i64 x)) (h1 : w.cell? ⟨g, 1, none⟩ = some (.int .i64 y)) : RdI w (.slice (some ⟨g, 0, none⟩) 2 c) [x, y] :=
  RdI_of w g c [x, y] (by simp) hg (fun k hk => by
    match k, hk with
    | 0, _ => exact h0
    | 1, _ => exact h1)

theorem rdI3 {w : World} {g c : Nat} {x y z : Int} (hg : g < w.heap.size) (h0 : w.cell? ⟨g, 0, none⟩ = some (.int .i64 x)) (h1 : w.cell? ⟨g, 1, none⟩ = some (.int .i64 y)) (h2 : w.cell? ⟨g, 2, none⟩ = some (.int .i64 z)) : RdI w (.slice (some ⟨g, 0, none⟩) 3 c) [x, y, z] :=
  RdI_of w g c [x, y, z] (by simp) hg (fun k hk => by
    match k, hk with
    | 0, _ => exact h0
    | 1, _ => exact h1
    | 2, _ => exact h2)

set_option maxRecDepth 100000 in
theorem indexFuncI_any (v : Value) (zs : List Int) (g : FuncId) (he : Enters Tryd.prog g) (cap : Array Value) (p : Int → Bool) (w : World) (h : RdI w v zs)
    (hf : ∀ k (hk : k < zs.length) w1, Below w.heap.size w w1 → Calls Tryd.prog g (#[.int .i64 zs[k]] ++ cap) w1 fun e w2 => e = .returned (.bool (p zs[k])) ∧ Below w1.heap.size w1 w2) :
    Calls Tryd.prog 269 #[v, .func (.func g) #[] cap] w fun e w' => e = .returned (.int .i64 (idxL p zs)) ∧ Below w.heap.size w w' := by
  obtain ⟨hl, A, c, rfl, r1⟩ := h
  have R := Lib.hid r1; clear r1
  have Hf := Lib.hid hf; clear hf
  have HIS := Lib.hid (fun k (h : k < zs.length) => @idxL_is _ p zs k h)
  have HNO := Lib.hid (@idxL_none _ p zs)
  generalize idxL p zs = G at *
  go_enter Tryd.func269, Tryd.ntmps269
  go_wp2_with fail
  go_loopw [8] (fun i wr => ∃ k : Nat, k ≤ zs.length ∧ i = .int .i64 k ∧ (∀ j (hj : j < zs.length), j < k → p zs[j] = false) ∧ Below w.heap.size w wr) (fun i _ => zs.length - (intOf i).toNat)
  case atStart => exact ⟨0, by omega, rfl, fun j _ h => by omega, Below.refl _ _⟩
  case round =>
    obtain ⟨k, hk, rfl, hall, hb⟩ := hrel
    by_cases hlt : k < zs.length
    · obtain ⟨b, off, rfl, hbl, hc0⟩ := R.out k hlt
      rw [← kept_cell hb b _ hbl] at hc0
      have hc := Hf.out k hlt wr hb
      cases hp : p zs[k]
      · have hnx : ∀ j (hj : j < zs.length), j < k + 1 → p zs[j] = false := fun j hj hjk => by
          rcases Nat.lt_or_ge j k with h1 | h1
          · exact hall j hj h1
          · obtain rfl : j = k := by omega
            exact hp
        rw [hp] at hc
        have HNX := Lib.hid hnx; clear hnx hall hp
        have Hc := Lib.hid hc; clear hc
        generalize zs[k] = x at *
        go_wp2_with fail
        rw [he, Oper.upon_enter]
        refine Hc.out.mono ?_
        rintro e w1 ⟨rfl, hb1⟩
        go_wp2
        go_roundw
        case rel => exact ⟨k + 1, by omega, by go_num, HNX.out, kept_trans hb hb1⟩
        case measure => simp [intOf]; omega
      · have hE := HIS.out k hlt hp hall
        subst hE
        rw [hp] at hc
        have Hc := Lib.hid hc; clear hc hall hp
        generalize zs[k] = x at *
        go_wp2_with fail
        rw [he, Oper.upon_enter]
        refine Hc.out.mono ?_
        rintro e w1 ⟨rfl, hb1⟩
        go_wp2
        go_ret
        exact ⟨rfl, kept_trans hb hb1⟩
    · have : k = zs.length := by omega
      subst this
      have hE := HNO.out (fun j hj => hall j hj hj)
      clear hall
      subst hE
      go_wp2
      go_ret
      exact ⟨rfl, hb⟩

theorem containsFuncI_any (v : Value) (zs : List Int) (g : FuncId) (he : Enters Tryd.prog g) (cap : Array Value) (p : Int → Bool) (w : World) (h : RdI w v zs)
    (hf : ∀ k (hk : k < zs.length) w1, Below w.heap.size w w1 → Calls Tryd.prog g (#[.int .i64 zs[k]] ++ cap) w1 fun e w2 => e = .returned (.bool (p zs[k])) ∧ Below w1.heap.size w1 w2) :
    Calls Tryd.prog 222 #[v, .func (.func g) #[] cap] w fun e w' => e = .returned (.bool (zs.any p)) ∧ Below w.heap.size w w' := by
  have H := Lib.hid (indexFuncI_any v zs g he cap p w h hf)
  obtain ⟨hl, A, c, rfl, r1⟩ := h
  clear hf r1
  have hbd := idxL_bd p zs
  rw [← idxL_any]
  generalize idxL p zs = G at *
  go_enter Tryd.func222, Tryd.ntmps222
  go_wp2_with fail
  refine H.out.mono ?_
  rintro e w1 ⟨rfl, hb1⟩
  go_wp2
  go_ret
  exact ⟨rfl, hb1⟩

theorem outside_any (n lo hi : Int) (b1 b2 : Nat) (w : World) (h1 : w.cell? ⟨b1, 0, none⟩ = some (.int .i64 lo)) (h2 : w.cell? ⟨b2, 0, none⟩ = some (.int .i64 hi)) :
    Calls Tryd.prog 223 #[.int .i64 n, .pointer (some ⟨b1, 0, none⟩), .pointer (some ⟨b2, 0, none⟩)] w fun e w' => e = .returned (.bool (!inB n lo hi)) ∧ Below w.heap.size w w' := by
  unfold inB
  by_cases g1 : lo ≤ n <;> by_cases g2 : n ≤ hi
  all_goals
    go_enter Tryd.func223, Tryd.ntmps223
    go_wp2
    go_ret
    exact ⟨by simp [*], Below.refl _ _⟩

theorem within_any (lo hi : Int) (v : Value) (zs : List Int) (w : World) (h : RdI w v zs) :
    Calls Tryd.prog 144 #[.int .i64 lo, .int .i64 hi, v] w fun e w' => e = .returned (.bool (zs.all fun n => inB n lo hi)) ∧ Below w.heap.size w w' := by
  have hall : (zs.all fun n => inB n lo hi) = !(zs.any fun n => !inB n lo hi) := by simp [List.any_eq_not_all_not]
  rw [hall]
  clear hall
  have HC := Lib.hid (fun u (q : RdI u v zs) b1 b2 (l1 : b1 < u.heap.size) (l2 : b2 < u.heap.size) (c1 : u.cell? ⟨b1, 0, none⟩ = some (.int .i64 lo)) (c2 : u.cell? ⟨b2, 0, none⟩ = some (.int .i64 hi)) =>
    containsFuncI_any v zs 223 (enters_of Tryd.func223 (by kernel_rfl) rfl) #[.pointer (some ⟨b1, 0, none⟩), .pointer (some ⟨b2, 0, none⟩)] (fun n => !inB n lo hi) u q
      (fun k hk w1 hb => outside_any zs[k] lo hi b1 b2 w1 (by rw [kept_cell hb b1 0 l1]; exact c1) (by rw [kept_cell hb b2 0 l2]; exact c2)))
  obtain ⟨hl, A, c, rfl, r1⟩ := h
  have H := Lib.hid (show RdI w (.slice A zs.length c) zs from ⟨hl, A, c, rfl, r1⟩); clear r1
  generalize (zs.any fun n => !inB n lo hi) = X at *
  have hmf : ∀ (fn : Fn) (first cap : Array Value) (w : World), (Instr.makeFunc fn first cap).run Tryd.prog w = .ok (.func fn first cap) w := fun _ _ _ _ => rfl
  go_enter Tryd.func144, Tryd.ntmps144
  go_wp2_with fail
  refine (HC.out _ (RdI_kept H.out (by go_grown)) w.heap.size (w.heap.size + 1) (by simp; try omega) (by simp) (by simp) (by simp)).mono ?_
  rintro e w1 ⟨rfl, hb1⟩
  have b1 := kept_trans (a := w) (by go_grown) hb1
  go_wp2
  go_ret
  exact ⟨rfl, b1⟩

theorem specMake_any (n d : Int) (hn : -1000000000000000000 ≤ n ∧ n ≤ 1000000000000000000) (hd : 1 ≤ d ∧ d ≤ 1000000000000000000) (w : World) :
    Calls Tryd.prog 138 #[.int .i64 n, .int .i64 d] w fun e w' => e = .returned (.agg #[.int .i64 (lowL n d).1, .int .i64 (lowL n d).2]) ∧ Below w.heap.size w w' := by
  have hp := gcd_pos' n d (by omega)
  have hle := Nat.gcd_le_right n.natAbs (show 0 < d.natAbs by omega)
  have hq1 := tdiv_bd n (Nat.gcd n.natAbs d.natAbs) 1000000000000000000 hn
  have hq2 := tdiv_bd d (Nat.gcd n.natAbs d.natAbs) 1000000000000000000 (by omega)
  have HA := Lib.hid (fun u => specSize_any n (by omega) u)
  have HG := specGcd_any n.natAbs d.natAbs (by omega) (by omega)
  rw [tilt_abs, show ((d.natAbs : Nat) : Int) = d by omega] at *
  unfold lowL
  generalize Nat.gcd n.natAbs d.natAbs = g at *
  have HG := Lib.hid HG
  have g0 : ((g : Int) == 0) = false := by simp; omega
  have g1 : ¬ (g : Int) = 0 := by omega
  have g2 : ¬ (g : Int) = -1 := by omega
  have w1 : IntKind.i64.wrap (n.tdiv g) = n.tdiv g := IntWalk.i64_in _ (by omega)
  have w2 : IntKind.i64.wrap (d.tdiv g) = d.tdiv g := IntWalk.i64_in _ (by omega)
  generalize hX : n.tdiv g = X at *
  generalize hY : d.tdiv g = Y at *
  have HX := Lib.hid hX; clear hX
  have HY := Lib.hid (show d / (g : Int) = Y by rw [← hY, Int.tdiv_eq_ediv_of_nonneg (by omega)]); clear hY
  go_enter Tryd.func138, Tryd.ntmps138
  go_wp2_with fail
  refine (HA.out _).mono ?_
  rintro e w1 ⟨rfl, rfl⟩
  go_wp2_with fail
  refine (HG.out _).mono ?_
  rintro e w2 ⟨rfl, hb2⟩
  refine kept_at hb2 w.heap.size (by go_size) fun c2_0 z2_0 s2_0 => ?_
  have b2 := kept_trans (a := w) (by go_grown) hb2
  go_wp2_with fail
  go_region
  all_goals
    go_wp2
    (try simp only [Exit.inBlock, Exit.then])
    refine bodyPost_ret (v := .agg #[.int .i64 X, .int .i64 Y]) ?_ rfl ⟨rfl, ?_⟩
    · rw [results_cell1 rfl]
      go_simp
      exact ⟨HX.out, HY.out⟩
    · go_grown

theorem mul_ge (a b p q : Int) (h1 : 0 ≤ p ∧ p ≤ a) (h2 : 0 ≤ q ∧ q ≤ b) : p * q ≤ a * b := Int.mul_le_mul h1.2 h2.2 h2.1 (by omega)

theorem gcd_parts (A T : Int) (hA : 0 ≤ A) (hT : 0 < T) : T = (Nat.gcd A.natAbs T.natAbs : Nat) * T.tdiv (Nat.gcd A.natAbs T.natAbs : Nat) ∧ A = (Nat.gcd A.natAbs T.natAbs : Nat) * A.tdiv (Nat.gcd A.natAbs T.natAbs : Nat) ∧
    (0 ≤ T.tdiv (Nat.gcd A.natAbs T.natAbs : Nat) ∧ T.tdiv (Nat.gcd A.natAbs T.natAbs : Nat) ≤ T) ∧ 0 ≤ A.tdiv (Nat.gcd A.natAbs T.natAbs : Nat) ∧ A.tdiv (Nat.gcd A.natAbs T.natAbs : Nat) ≤ A := by
  have b1 := tdiv_bd T (Nat.gcd A.natAbs T.natAbs) T (by omega)
  have b2 := tdiv_bd A (Nat.gcd A.natAbs T.natAbs) A (by omega)
  exact ⟨(Int.mul_tdiv_cancel' (Int.ofNat_dvd_left.2 (Nat.gcd_dvd_right _ _))).symm, (Int.mul_tdiv_cancel' (Int.ofNat_dvd_left.2 (Nat.gcd_dvd_left _ _))).symm, ⟨Int.tdiv_nonneg (by omega) (Int.natCast_nonneg _), b1.2⟩, Int.tdiv_nonneg hA (Int.natCast_nonneg _), b2.2⟩

theorem left_pos (T A s X Y : Int) (g : Nat) (hx : T = g * X) (hy : A = g * Y) (hg : 0 < g) (h : ¬ T * s ≤ 2 * A) : 1 ≤ X * s - 2 * Y := by
  by_cases h1 : 0 < X * s - 2 * Y
  · omega
  · exfalso
    apply h
    have : (g : Int) * (X * s) ≤ g * (2 * Y) := Int.mul_le_mul_of_nonneg_left (by omega) (by omega)
    rw [hx, hy]
    grind

/-- The slice value reads as a list of truth values. -/
def RdT (w : World) (v : Value) (zs : List Bool) : Prop :=
  zs.length ≤ 9223372036854775807 ∧ ∃ A c, v = .slice A zs.length c ∧ ∀ k, (hk : k < zs.length) → ∃ b off, A = some ⟨b, off, none⟩ ∧ b < w.heap.size ∧ w.cell? ⟨b, off + k, none⟩ = some (.bool zs[k])

theorem RdT_of (w : World) (g c : Nat) (zs : List Bool) (hl : zs.length ≤ 9223372036854775807) (hg : g < w.heap.size) (hc : ∀ k, (hk : k < zs.length) → w.cell? ⟨g, k, none⟩ = some (.bool zs[k])) : RdT w (.slice (some ⟨g, 0, none⟩) zs.length c) zs :=
  ⟨hl, _, _, rfl, fun k hk => ⟨g, 0, rfl, hg, by rw [Nat.zero_add]; exact hc k hk⟩⟩

theorem RdT_kept {W w1 : World} {v : Value} {zs : List Bool} (h : RdT W v zs) (hb : Below W.heap.size W w1) : RdT w1 v zs := by
  obtain ⟨hl, A, c, rfl, hr⟩ := h
  refine ⟨hl, A, c, rfl, fun k hk => ?_⟩
  obtain ⟨b, off, e, hlt, hc⟩ := hr k hk
  exact ⟨b, off, e, Nat.lt_of_lt_of_le hlt hb.size, by rw [kept_cell hb b _ hlt]; exact hc⟩

theorem rdT1 {w : World} {g c : Nat} {x : Bool} (hg : g < w.heap.size) (h0 : w.cell? ⟨g, 0, none⟩ = some (.bool x)) : RdT w (.slice (some ⟨g, 0, none⟩) 1 c) [x] :=
  RdT_of w g c [x] (by simp) hg (fun k hk => by simp at hk; subst hk; exact h0)

theorem rdT2 {w : World} {g c : Nat} {x y : Bool} (hg : g < w.heap.size) (h0 : w.cell? ⟨g, 0, none⟩ = some (.bool x)) (h1 : w.cell? ⟨g, 1, none⟩ = some (.bool y)) : RdT w (.slice (some ⟨g, 0, none⟩) 2 c) [x, y] :=
  RdT_of w g c [x, y] (by simp) hg (fun k hk => by
    match k, hk with
    | 0, _ => exact h0
    | 1, _ => exact h1)

theorem rdT3 {w : World} {g c : Nat} {x y z : Bool} (hg : g < w.heap.size) (h0 : w.cell? ⟨g, 0, none⟩ = some (.bool x)) (h1 : w.cell? ⟨g, 1, none⟩ = some (.bool y)) (h2 : w.cell? ⟨g, 2, none⟩ = some (.bool z)) : RdT w (.slice (some ⟨g, 0, none⟩) 3 c) [x, y, z] :=
  RdT_of w g c [x, y, z] (by simp) hg (fun k hk => by
    match k, hk with
    | 0, _ => exact h0
    | 1, _ => exact h1
    | 2, _ => exact h2)

theorem indexT_any (v : Value) (zs : List Bool) (w : World) (h : RdT w v zs) :
    Calls Tryd.prog 268 #[v, .bool false] w fun e w' => e = .returned (.int .i64 (idxL (fun x => !x) zs)) ∧ Below w.heap.size w w' := by
  obtain ⟨hl, A, c, rfl, r1⟩ := h
  have R := Lib.hid r1; clear r1
  have HIS := Lib.hid (fun k (h : k < zs.length) => @idxL_is _ (fun x : Bool => !x) zs k h)
  have HNO := Lib.hid (@idxL_none _ (fun x : Bool => !x) zs)
  generalize idxL (fun x : Bool => !x) zs = G at *
  go_enter Tryd.func268, Tryd.ntmps268
  go_wp2_with fail
  go_loopw [8] (fun i wr => ∃ k : Nat, k ≤ zs.length ∧ i = .int .i64 k ∧ (∀ j (hj : j < zs.length), j < k → (!zs[j]) = false) ∧ Below w.heap.size w wr) (fun i _ => zs.length - (intOf i).toNat)
  case atStart => exact ⟨0, by omega, rfl, fun j _ h => by omega, Below.refl _ _⟩
  case round =>
    obtain ⟨k, hk, rfl, hall, hb⟩ := hrel
    by_cases hlt : k < zs.length
    · obtain ⟨b, off, rfl, hbl, hc0⟩ := R.out k hlt
      rw [← kept_cell hb b _ hbl] at hc0
      cases hp : zs[k]
      · have hE := HIS.out k hlt (by rw [hp]; rfl) hall
        subst hE
        rw [hp] at hc0
        clear hp hall
        go_wp2
        go_ret
        exact ⟨rfl, hb⟩
      · have hnx : ∀ j (hj : j < zs.length), j < k + 1 → (!zs[j]) = false := fun j hj hjk => by
          rcases Nat.lt_or_ge j k with h1 | h1
          · exact hall j hj h1
          · obtain rfl : j = k := by omega
            rw [hp]; rfl
        have HNX := Lib.hid hnx; clear hnx hall
        rw [hp] at hc0
        clear hp
        go_wp2
        go_roundw
        case rel => exact ⟨k + 1, by omega, by go_num, HNX.out, hb⟩
        case measure => simp [intOf]; omega
    · have : k = zs.length := by omega
      subst this
      have hE := HNO.out (fun j hj => hall j hj hj)
      clear hall
      subst hE
      go_wp2
      go_ret
      exact ⟨rfl, hb⟩

theorem containsT_any (v : Value) (zs : List Bool) (w : World) (h : RdT w v zs) :
    Calls Tryd.prog 217 #[v, .bool false] w fun e w' => e = .returned (.bool (zs.any fun x => !x)) ∧ Below w.heap.size w w' := by
  have H := Lib.hid (indexT_any v zs w h)
  obtain ⟨hl, A, c, rfl, r1⟩ := h
  clear r1
  have hbd := idxL_bd (fun x : Bool => !x) zs
  rw [← idxL_any]
  generalize idxL (fun x : Bool => !x) zs = G at *
  go_enter Tryd.func217, Tryd.ntmps217
  go_wp2_with fail
  refine H.out.mono ?_
  rintro e w1 ⟨rfl, hb1⟩
  go_wp2
  go_ret
  exact ⟨rfl, hb1⟩

theorem four (p0 p1 p2 p3 : Bool) : p0 = false ∨ (p0 = true ∧ p1 = false) ∨ (p0 = true ∧ p1 = true ∧ p2 = false) ∨ (p0 = true ∧ p1 = true ∧ p2 = true ∧ p3 = false) ∨ (p0 = true ∧ p1 = true ∧ p2 = true ∧ p3 = true) := by
  cases p0 <;> cases p1 <;> cases p2 <;> cases p3 <;> simp

set_option maxHeartbeats 1000000 in
theorem implVB_any (s m b j a c d : Int) (w : World) :
    Calls Tryd.prog 54 #[.agg #[.int .i64 s, .int .i64 m, .int .i64 b, .int .i64 j, .int .i64 a, .int .i64 c, .int .i64 d]] w fun e w' => e = .returned (.bool (baseB s m b j a c d)) ∧ Below w.heap.size w w' := by
  have e1 : baseB s m b j a c d = ([s].all (fun n => inB n 10 200) && [m].all (fun n => inB n 1 500000) && [b, j, c].all (fun n => inB n 0 500000) && [a, d].all (fun n => inB n 0 1000)) := by simp [baseB, Bool.and_assoc]
  rw [e1]; clear e1
  have H0 := fun v u q => within_any 10 200 v [s] u q
  have H1 := fun v u q => within_any 1 500000 v [m] u q
  have H2 := fun v u q => within_any 0 500000 v [b, j, c] u q
  have H3 := fun v u q => within_any 0 1000 v [a, d] u q
  generalize [s].all (fun n => inB n 10 200) = p0 at *
  generalize [m].all (fun n => inB n 1 500000) = p1 at *
  generalize [b, j, c].all (fun n => inB n 0 500000) = p2 at *
  generalize [a, d].all (fun n => inB n 0 1000) = p3 at *
  rcases four p0 p1 p2 p3 with rfl | ⟨rfl, rfl⟩ | ⟨rfl, rfl, rfl⟩ | ⟨rfl, rfl, rfl, rfl⟩ | ⟨rfl, rfl, rfl, rfl⟩
  all_goals
    have H0 := Lib.hid H0
    have H1 := Lib.hid H1
    have H2 := Lib.hid H2
    have H3 := Lib.hid H3
  case inl =>
    go_enter Tryd.func54, Tryd.ntmps54
    go_wp2_with fail
    refine (H0.out _ _ (rdI1 (by go_size) (by go_simp))).mono ?_
    rintro e w1 ⟨rfl, hb1⟩
    refine kept_at hb1 w.heap.size (by go_size) fun c1_0 z1_0 s1_0 => ?_
    have b1 := kept_trans (a := w) (by go_grown) hb1
    go_wp2
    go_ret
    exact ⟨rfl, b1⟩
  case inr.inl =>
    go_enter Tryd.func54, Tryd.ntmps54
    go_wp2_with fail
    refine (H0.out _ _ (rdI1 (by go_size) (by go_simp))).mono ?_
    rintro e w1 ⟨rfl, hb1⟩
    refine kept_at hb1 w.heap.size (by go_size) fun c1_0 z1_0 s1_0 => ?_
    have b1 := kept_trans (a := w) (by go_grown) hb1
    go_wp2_with fail
    refine (H1.out _ _ (rdI1 (by go_size) (by go_simp))).mono ?_
    rintro e w2 ⟨rfl, hb2⟩
    refine kept_at hb2 w.heap.size (by go_size) fun c2_0 z2_0 s2_0 => ?_
    have b2 := kept_trans (a := w) (by go_grown) hb2
    go_wp2
    go_ret
    exact ⟨rfl, b2⟩
  case inr.inr.inl =>
    go_enter Tryd.func54, Tryd.ntmps54
    go_wp2_with fail
    refine (H0.out _ _ (rdI1 (by go_size) (by go_simp))).mono ?_
    rintro e w1 ⟨rfl, hb1⟩
    refine kept_at hb1 w.heap.size (by go_size) fun c1_0 z1_0 s1_0 => ?_
    have b1 := kept_trans (a := w) (by go_grown) hb1
    go_wp2_with fail
    refine (H1.out _ _ (rdI1 (by go_size) (by go_simp))).mono ?_
    rintro e w2 ⟨rfl, hb2⟩
    refine kept_at hb2 w.heap.size (by go_size) fun c2_0 z2_0 s2_0 => ?_
    have b2 := kept_trans (a := w) (by go_grown) hb2
    go_wp2_with fail
    refine (H2.out _ _ (rdI3 (by go_size) (by go_simp) (by go_simp) (by go_simp))).mono ?_
    rintro e w3 ⟨rfl, hb3⟩
    refine kept_at hb3 w.heap.size (by go_size) fun c3_0 z3_0 s3_0 => ?_
    have b3 := kept_trans (a := w) (by go_grown) hb3
    go_wp2
    go_ret
    exact ⟨rfl, b3⟩
  all_goals
    go_enter Tryd.func54, Tryd.ntmps54
    go_wp2_with fail
    refine (H0.out _ _ (rdI1 (by go_size) (by go_simp))).mono ?_
    rintro e w1 ⟨rfl, hb1⟩
    refine kept_at hb1 w.heap.size (by go_size) fun c1_0 z1_0 s1_0 => ?_
    have b1 := kept_trans (a := w) (by go_grown) hb1
    go_wp2_with fail
    refine (H1.out _ _ (rdI1 (by go_size) (by go_simp))).mono ?_
    rintro e w2 ⟨rfl, hb2⟩
    refine kept_at hb2 w.heap.size (by go_size) fun c2_0 z2_0 s2_0 => ?_
    have b2 := kept_trans (a := w) (by go_grown) hb2
    go_wp2_with fail
    refine (H2.out _ _ (rdI3 (by go_size) (by go_simp) (by go_simp) (by go_simp))).mono ?_
    rintro e w3 ⟨rfl, hb3⟩
    refine kept_at hb3 w.heap.size (by go_size) fun c3_0 z3_0 s3_0 => ?_
    have b3 := kept_trans (a := w) (by go_grown) hb3
    go_wp2_with fail
    refine (H3.out _ _ (rdI2 (by go_size) (by go_simp) (by go_simp))).mono ?_
    rintro e w4 ⟨rfl, hb4⟩
    have b4 := kept_trans (a := w) (by go_grown) hb4
    go_wp2
    go_ret
    exact ⟨rfl, b4⟩

theorem validLoad_any (n : Int) (w : World) :
    Calls Tryd.prog 125 #[.int .i64 n] w fun e w' => e = .returned (.bool (inB n 0 50000)) ∧ Below w.heap.size w w' := by
  have H := fun v u q => within_any 0 50000 v [n] u q
  rw [show ([n].all fun n => inB n 0 50000) = inB n 0 50000 by simp] at H
  have H := Lib.hid H
  generalize inB n 0 50000 = p at *
  go_enter Tryd.func125, Tryd.ntmps125
  go_wp2_with fail
  refine (H.out _ _ (rdI1 (by go_size) (by go_simp))).mono ?_
  rintro e w1 ⟨rfl, hb1⟩
  have b1 := kept_trans (a := w) (by go_grown) hb1
  go_wp2
  go_ret
  exact ⟨rfl, b1⟩

theorem validRadius_any (n : Int) (w : World) :
    Calls Tryd.prog 126 #[.int .i64 n] w fun e w' => e = .returned (.bool (inB n 0 1000)) ∧ Below w.heap.size w w' := by
  have H := fun v u q => within_any 0 1000 v [n] u q
  rw [show ([n].all fun n => inB n 0 1000) = inB n 0 1000 by simp] at H
  have H := Lib.hid H
  generalize inB n 0 1000 = p at *
  go_enter Tryd.func126, Tryd.ntmps126
  go_wp2_with fail
  refine (H.out _ _ (rdI1 (by go_size) (by go_simp))).mono ?_
  rintro e w1 ⟨rfl, hb1⟩
  have b1 := kept_trans (a := w) (by go_grown) hb1
  go_wp2
  go_ret
  exact ⟨rfl, b1⟩

theorem validPercent_any (n : Int) (w : World) :
    Calls Tryd.prog 127 #[.int .i64 n] w fun e w' => e = .returned (.bool (inB n 100 1000)) ∧ Below w.heap.size w w' := by
  have H := fun v u q => within_any 100 1000 v [n] u q
  rw [show ([n].all fun n => inB n 100 1000) = inB n 100 1000 by simp] at H
  have H := Lib.hid H
  generalize inB n 100 1000 = p at *
  go_enter Tryd.func127, Tryd.ntmps127
  go_wp2_with fail
  refine (H.out _ _ (rdI1 (by go_size) (by go_simp))).mono ?_
  rintro e w1 ⟨rfl, hb1⟩
  have b1 := kept_trans (a := w) (by go_grown) hb1
  go_wp2
  go_ret
  exact ⟨rfl, b1⟩

theorem baseCode_any (s m b j a c d : Int) (v : Value) (zs : List Bool) (w : World) (h : RdT w v zs) :
    Calls Tryd.prog 124 #[.agg #[.int .i64 s, .int .i64 m, .int .i64 b, .int .i64 j, .int .i64 a, .int .i64 c, .int .i64 d], v] w fun e w' => e = .returned (.int .i64 (codeL3 (baseB s m b j a c d) zs)) ∧ Below w.heap.size w w' := by
  have HB := fun u => implVB_any s m b j a c d u
  have HC := fun u (q : RdT u v zs) => containsT_any v zs u q
  have hE : codeL3 (baseB s m b j a c d) zs = if baseB s m b j a c d = true then (if (zs.any fun x => !x) = true then 2 else 0) else 1 := by
    unfold codeL3
    have : (zs.any fun x => !x) = !(zs.all id) := by simp [List.any_eq_not_all_not]; rfl
    rw [this]
    cases baseB s m b j a c d <;> cases zs.all id <;> rfl
  rw [hE]
  clear hE
  have H := Lib.hid h
  obtain ⟨hl, A, cp, rfl, _⟩ := h
  generalize baseB s m b j a c d = p at *
  generalize (zs.any fun x => !x) = q at *
  cases p
  case false =>
    have HB := Lib.hid HB
    clear HC
    go_enter Tryd.func124, Tryd.ntmps124
    go_wp2_with fail
    refine (HB.out _).mono ?_
    rintro e w1 ⟨rfl, hb1⟩
    have b1 := kept_trans (a := w) (by go_grown) hb1
    go_wp2
    go_ret
    exact ⟨rfl, b1⟩
  cases q
  all_goals
    have HB := Lib.hid HB
    have HC := Lib.hid HC
    go_enter Tryd.func124, Tryd.ntmps124
    go_wp2_with fail
    refine (HB.out _).mono ?_
    rintro e w1 ⟨rfl, hb1⟩
    have b1 := kept_trans (a := w) (by go_grown) hb1
    go_wp2_with fail
    refine (HC.out _ (RdT_kept H.out b1)).mono ?_
    rintro e w2 ⟨rfl, hb2⟩
    have b2 := kept_trans b1 hb2
    go_wp2
    go_ret
    exact ⟨rfl, b2⟩

theorem loaded_any (s m b j a c d : Int) (l r : Int) (w : World) (hv : baseB s m b j a c d = true) (hl : inB l 0 50000 = true) (hr : inB r 0 1000 = true) :
    Calls Tryd.prog 143 #[.agg #[.int .i64 s, .int .i64 m, .int .i64 b, .int .i64 j, .int .i64 a, .int .i64 c, .int .i64 d], .int .i64 l, .int .i64 r] w fun e w' => e = .returned (.tuple #[.int .i64 (totL m b j c l), .int .i64 (tipL j a c d l r)]) ∧ Below w.heap.size w w' := by
  obtain ⟨m0, m1, m2⟩ := tip_parts hv hl hr
  have hb := base_bd hv
  have hi := inB_true hl
  unfold totL tipL
  clear hv hl hr
  have w1 : IntKind.i64.wrap (l * r) = l * r := IntWalk.i64_in _ (by omega)
  have w2 : IntKind.i64.wrap (j * a) = j * a := IntWalk.i64_in _ (by omega)
  have w3 : IntKind.i64.wrap (c * d) = c * d := IntWalk.i64_in _ (by omega)
  have v1 : wrap64 (l * r) = l * r := IntWalk.wrap64_in _ (by omega)
  have v2 : wrap64 (j * a) = j * a := IntWalk.wrap64_in _ (by omega)
  have v3 : wrap64 (c * d) = c * d := IntWalk.wrap64_in _ (by omega)
  go_enter Tryd.func143, Tryd.ntmps143
  go_wp2
  go_ret2
  exact ⟨by simp [*], by go_grown⟩

theorem stance_any (s m b j a c d : Int) (l r : Int) (w : World) (hv : baseB s m b j a c d = true) (hl : inB l 0 50000 = true) (hr : inB r 0 1000 = true) :
    Calls Tryd.prog 129 #[.agg #[.int .i64 s, .int .i64 m, .int .i64 b, .int .i64 j, .int .i64 a, .int .i64 c, .int .i64 d], .int .i64 l, .int .i64 r] w fun e w' => e = .returned (.agg #[.int .i64 s, .int .i64 (totL m b j c l), .int .i64 (tiltL (tipL j a c d l r))]) ∧ Below w.heap.size w w' := by
  have HL := Lib.hid (fun u => loaded_any s m b j a c d l r u hv hl hr)
  have hS := stab_parts hv hl hr (q := 0) (by simp [inB])
  clear hv hl hr
  unfold tiltL at *
  generalize totL m b j c l = T at *
  generalize tipL j a c d l r = M at *
  obtain ⟨s0, s1, s2, _⟩ := hS
  go_enter Tryd.func129, Tryd.ntmps129
  go_wp2_with fail
  refine (HL.out _).mono ?_
  rintro e w1 ⟨rfl, hb1⟩
  refine kept_at hb1 w.heap.size (by go_size) fun c1_0 z1_0 s1_0 => ?_
  refine kept_at hb1 (w.heap.size + 1) (by go_size) fun c1_1 z1_1 s1_1 => ?_
  have b1 := kept_trans (a := w) (by go_grown) hb1
  go_wp2
  all_goals
    (try simp only [Exit.inBlock, Exit.then])
    refine bodyPost_ret (v := .agg #[.int .i64 s, .int .i64 T, .int .i64 (max M (-M))]) ?_ rfl ⟨rfl, ?_⟩
    · rw [results_cell1 rfl]
      go_simp
      try omega
    · exact (by first | (go_grown; done) | (refine kept_drewN ?_ _; go_grown; done) | (go_grown; refine kept_drewN ?_ _; go_grown))

theorem safe_any (s T A q : Int) (w : World) (h1 : 0 ≤ 100 * T * s ∧ 100 * T * s ≤ 41000000000) (h2 : 0 ≤ 2 * q * A ∧ 2 * q * A ≤ 1100000000000) (hT : 0 ≤ T ∧ T ≤ 2050000) (hq : 0 ≤ q ∧ q ≤ 1000) :
    Calls Tryd.prog 130 #[.agg #[.int .i64 s, .int .i64 T, .int .i64 A], .int .i64 q] w fun e w' => e = .returned (.bool (decide (2 * q * A ≤ 100 * T * s))) ∧ Below w.heap.size w w' := by
  have v1 : wrap64 (100 * T) = 100 * T := IntWalk.wrap64_in _ (by omega)
  have v2 : wrap64 (100 * T * s) = 100 * T * s := IntWalk.wrap64_in _ (by omega)
  have v3 : wrap64 (2 * q) = 2 * q := IntWalk.wrap64_in _ (by omega)
  have v4 : wrap64 (2 * q * A) = 2 * q * A := IntWalk.wrap64_in _ (by omega)
  have w1 : IntKind.i64.wrap (100 * T) = 100 * T := IntWalk.i64_in _ (by omega)
  have w2 : IntKind.i64.wrap (100 * T * s) = 100 * T * s := IntWalk.i64_in _ (by omega)
  have w3 : IntKind.i64.wrap (2 * q) = 2 * q := IntWalk.i64_in _ (by omega)
  have w4 : IntKind.i64.wrap (2 * q * A) = 2 * q * A := IntWalk.i64_in _ (by omega)
  go_enter Tryd.func130, Tryd.ntmps130
  go_wp2
  go_ret
  exact ⟨by simp [*], by go_grown⟩

theorem less_any (x y u v : Int) (w : World) (h1 : 0 ≤ x * v ∧ x * v ≤ 1000000000000) (h2 : 0 ≤ u * y ∧ u * y ≤ 1000000000000) :
    Calls Tryd.prog 221 #[.agg #[.int .i64 x, .int .i64 y], .agg #[.int .i64 u, .int .i64 v]] w fun e w' => e = .returned (.bool (decide (x * v < u * y))) ∧ Below w.heap.size w w' := by
  have v1 : wrap64 (x * v) = x * v := IntWalk.wrap64_in _ (by omega)
  have v2 : wrap64 (u * y) = u * y := IntWalk.wrap64_in _ (by omega)
  have w1 : IntKind.i64.wrap (x * v) = x * v := IntWalk.i64_in _ (by omega)
  have w2 : IntKind.i64.wrap (u * y) = u * y := IntWalk.i64_in _ (by omega)
  go_enter Tryd.func221, Tryd.ntmps221
  go_wp2
  go_ret
  exact ⟨by simp [*], by go_grown⟩

set_option maxHeartbeats 2000000 in
theorem lowest_any (n d : Int) (hn : -1000000000000000000 ≤ n ∧ n ≤ 1000000000000000000) (hd : 1 ≤ d ∧ d ≤ 1000000000000000000) (w : World) :
    Calls Tryd.prog 141 #[.agg #[.int .i64 n, .int .i64 d]] w fun e w' => e = .returned (.agg #[.int .i64 (lowL n d).1, .int .i64 (lowL n d).2]) ∧ Below w.heap.size w w' := by
  have hp := gcd_pos' n d (by omega)
  have hle := Nat.gcd_le_right n.natAbs (show 0 < d.natAbs by omega)
  have hq1 := tdiv_bd n (Nat.gcd n.natAbs d.natAbs) 1000000000000000000 hn
  have hq2 := tdiv_bd d (Nat.gcd n.natAbs d.natAbs) 1000000000000000000 (by omega)
  have HG := implGcd_any n.natAbs d.natAbs (by omega) (by omega)
  rw [← tilt_abs, show ((d.natAbs : Nat) : Int) = d by omega] at HG
  have HM : tiltL n = n ∨ tiltL n = -n := by unfold tiltL; omega
  unfold lowL
  generalize Nat.gcd n.natAbs d.natAbs = g at *
  have HG1 := Lib.hid (fun (h : ¬ n < -n) => show _ from by rw [show tiltL n = n by unfold tiltL; omega] at HG; exact HG)
  have HG2 := Lib.hid (fun (h : n < -n) => show _ from by rw [show tiltL n = -n by unfold tiltL; omega] at HG; exact HG)
  have HG3 := Lib.hid (show _ from by rw [show tiltL n = max n (-n) by unfold tiltL; omega] at HG; exact HG)
  clear HG HM
  have g0 : ((g : Int) == 0) = false := by simp; omega
  have g1 : ¬ (g : Int) = 0 := by omega
  have g2 : ¬ (g : Int) = -1 := by omega
  have w1 : IntKind.i64.wrap (n.tdiv g) = n.tdiv g := IntWalk.i64_in _ (by omega)
  have w2 : IntKind.i64.wrap (d.tdiv g) = d.tdiv g := IntWalk.i64_in _ (by omega)
  generalize hX : n.tdiv g = X at *
  generalize hY : d.tdiv g = Y at *
  have HX := Lib.hid hX; clear hX
  have HY := Lib.hid (show d / (g : Int) = Y by rw [← hY, Int.tdiv_eq_ediv_of_nonneg (by omega)]); clear hY
  go_enter Tryd.func141, Tryd.ntmps141
  go_wp2_with fail
  first
    | (case' inl =>
        refine (HG2.out (by omega) _).mono ?_
        rintro e w2 ⟨rfl, hb2⟩
        refine kept_at hb2 w.heap.size (by go_size) fun c2_0 z2_0 s2_0 => ?_
        refine kept_at hb2 (w.heap.size + 1) (by go_size) fun c2_1 z2_1 s2_1 => ?_
        have b2 := kept_trans (a := w) (by go_grown) hb2
        go_wp2_with fail
        go_region
        all_goals
          go_wp2
          (try simp only [Exit.inBlock, Exit.then])
          refine bodyPost_ret (v := .agg #[.int .i64 X, .int .i64 Y]) ?_ rfl ⟨rfl, ?_⟩
          · rw [results_cell1 rfl]
            go_simp
            first
              | exact ⟨HX.out, HY.out⟩
              | exact ⟨by rw [← HX.out, Int.tdiv_eq_ediv_of_nonneg (by omega)], HY.out⟩
          · go_grown
       all_goals
        refine (HG1.out (by omega) _).mono ?_
        rintro e w2 ⟨rfl, hb2⟩
        refine kept_at hb2 w.heap.size (by go_size) fun c2_0 z2_0 s2_0 => ?_
        refine kept_at hb2 (w.heap.size + 1) (by go_size) fun c2_1 z2_1 s2_1 => ?_
        have b2 := kept_trans (a := w) (by go_grown) hb2
        go_wp2_with fail
        go_region
        all_goals
          go_wp2
          (try simp only [Exit.inBlock, Exit.then])
          refine bodyPost_ret (v := .agg #[.int .i64 X, .int .i64 Y]) ?_ rfl ⟨rfl, ?_⟩
          · rw [results_cell1 rfl]
            go_simp
            first
              | exact ⟨HX.out, HY.out⟩
              | exact ⟨by rw [← HX.out, Int.tdiv_eq_ediv_of_nonneg (by omega)], HY.out⟩
          · go_grown)
    | (
       refine (HG3.out _).mono ?_
       rintro e w2 ⟨rfl, hb2⟩
       refine kept_at hb2 w.heap.size (by go_size) fun c2_0 z2_0 s2_0 => ?_
       refine kept_at hb2 (w.heap.size + 1) (by go_size) fun c2_1 z2_1 s2_1 => ?_
       have b2 := kept_trans (a := w) (by go_grown) hb2
       go_wp2_with fail
       go_region
       all_goals
         go_wp2
         (try simp only [Exit.inBlock, Exit.then])
         refine bodyPost_ret (v := .agg #[.int .i64 X, .int .i64 Y]) ?_ rfl ⟨rfl, ?_⟩
         · rw [results_cell1 rfl]
           go_simp
           first
             | exact ⟨HX.out, HY.out⟩
             | exact ⟨by rw [← HX.out, Int.tdiv_eq_ediv_of_nonneg (by omega)], HY.out⟩
         · go_grown)

set_option maxHeartbeats 2000000 in
theorem pressure_any (s T A : Int) (w : World) (hs : 10 ≤ s ∧ s ≤ 200) (hT : 1 ≤ T ∧ T ≤ 2050000) (hA : 0 ≤ A ∧ A ≤ 550000000) (hTs : 0 ≤ T * s ∧ T * s ≤ 410000000) :
    Calls Tryd.prog 142 #[.agg #[.int .i64 s, .int .i64 T, .int .i64 A]] w fun e w' => e = .returned (.tuple #[.agg #[.int .i64 (pressL T A s).1.1, .int .i64 (pressL T A s).1.2], .bool (decide ((pressL T A s).2 = 0))]) ∧ Below w.heap.size w w' := by
  have hsT : s * T = T * s := Int.mul_comm _ _
  have H6 := fun u => less_any s 6 A T u (by omega) (by omega)
  have H2 := fun u => less_any A T s 2 u (by omega) (by omega)
  rw [hsT] at H6 H2
  clear hsT
  have x1 : wrap64 (T * s) = T * s := IntWalk.wrap64_in _ (by omega)
  have y1 : IntKind.i64.wrap (T * s) = T * s := IntWalk.i64_in _ (by omega)
  have x0 : wrap64 (2 * A) = 2 * A := IntWalk.wrap64_in _ (by omega)
  have y0 : IntKind.i64.wrap (2 * A) = 2 * A := IntWalk.i64_in _ (by omega)
  have x9 : wrap64 (6 * A) = 6 * A := IntWalk.wrap64_in _ (by omega)
  have y9 : IntKind.i64.wrap (6 * A) = 6 * A := IntWalk.i64_in _ (by omega)
  by_cases h6 : 6 * A ≤ T * s
  · have hn2 : ¬ T * s ≤ 2 * A := by
      have : 10 ≤ T * s := by have := mul_ge T s 1 10 (by omega) (by omega); omega
      omega
    rw [show pressL T A s = (lowL (T * s + 6 * A) (s * s * s), 0) by simp [pressL, hn2, h6]]
    rw [show decide (T * s < A * 6) = false by simp; omega] at H6
    have H6 := Lib.hid H6
    clear H2
    have k1 := mul_bd s s 200 200 (by omega) (by omega)
    have k2 := mul_bd (s * s) s 40000 200 (by omega) (by omega)
    have k3 := mul_ge s s 10 10 (by omega) (by omega)
    have k4 := mul_ge (s * s) s 100 10 (by omega) (by omega)
    have HL := Lib.hid (fun u => lowest_any (T * s + 6 * A) (s * s * s) (by omega) (by omega) u)
    generalize lowL (T * s + 6 * A) (s * s * s) = Z at *
    obtain ⟨z0, z1⟩ := Z
    dsimp only at *
    have x2 : wrap64 (s * s) = s * s := IntWalk.wrap64_in _ (by omega)
    have y2 : IntKind.i64.wrap (s * s) = s * s := IntWalk.i64_in _ (by omega)
    have x3 : wrap64 (s * s * s) = s * s * s := IntWalk.wrap64_in _ (by omega)
    have y3 : IntKind.i64.wrap (s * s * s) = s * s * s := IntWalk.i64_in _ (by omega)
    have x4 : wrap64 (T * s + 6 * A) = T * s + 6 * A := IntWalk.wrap64_in _ (by omega)
    have y4 : IntKind.i64.wrap (T * s + 6 * A) = T * s + 6 * A := IntWalk.i64_in _ (by omega)
    go_enter Tryd.func142, Tryd.ntmps142
    go_wp2_with fail
    refine (H6.out _).mono ?_
    rintro e w5 ⟨rfl, hb5⟩
    refine kept_at hb5 (w.heap.size) (by go_size) fun c5_0 z5_0 s5_0 => ?_
    refine kept_at hb5 (w.heap.size + 1) (by go_size) fun c5_1 z5_1 s5_1 => ?_
    refine kept_at hb5 (w.heap.size + 2) (by go_size) fun c5_2 z5_2 s5_2 => ?_
    have b5 := kept_trans (a := w) (by go_grown) hb5
    go_wp2_with fail
    refine (HL.out _).mono ?_
    rintro e w6 ⟨rfl, hb6⟩
    refine kept_at hb6 (w.heap.size) (by go_size) fun c6_0 z6_0 s6_0 => ?_
    refine kept_at hb6 (w.heap.size + 1) (by go_size) fun c6_1 z6_1 s6_1 => ?_
    refine kept_at hb6 (w.heap.size + 2) (by go_size) fun c6_2 z6_2 s6_2 => ?_
    have b6 := kept_trans (a := w) (by go_grown) hb6
    go_wp2
    (try simp only [Exit.inBlock, Exit.then])
    refine bodyPost_ret (v := .tuple #[.agg #[.int .i64 z0, .int .i64 z1], .bool true]) ?_ rfl ⟨rfl, ?_⟩
    · rw [results_cell_tmp rfl]
      go_simp
    · go_grown
  by_cases h2 : T * s ≤ 2 * A
  · rw [show pressL T A s = ((0, 0), 10) by simp [pressL, h2]]
    rw [show decide (T * s < A * 6) = true by simp; omega] at H6
    rw [show decide (A * 2 < T * s) = false by simp; omega] at H2
    have H6 := Lib.hid H6
    have H2 := Lib.hid H2
    go_enter Tryd.func142, Tryd.ntmps142
    go_wp2_with fail
    refine (H6.out _).mono ?_
    rintro e w5 ⟨rfl, hb5⟩
    refine kept_at hb5 (w.heap.size) (by go_size) fun c5_0 z5_0 s5_0 => ?_
    refine kept_at hb5 (w.heap.size + 1) (by go_size) fun c5_1 z5_1 s5_1 => ?_
    refine kept_at hb5 (w.heap.size + 2) (by go_size) fun c5_2 z5_2 s5_2 => ?_
    have b5 := kept_trans (a := w) (by go_grown) hb5
    go_wp2_with fail
    refine (H2.out _).mono ?_
    rintro e w6 ⟨rfl, hb6⟩
    refine kept_at hb6 (w.heap.size) (by go_size) fun c6_0 z6_0 s6_0 => ?_
    refine kept_at hb6 (w.heap.size + 1) (by go_size) fun c6_1 z6_1 s6_1 => ?_
    refine kept_at hb6 (w.heap.size + 2) (by go_size) fun c6_2 z6_2 s6_2 => ?_
    have b6 := kept_trans (a := w) (by go_grown) hb6
    go_wp2
    (try simp only [Exit.inBlock, Exit.then])
    refine bodyPost_ret (v := .tuple #[.agg #[.int .i64 0, .int .i64 0], .bool false]) ?_ rfl ⟨rfl, ?_⟩
    · rw [results_cell_tmp rfl]
      go_simp
    · go_grown
  · rw [show pressL T A s = (lowL (4 * T * T) (3 * s * (T * s - 2 * A)), 0) by simp [pressL, h2, h6]]
    rw [show decide (T * s < A * 6) = true by simp; omega] at H6
    rw [show decide (A * 2 < T * s) = true by simp; omega] at H2
    have H6 := Lib.hid H6
    have H2 := Lib.hid H2
    have k2 := mul_bd (4 * T) T 8200000 2050000 (by omega) (by omega)
    have k3 := mul_bd (3 * s) (T * s - 2 * A) 600 410000000 (by omega) (by omega)
    have k4 := mul_ge (3 * s) (T * s - 2 * A) 30 1 (by omega) (by omega)
    have x2 : wrap64 (4 * T) = 4 * T := IntWalk.wrap64_in _ (by omega)
    have y2 : IntKind.i64.wrap (4 * T) = 4 * T := IntWalk.i64_in _ (by omega)
    have x3 : wrap64 (4 * T * T) = 4 * T * T := IntWalk.wrap64_in _ (by omega)
    have y3 : IntKind.i64.wrap (4 * T * T) = 4 * T * T := IntWalk.i64_in _ (by omega)
    have x4 : wrap64 (3 * s) = 3 * s := IntWalk.wrap64_in _ (by omega)
    have y4 : IntKind.i64.wrap (3 * s) = 3 * s := IntWalk.i64_in _ (by omega)
    have x5 : wrap64 (T * s - 2 * A) = T * s - 2 * A := IntWalk.wrap64_in _ (by omega)
    have y5 : IntKind.i64.wrap (T * s - 2 * A) = T * s - 2 * A := IntWalk.i64_in _ (by omega)
    have x6 : wrap64 (3 * s * (T * s - 2 * A)) = 3 * s * (T * s - 2 * A) := IntWalk.wrap64_in _ (by omega)
    have y6 : IntKind.i64.wrap (3 * s * (T * s - 2 * A)) = 3 * s * (T * s - 2 * A) := IntWalk.i64_in _ (by omega)
    have HL := Lib.hid (fun u => lowest_any (4 * T * T) (3 * s * (T * s - 2 * A)) (by omega) (by omega) u)
    generalize lowL (4 * T * T) (3 * s * (T * s - 2 * A)) = Z at *
    obtain ⟨z0, z1⟩ := Z
    dsimp only at *
    go_enter Tryd.func142, Tryd.ntmps142
    go_wp2_with fail
    refine (H6.out _).mono ?_
    rintro e w5 ⟨rfl, hb5⟩
    refine kept_at hb5 (w.heap.size) (by go_size) fun c5_0 z5_0 s5_0 => ?_
    refine kept_at hb5 (w.heap.size + 1) (by go_size) fun c5_1 z5_1 s5_1 => ?_
    refine kept_at hb5 (w.heap.size + 2) (by go_size) fun c5_2 z5_2 s5_2 => ?_
    have b5 := kept_trans (a := w) (by go_grown) hb5
    go_wp2_with fail
    refine (H2.out _).mono ?_
    rintro e w6 ⟨rfl, hb6⟩
    refine kept_at hb6 (w.heap.size) (by go_size) fun c6_0 z6_0 s6_0 => ?_
    refine kept_at hb6 (w.heap.size + 1) (by go_size) fun c6_1 z6_1 s6_1 => ?_
    refine kept_at hb6 (w.heap.size + 2) (by go_size) fun c6_2 z6_2 s6_2 => ?_
    have b6 := kept_trans (a := w) (by go_grown) hb6
    go_wp2_with fail
    refine (HL.out _).mono ?_
    rintro e w7 ⟨rfl, hb7⟩
    refine kept_at hb7 (w.heap.size) (by go_size) fun c7_0 z7_0 s7_0 => ?_
    refine kept_at hb7 (w.heap.size + 1) (by go_size) fun c7_1 z7_1 s7_1 => ?_
    refine kept_at hb7 (w.heap.size + 2) (by go_size) fun c7_2 z7_2 s7_2 => ?_
    have b7 := kept_trans (a := w) (by go_grown) hb7
    go_wp2
    (try simp only [Exit.inBlock, Exit.then])
    refine bodyPost_ret (v := .tuple #[.agg #[.int .i64 z0, .int .i64 z1], .bool true]) ?_ rfl ⟨rfl, ?_⟩
    · rw [results_cell_tmp rfl]
      go_simp
    · go_grown

theorem in_wide {q : Int} (h : inB q 100 1000 = true) : inB q 0 1000 = true := by
  have := inB_true h
  simp [inB]; omega

/-- What TotalMass returns. -/
def tmL (s m b j a c d : Int) (l : Int) : Int × Int := if codeL3 (baseB s m b j a c d) [inB l 0 50000] = 0 then (totL m b j c l, 0) else (0, codeL3 (baseB s m b j a c d) [inB l 0 50000])

/-- What MomentOf returns. -/
def moL (s m b j a c d : Int) (l r : Int) : Int × Int := if codeL3 (baseB s m b j a c d) [inB l 0 50000, inB r 0 1000] = 0 then (tipL j a c d l r, 0) else (0, codeL3 (baseB s m b j a c d) [inB l 0 50000, inB r 0 1000])

/-- What OffsetOf returns. -/
def ofL (s m b j a c d : Int) (l r : Int) : (Int × Int) × Int := if codeL3 (baseB s m b j a c d) [inB l 0 50000, inB r 0 1000] = 0 then (lowL (tipL j a c d l r) (totL m b j c l), 0) else ((0, 0), codeL3 (baseB s m b j a c d) [inB l 0 50000, inB r 0 1000])

/-- A safety, and its code. -/
def safFr (T A s : Int) : (Int × Int) × Int := if A = 0 then ((0, 0), 6) else (lowL (T * s) (2 * A), 0)

/-- What SafetyOf returns. -/
def saL (s m b j a c d : Int) (l r : Int) : (Int × Int) × Int := if codeL3 (baseB s m b j a c d) [inB l 0 50000, inB r 0 1000] = 0 then safFr (totL m b j c l) (tiltL (tipL j a c d l r)) s else ((0, 0), codeL3 (baseB s m b j a c d) [inB l 0 50000, inB r 0 1000])

/-- What PressureOf returns. -/
def prL (s m b j a c d : Int) (l r : Int) : (Int × Int) × Int := if codeL3 (baseB s m b j a c d) [inB l 0 50000, inB r 0 1000] = 0 then pressL (totL m b j c l) (tiltL (tipL j a c d l r)) s else ((0, 0), codeL3 (baseB s m b j a c d) [inB l 0 50000, inB r 0 1000])

/-- What IsStable returns. -/
def isL (s m b j a c d : Int) (l r q : Int) : Bool × Int := if codeL3 (baseB s m b j a c d) [inB l 0 50000, inB r 0 1000, inB q 100 1000] = 0 then (stabB s m b j a c d l r q, 0) else (false, codeL3 (baseB s m b j a c d) [inB l 0 50000, inB r 0 1000, inB q 100 1000])

set_option maxHeartbeats 1000000 in
theorem specTM_any (s m b j a c d : Int) (l : Int) (w : World) :
    Calls Tryd.prog 41 #[.agg #[.int .i64 s, .int .i64 m, .int .i64 b, .int .i64 j, .int .i64 a, .int .i64 c, .int .i64 d], .int .i64 l] w fun e w' => e = .returned (.tuple #[.int .i64 (tmL s m b j a c d l).1, .int .i64 (tmL s m b j a c d l).2]) ∧ Below w.heap.size w w' := by
  have HA := Lib.hid (BaAt_new s m b j a c d w)
  have HC := fun u (x : BaAt u w.heap.size s m b j a c d) => specBCode_any w.heap.size s m b j a c d l 0 u x
  rw [show codeL3 (baseB s m b j a c d) [inB l 0 50000, inB 0 0 1000] = codeL3 (baseB s m b j a c d) [inB l 0 50000] from by simp [codeL3, inB]] at HC
  unfold tmL
  by_cases hK : codeL3 (baseB s m b j a c d) [inB l 0 50000] = 0
  · rw [hK] at HC
    rw [if_pos hK]
    obtain ⟨hv, hbs⟩ := codeL3_ok hK
    have hl : inB l 0 50000 = true := hbs _ (by simp)
    have HC := Lib.hid HC
    have HT := Lib.hid (fun u (q : BaAt u w.heap.size s m b j a c d) => specTotal_any w.heap.size s m b j a c d l u q hv hl)
    clear hK hbs hv hl
    generalize totL m b j c l = T at *
    go_enter Tryd.func41, Tryd.ntmps41
    go_wp2_with fail
    refine (HC.out _ (BaAt_kept HA.out (by first | (go_grown; done) | (refine kept_drewN ?_ _; go_grown; done) | (go_grown; refine kept_drewN ?_ _; go_grown)))).mono ?_
    rintro e w1 ⟨rfl, rfl⟩
    go_wp2_with fail
    refine (HT.out _ (BaAt_kept HA.out (by first | (go_grown; done) | (refine kept_drewN ?_ _; go_grown; done) | (go_grown; refine kept_drewN ?_ _; go_grown)))).mono ?_
    rintro e w2 ⟨rfl, n, rfl⟩
    go_wp2
    go_ret2
    exact ⟨rfl, kept_drewN (by first | (go_grown; done) | (refine kept_drewN ?_ _; go_grown; done) | (go_grown; refine kept_drewN ?_ _; go_grown)) _⟩
  · rw [if_neg hK]
    have hK1 : (codeL3 (baseB s m b j a c d) [inB l 0 50000] == 0) = false := by simpa using hK
    have hK2 : (codeL3 (baseB s m b j a c d) [inB l 0 50000] != 0) = true := by simpa using hK
    generalize codeL3 (baseB s m b j a c d) [inB l 0 50000] = K at *
    have HC := Lib.hid HC
    go_enter Tryd.func41, Tryd.ntmps41
    go_wp2_with fail
    refine (HC.out _ (BaAt_kept HA.out (by first | (go_grown; done) | (refine kept_drewN ?_ _; go_grown; done) | (go_grown; refine kept_drewN ?_ _; go_grown)))).mono ?_
    rintro e w1 ⟨rfl, rfl⟩
    go_wp2
    go_ret2
    exact ⟨rfl, by go_grown⟩

set_option maxHeartbeats 1000000 in
theorem specMO_any (s m b j a c d : Int) (l r : Int) (w : World) :
    Calls Tryd.prog 42 #[.agg #[.int .i64 s, .int .i64 m, .int .i64 b, .int .i64 j, .int .i64 a, .int .i64 c, .int .i64 d], .int .i64 l, .int .i64 r] w fun e w' => e = .returned (.tuple #[.int .i64 (moL s m b j a c d l r).1, .int .i64 (moL s m b j a c d l r).2]) ∧ Below w.heap.size w w' := by
  have HA := Lib.hid (BaAt_new s m b j a c d w)
  have HC := fun u (x : BaAt u w.heap.size s m b j a c d) => specBCode_any w.heap.size s m b j a c d l r u x
  unfold moL
  by_cases hK : codeL3 (baseB s m b j a c d) [inB l 0 50000, inB r 0 1000] = 0
  · rw [hK] at HC
    rw [if_pos hK]
    obtain ⟨hv, hbs⟩ := codeL3_ok hK
    have hl : inB l 0 50000 = true := hbs _ (by simp)
    have hr : inB r 0 1000 = true := hbs _ (by simp)
    have HC := Lib.hid HC
    have HT := Lib.hid (fun u (q : BaAt u w.heap.size s m b j a c d) => specTip_any w.heap.size s m b j a c d l r u q (tip_parts hv hl hr))
    clear hK hbs hv hl hr
    generalize tipL j a c d l r = T at *
    go_enter Tryd.func42, Tryd.ntmps42
    go_wp2_with fail
    refine (HC.out _ (BaAt_kept HA.out (by first | (go_grown; done) | (refine kept_drewN ?_ _; go_grown; done) | (go_grown; refine kept_drewN ?_ _; go_grown)))).mono ?_
    rintro e w1 ⟨rfl, rfl⟩
    go_wp2_with fail
    refine (HT.out _ (BaAt_kept HA.out (by first | (go_grown; done) | (refine kept_drewN ?_ _; go_grown; done) | (go_grown; refine kept_drewN ?_ _; go_grown)))).mono ?_
    rintro e w2 ⟨rfl, n, rfl⟩
    go_wp2
    go_ret2
    exact ⟨rfl, kept_drewN (by first | (go_grown; done) | (refine kept_drewN ?_ _; go_grown; done) | (go_grown; refine kept_drewN ?_ _; go_grown)) _⟩
  · rw [if_neg hK]
    have hK1 : (codeL3 (baseB s m b j a c d) [inB l 0 50000, inB r 0 1000] == 0) = false := by simpa using hK
    have hK2 : (codeL3 (baseB s m b j a c d) [inB l 0 50000, inB r 0 1000] != 0) = true := by simpa using hK
    generalize codeL3 (baseB s m b j a c d) [inB l 0 50000, inB r 0 1000] = K at *
    have HC := Lib.hid HC
    go_enter Tryd.func42, Tryd.ntmps42
    go_wp2_with fail
    refine (HC.out _ (BaAt_kept HA.out (by first | (go_grown; done) | (refine kept_drewN ?_ _; go_grown; done) | (go_grown; refine kept_drewN ?_ _; go_grown)))).mono ?_
    rintro e w1 ⟨rfl, rfl⟩
    go_wp2
    go_ret2
    exact ⟨rfl, by go_grown⟩

set_option maxHeartbeats 1000000 in
theorem specIS_any (s m b j a c d : Int) (l r q : Int) (w : World) :
    Calls Tryd.prog 46 #[.agg #[.int .i64 s, .int .i64 m, .int .i64 b, .int .i64 j, .int .i64 a, .int .i64 c, .int .i64 d], .int .i64 l, .int .i64 r, .int .i64 q] w fun e w' => e = .returned (.tuple #[.bool (isL s m b j a c d l r q).1, .int .i64 (isL s m b j a c d l r q).2]) ∧ Below w.heap.size w w' := by
  have HA := Lib.hid (BaAt_new s m b j a c d w)
  have HC := fun u (x : BaAt u w.heap.size s m b j a c d) => specAsked_any w.heap.size s m b j a c d l r q u x
  unfold isL
  by_cases hK : codeL3 (baseB s m b j a c d) [inB l 0 50000, inB r 0 1000, inB q 100 1000] = 0
  · rw [hK] at HC
    rw [if_pos hK]
    obtain ⟨hv, hbs⟩ := codeL3_ok hK
    have hl : inB l 0 50000 = true := hbs _ (by simp)
    have hr : inB r 0 1000 = true := hbs _ (by simp)
    have hq : inB q 0 1000 = true := in_wide (hbs _ (by simp))
    have HC := Lib.hid HC
    have HT := Lib.hid (fun u (x : BaAt u w.heap.size s m b j a c d) => specStable_any w.heap.size s m b j a c d l r q u x hv hl hr hq)
    clear hK hbs hv hl hr hq
    generalize stabB s m b j a c d l r q = T at *
    go_enter Tryd.func46, Tryd.ntmps46
    go_wp2_with fail
    refine (HC.out _ (BaAt_kept HA.out (by first | (go_grown; done) | (refine kept_drewN ?_ _; go_grown; done) | (go_grown; refine kept_drewN ?_ _; go_grown)))).mono ?_
    rintro e w1 ⟨rfl, rfl⟩
    go_wp2_with fail
    refine (HT.out _ (BaAt_kept HA.out (by first | (go_grown; done) | (refine kept_drewN ?_ _; go_grown; done) | (go_grown; refine kept_drewN ?_ _; go_grown)))).mono ?_
    rintro e w2 ⟨rfl, n, rfl⟩
    go_wp2
    go_ret2
    exact ⟨rfl, kept_drewN (by first | (go_grown; done) | (refine kept_drewN ?_ _; go_grown; done) | (go_grown; refine kept_drewN ?_ _; go_grown)) _⟩
  · rw [if_neg hK]
    have hK1 : (codeL3 (baseB s m b j a c d) [inB l 0 50000, inB r 0 1000, inB q 100 1000] == 0) = false := by simpa using hK
    have hK2 : (codeL3 (baseB s m b j a c d) [inB l 0 50000, inB r 0 1000, inB q 100 1000] != 0) = true := by simpa using hK
    generalize codeL3 (baseB s m b j a c d) [inB l 0 50000, inB r 0 1000, inB q 100 1000] = K at *
    have HC := Lib.hid HC
    go_enter Tryd.func46, Tryd.ntmps46
    go_wp2_with fail
    refine (HC.out _ (BaAt_kept HA.out (by first | (go_grown; done) | (refine kept_drewN ?_ _; go_grown; done) | (go_grown; refine kept_drewN ?_ _; go_grown)))).mono ?_
    rintro e w1 ⟨rfl, rfl⟩
    go_wp2
    go_ret2
    exact ⟨rfl, by go_grown⟩

set_option maxHeartbeats 1000000 in
theorem specOF_any (s m b j a c d : Int) (l r : Int) (w : World) :
    Calls Tryd.prog 43 #[.agg #[.int .i64 s, .int .i64 m, .int .i64 b, .int .i64 j, .int .i64 a, .int .i64 c, .int .i64 d], .int .i64 l, .int .i64 r] w fun e w' => e = .returned (.tuple #[.agg #[.int .i64 (ofL s m b j a c d l r).1.1, .int .i64 (ofL s m b j a c d l r).1.2], .int .i64 (ofL s m b j a c d l r).2]) ∧ Below w.heap.size w w' := by
  have HA := Lib.hid (BaAt_new s m b j a c d w)
  have HC := fun u (x : BaAt u w.heap.size s m b j a c d) => specBCode_any w.heap.size s m b j a c d l r u x
  unfold ofL
  by_cases hK : codeL3 (baseB s m b j a c d) [inB l 0 50000, inB r 0 1000] = 0
  · rw [hK] at HC
    rw [if_pos hK]
    obtain ⟨hv, hbs⟩ := codeL3_ok hK
    have hl : inB l 0 50000 = true := hbs _ (by simp)
    have hr : inB r 0 1000 = true := hbs _ (by simp)
    have HC := Lib.hid HC
    have HT := Lib.hid (fun u (q : BaAt u w.heap.size s m b j a c d) => specTotal_any w.heap.size s m b j a c d l u q hv hl)
    have HM := Lib.hid (fun u (q : BaAt u w.heap.size s m b j a c d) => specTip_any w.heap.size s m b j a c d l r u q (tip_parts hv hl hr))
    have hS := stab_parts hv hl hr (q := 0) (by simp [inB])
    have hT1 : 1 ≤ totL m b j c l := by have := base_bd hv; have := inB_true hl; unfold totL; omega
    obtain ⟨s0, s1, _⟩ := hS
    clear hK hbs hv hl hr
    generalize totL m b j c l = T at *
    generalize tipL j a c d l r = M at *
    have HL := Lib.hid (fun u => specMake_any M T (by omega) (by omega) u)
    generalize lowL M T = Z at *
    obtain ⟨z0, z1⟩ := Z
    dsimp only at *
    go_enter Tryd.func43, Tryd.ntmps43
    go_wp2_with fail
    refine (HC.out _ (BaAt_kept HA.out (by first | (go_grown; done) | (refine kept_drewN ?_ _; go_grown; done) | (go_grown; refine kept_drewN ?_ _; go_grown)))).mono ?_
    rintro e w1 ⟨rfl, rfl⟩
    go_wp2_with fail
    refine (HM.out _ (BaAt_kept HA.out (by first | (go_grown; done) | (refine kept_drewN ?_ _; go_grown; done) | (go_grown; refine kept_drewN ?_ _; go_grown)))).mono ?_
    rintro e w2 ⟨rfl, n2, rfl⟩
    go_wp2_with fail
    refine (HT.out _ (BaAt_kept HA.out (by first | (go_grown; done) | (refine kept_drewN ?_ _; go_grown; done) | (go_grown; refine kept_drewN ?_ _; go_grown)))).mono ?_
    rintro e w3 ⟨rfl, n3, rfl⟩
    go_wp2_with fail
    refine (HL.out _).mono ?_
    rintro e w4 ⟨rfl, hb4⟩
    refine kept_at hb4 w.heap.size (by go_size) fun c4_0 z4_0 s4_0 => ?_
    refine kept_at hb4 (w.heap.size + 1) (by go_size) fun c4_1 z4_1 s4_1 => ?_
    have b4 := kept_trans (a := w) (by first | (go_grown; done) | (refine kept_drewN ?_ _; go_grown; done) | (go_grown; refine kept_drewN ?_ _; go_grown)) hb4
    go_wp2
    (try simp only [Exit.inBlock, Exit.then])
    refine bodyPost_ret (v := .tuple #[.agg #[.int .i64 z0, .int .i64 z1], .int .i64 0]) ?_ rfl ⟨rfl, ?_⟩
    · rw [results_cell_tmp rfl]
      go_simp
    · exact (by first | (go_grown; done) | (refine kept_drewN ?_ _; go_grown; done) | (go_grown; refine kept_drewN ?_ _; go_grown))
  · rw [if_neg hK]
    have hK1 : (codeL3 (baseB s m b j a c d) [inB l 0 50000, inB r 0 1000] == 0) = false := by simpa using hK
    have hK2 : (codeL3 (baseB s m b j a c d) [inB l 0 50000, inB r 0 1000] != 0) = true := by simpa using hK
    generalize codeL3 (baseB s m b j a c d) [inB l 0 50000, inB r 0 1000] = K at *
    have HC := Lib.hid HC
    go_enter Tryd.func43, Tryd.ntmps43
    go_wp2_with fail
    refine (HC.out _ (BaAt_kept HA.out (by first | (go_grown; done) | (refine kept_drewN ?_ _; go_grown; done) | (go_grown; refine kept_drewN ?_ _; go_grown)))).mono ?_
    rintro e w1 ⟨rfl, rfl⟩
    go_wp2
    (try simp only [Exit.inBlock, Exit.then])
    refine bodyPost_ret (v := .tuple #[.agg #[.int .i64 0, .int .i64 0], .int .i64 K]) ?_ rfl ⟨rfl, ?_⟩
    · rw [results_cell_tmp rfl]
      go_simp
    · go_grown

set_option maxHeartbeats 1000000 in
theorem specSA_any (s m b j a c d : Int) (l r : Int) (w : World) :
    Calls Tryd.prog 45 #[.agg #[.int .i64 s, .int .i64 m, .int .i64 b, .int .i64 j, .int .i64 a, .int .i64 c, .int .i64 d], .int .i64 l, .int .i64 r] w fun e w' => e = .returned (.tuple #[.agg #[.int .i64 (saL s m b j a c d l r).1.1, .int .i64 (saL s m b j a c d l r).1.2], .int .i64 (saL s m b j a c d l r).2]) ∧ Below w.heap.size w w' := by
  have HA := Lib.hid (BaAt_new s m b j a c d w)
  have HC := fun u (x : BaAt u w.heap.size s m b j a c d) => specBCode_any w.heap.size s m b j a c d l r u x
  unfold saL
  by_cases hK : codeL3 (baseB s m b j a c d) [inB l 0 50000, inB r 0 1000] = 0
  · rw [hK] at HC
    rw [if_pos hK]
    obtain ⟨hv, hbs⟩ := codeL3_ok hK
    have hl : inB l 0 50000 = true := hbs _ (by simp)
    have hr : inB r 0 1000 = true := hbs _ (by simp)
    have HC := Lib.hid HC
    have HT := Lib.hid (fun u (q : BaAt u w.heap.size s m b j a c d) => specTotal_any w.heap.size s m b j a c d l u q hv hl)
    have HM := Lib.hid (fun u (q : BaAt u w.heap.size s m b j a c d) => specTip_any w.heap.size s m b j a c d l r u q (tip_parts hv hl hr))
    have hS := stab_parts hv hl hr (q := 0) (by simp [inB])
    have hT1 : 1 ≤ totL m b j c l := by have := base_bd hv; have := inB_true hl; unfold totL; omega
    have hsb := (base_bd hv).1
    obtain ⟨s0, s1, s2, _, _, s3⟩ := hS
    clear hK hbs hv hl hr
    generalize totL m b j c l = T at *
    generalize tipL j a c d l r = M at *
    have HZ := Lib.hid (fun u => specSize_any M (by omega) u)
    generalize tiltL M = A at *
    by_cases hA0 : A = 0
    · rw [show safFr T A s = ((0, 0), 6) by simp [safFr, hA0]]
      subst hA0
      go_enter Tryd.func45, Tryd.ntmps45
      go_wp2_with fail
      refine (HC.out _ (BaAt_kept HA.out (by first | (go_grown; done) | (refine kept_drewN ?_ _; go_grown; done) | (go_grown; refine kept_drewN ?_ _; go_grown)))).mono ?_
      rintro e w1 ⟨rfl, rfl⟩
      go_wp2_with fail
      refine (HM.out _ (BaAt_kept HA.out (by first | (go_grown; done) | (refine kept_drewN ?_ _; go_grown; done) | (go_grown; refine kept_drewN ?_ _; go_grown)))).mono ?_
      rintro e w2 ⟨rfl, n2, rfl⟩
      go_wp2_with fail
      refine (HZ.out _).mono ?_
      rintro e w3 ⟨rfl, rfl⟩
      go_wp2
      (try simp only [Exit.inBlock, Exit.then])
      refine bodyPost_ret (v := .tuple #[.agg #[.int .i64 0, .int .i64 0], .int .i64 6]) ?_ rfl ⟨rfl, ?_⟩
      · rw [results_cell_tmp rfl]
        go_simp
      · exact (by first | (go_grown; done) | (refine kept_drewN ?_ _; go_grown; done) | (go_grown; refine kept_drewN ?_ _; go_grown))
    · rw [show safFr T A s = (lowL (T * s) (2 * A), 0) by simp [safFr, hA0]]
      have hA1 : (A == 0) = false := by simpa using hA0
      have x1 : IntKind.i64.wrap (T * s) = T * s := IntWalk.i64_in _ (by omega)
      have x2 : IntKind.i64.wrap (2 * A) = 2 * A := IntWalk.i64_in _ (by omega)
      have HL := Lib.hid (fun u => specMake_any (T * s) (2 * A) (by omega) (by omega) u)
      generalize lowL (T * s) (2 * A) = Z at *
      obtain ⟨z0, z1⟩ := Z
      dsimp only at *
      go_enter Tryd.func45, Tryd.ntmps45
      go_wp2_with fail
      refine (HC.out _ (BaAt_kept HA.out (by first | (go_grown; done) | (refine kept_drewN ?_ _; go_grown; done) | (go_grown; refine kept_drewN ?_ _; go_grown)))).mono ?_
      rintro e w1 ⟨rfl, rfl⟩
      go_wp2_with fail
      refine (HM.out _ (BaAt_kept HA.out (by first | (go_grown; done) | (refine kept_drewN ?_ _; go_grown; done) | (go_grown; refine kept_drewN ?_ _; go_grown)))).mono ?_
      rintro e w2 ⟨rfl, n2, rfl⟩
      go_wp2_with fail
      refine (HZ.out _).mono ?_
      rintro e w3 ⟨rfl, rfl⟩
      go_wp2_with fail
      first
        | go_region_with (first
            | (go_at_call 136; refine (HT.out _ (BaAt_kept HA.out (by first | (go_grown; done) | (refine kept_drewN ?_ _; go_grown; done) | (go_grown; refine kept_drewN ?_ _; go_grown)))).mono ?_; rintro e w4 ⟨rfl, n4, rfl⟩)
            | (go_at_call 138; refine (HL.out _).mono ?_; rintro e w5 ⟨rfl, hb5⟩; refine kept_at hb5 (w.heap.size + 1) (by go_size) fun c5_1 z5_1 s5_1 => ?_; have b5 := kept_trans (a := w) (by first | (go_grown; done) | (refine kept_drewN ?_ _; go_grown; done) | (go_grown; refine kept_drewN ?_ _; go_grown)) hb5))
        | fail
      all_goals
        go_wp2
        (try simp only [Exit.inBlock, Exit.then])
        refine bodyPost_ret (v := .tuple #[.agg #[.int .i64 z0, .int .i64 z1], .int .i64 0]) ?_ rfl ⟨rfl, ?_⟩
        · rw [results_cell_tmp rfl]
          go_simp
        · exact (by first | (go_grown; done) | (refine kept_drewN ?_ _; go_grown; done) | (go_grown; refine kept_drewN ?_ _; go_grown))
  · rw [if_neg hK]
    have hK1 : (codeL3 (baseB s m b j a c d) [inB l 0 50000, inB r 0 1000] == 0) = false := by simpa using hK
    have hK2 : (codeL3 (baseB s m b j a c d) [inB l 0 50000, inB r 0 1000] != 0) = true := by simpa using hK
    generalize codeL3 (baseB s m b j a c d) [inB l 0 50000, inB r 0 1000] = K at *
    have HC := Lib.hid HC
    go_enter Tryd.func45, Tryd.ntmps45
    go_wp2_with fail
    refine (HC.out _ (BaAt_kept HA.out (by first | (go_grown; done) | (refine kept_drewN ?_ _; go_grown; done) | (go_grown; refine kept_drewN ?_ _; go_grown)))).mono ?_
    rintro e w1 ⟨rfl, rfl⟩
    go_wp2
    (try simp only [Exit.inBlock, Exit.then])
    refine bodyPost_ret (v := .tuple #[.agg #[.int .i64 0, .int .i64 0], .int .i64 K]) ?_ rfl ⟨rfl, ?_⟩
    · rw [results_cell_tmp rfl]
      go_simp
    · go_grown

set_option maxHeartbeats 1000000 in
theorem specPR_any (s m b j a c d : Int) (l r : Int) (w : World) :
    Calls Tryd.prog 44 #[.agg #[.int .i64 s, .int .i64 m, .int .i64 b, .int .i64 j, .int .i64 a, .int .i64 c, .int .i64 d], .int .i64 l, .int .i64 r] w fun e w' => e = .returned (.tuple #[.agg #[.int .i64 (prL s m b j a c d l r).1.1, .int .i64 (prL s m b j a c d l r).1.2], .int .i64 (prL s m b j a c d l r).2]) ∧ Below w.heap.size w w' := by
  have HA := Lib.hid (BaAt_new s m b j a c d w)
  have HC := fun u (x : BaAt u w.heap.size s m b j a c d) => specBCode_any w.heap.size s m b j a c d l r u x
  unfold prL
  by_cases hK : codeL3 (baseB s m b j a c d) [inB l 0 50000, inB r 0 1000] = 0
  · rw [hK] at HC
    rw [if_pos hK]
    obtain ⟨hv, hbs⟩ := codeL3_ok hK
    have hl : inB l 0 50000 = true := hbs _ (by simp)
    have hr : inB r 0 1000 = true := hbs _ (by simp)
    have HC := Lib.hid HC
    have HT := Lib.hid (fun u (q : BaAt u w.heap.size s m b j a c d) => specTotal_any w.heap.size s m b j a c d l u q hv hl)
    have HM := Lib.hid (fun u (q : BaAt u w.heap.size s m b j a c d) => specTip_any w.heap.size s m b j a c d l r u q (tip_parts hv hl hr))
    have hS := stab_parts hv hl hr (q := 0) (by simp [inB])
    have hT1 : 1 ≤ totL m b j c l := by have := base_bd hv; have := inB_true hl; unfold totL; omega
    have hsb := (base_bd hv).1
    obtain ⟨s0, s1, s2, _, _, s3⟩ := hS
    clear hK hbs hv hl hr
    generalize totL m b j c l = T at *
    generalize tipL j a c d l r = M at *
    have HZ := Lib.hid (fun u => specSize_any M (by omega) u)
    generalize tiltL M = A at *
    have x1 : IntKind.i64.wrap (2 * A) = 2 * A := IntWalk.i64_in _ (by omega)
    have x2 : IntKind.i64.wrap (T * s) = T * s := IntWalk.i64_in _ (by omega)
    have x3 : IntKind.i64.wrap (6 * A) = 6 * A := IntWalk.i64_in _ (by omega)
    have x4 : IntKind.i64.wrap (T * s + 6 * A) = T * s + 6 * A := IntWalk.i64_in _ (by omega)
    by_cases hA0 : T * s ≤ 2 * A
    · rw [show pressL T A s = ((0, 0), 10) by simp [pressL, hA0]]
      go_enter Tryd.func44, Tryd.ntmps44
      go_wp2_with fail
      refine (HC.out _ (BaAt_kept HA.out (by first | (go_grown; done) | (refine kept_drewN ?_ _; go_grown; done) | (go_grown; refine kept_drewN ?_ _; go_grown)))).mono ?_
      rintro e w1 ⟨rfl, rfl⟩
      go_wp2_with fail
      refine (HT.out _ (BaAt_kept HA.out (by first | (go_grown; done) | (refine kept_drewN ?_ _; go_grown; done) | (go_grown; refine kept_drewN ?_ _; go_grown)))).mono ?_
      rintro e w2 ⟨rfl, n2, rfl⟩
      go_wp2_with fail
      refine (HM.out _ (BaAt_kept HA.out (by first | (go_grown; done) | (refine kept_drewN ?_ _; go_grown; done) | (go_grown; refine kept_drewN ?_ _; go_grown)))).mono ?_
      rintro e w3 ⟨rfl, n3, rfl⟩
      go_wp2_with fail
      refine (HZ.out _).mono ?_
      rintro e w4 ⟨rfl, rfl⟩
      go_wp2
      (try simp only [Exit.inBlock, Exit.then])
      refine bodyPost_ret (v := .tuple #[.agg #[.int .i64 0, .int .i64 0], .int .i64 10]) ?_ rfl ⟨rfl, ?_⟩
      · rw [results_cell_tmp rfl]
        go_simp
      · exact (by first | (go_grown; done) | (refine kept_drewN ?_ _; go_grown; done) | (go_grown; refine kept_drewN ?_ _; go_grown))
    by_cases hA1 : 6 * A ≤ T * s
    · rw [show pressL T A s = (lowL (T * s + 6 * A) (s * s * s), 0) by simp [pressL, hA0, hA1]]
      have k1 := mul_bd s s 200 200 (by omega) (by omega)
      have k2 := mul_bd (s * s) s 40000 200 (by omega) (by omega)
      have k3 := mul_ge s s 10 10 (by omega) (by omega)
      have k4 := mul_ge (s * s) s 100 10 (by omega) (by omega)
      have x5 : IntKind.i64.wrap (s * s) = s * s := IntWalk.i64_in _ (by omega)
      have x6 : IntKind.i64.wrap (s * s * s) = s * s * s := IntWalk.i64_in _ (by omega)
      have HL := Lib.hid (fun u => specMake_any (T * s + 6 * A) (s * s * s) (by omega) (by omega) u)
      generalize lowL (T * s + 6 * A) (s * s * s) = Z at *
      obtain ⟨z0, z1⟩ := Z
      dsimp only at *
      go_enter Tryd.func44, Tryd.ntmps44
      go_wp2_with fail
      refine (HC.out _ (BaAt_kept HA.out (by first | (go_grown; done) | (refine kept_drewN ?_ _; go_grown; done) | (go_grown; refine kept_drewN ?_ _; go_grown)))).mono ?_
      rintro e w1 ⟨rfl, rfl⟩
      go_wp2_with fail
      refine (HT.out _ (BaAt_kept HA.out (by first | (go_grown; done) | (refine kept_drewN ?_ _; go_grown; done) | (go_grown; refine kept_drewN ?_ _; go_grown)))).mono ?_
      rintro e w2 ⟨rfl, n2, rfl⟩
      go_wp2_with fail
      refine (HM.out _ (BaAt_kept HA.out (by first | (go_grown; done) | (refine kept_drewN ?_ _; go_grown; done) | (go_grown; refine kept_drewN ?_ _; go_grown)))).mono ?_
      rintro e w3 ⟨rfl, n3, rfl⟩
      go_wp2_with fail
      refine (HZ.out _).mono ?_
      rintro e w4 ⟨rfl, rfl⟩
      go_wp2_with fail
      refine (HL.out _).mono ?_
      rintro e w5 ⟨rfl, hb5⟩
      refine kept_at hb5 w.heap.size (by go_size) fun c5_0 z5_0 s5_0 => ?_
      refine kept_at hb5 (w.heap.size + 1) (by go_size) fun c5_1 z5_1 s5_1 => ?_
      have b5 := kept_trans (a := w) (by first | (go_grown; done) | (refine kept_drewN ?_ _; go_grown; done) | (go_grown; refine kept_drewN ?_ _; go_grown)) hb5
      go_wp2
      (try simp only [Exit.inBlock, Exit.then])
      refine bodyPost_ret (v := .tuple #[.agg #[.int .i64 z0, .int .i64 z1], .int .i64 0]) ?_ rfl ⟨rfl, ?_⟩
      · rw [results_cell_tmp rfl]
        go_simp
      · exact (by first | (go_grown; done) | (refine kept_drewN ?_ _; go_grown; done) | (go_grown; refine kept_drewN ?_ _; go_grown))
    rw [show pressL T A s = (lowL (4 * T * T) (3 * s * (T * s - 2 * A)), 0) by simp [pressL, hA0, hA1], ← press_scale T A s (by omega)]
    have HG := specGcd_any A.natAbs T.natAbs (by omega) (by omega)
    rw [show ((A.natAbs : Nat) : Int) = A by omega, show ((T.natAbs : Nat) : Int) = T by omega] at HG
    have hgp := gcd_pos' A T (by omega)
    have hgd := gcd_parts A T (by omega) (by omega)
    generalize Nat.gcd A.natAbs T.natAbs = g at *
    have HG := Lib.hid HG
    have g0 : ((g : Int) == 0) = false := by simp; omega
    have g1 : ¬ (g : Int) = 0 := by omega
    have g2 : ¬ (g : Int) = -1 := by omega
    obtain ⟨hx, hy, hxb, hyb⟩ := hgd
    have hxd : T.tdiv g = T / g := Int.tdiv_eq_ediv_of_nonneg (by omega)
    have hyd : A.tdiv g = A / g := Int.tdiv_eq_ediv_of_nonneg (by omega)
    generalize T.tdiv g = X at *
    generalize A.tdiv g = Y at *
    replace hxd := hxd.symm
    replace hyd := hyd.symm
    have k1 := mul_bd X s 2050000 200 (by omega) (by omega)
    have k2 := mul_bd (4 * T) X 8200000 2050000 (by omega) (by omega)
    have k5 := left_pos T A s X Y g hx hy (by omega) (by omega)
    clear hx hy
    have k3 := mul_bd (3 * s) (X * s - 2 * Y) 600 410000000 (by omega) (by omega)
    have k4 := mul_ge (3 * s) (X * s - 2 * Y) 30 1 (by omega) (by omega)
    have x5 : IntKind.i64.wrap (X * s) = X * s := IntWalk.i64_in _ (by omega)
    have x6 : IntKind.i64.wrap (2 * Y) = 2 * Y := IntWalk.i64_in _ (by omega)
    have x7 : IntKind.i64.wrap (X * s - 2 * Y) = X * s - 2 * Y := IntWalk.i64_in _ (by omega)
    have x8 : IntKind.i64.wrap (4 * T) = 4 * T := IntWalk.i64_in _ (by omega)
    have x9 : IntKind.i64.wrap (4 * T * X) = 4 * T * X := IntWalk.i64_in _ (by omega)
    have x10 : IntKind.i64.wrap (3 * s) = 3 * s := IntWalk.i64_in _ (by omega)
    have x11 : IntKind.i64.wrap (3 * s * (X * s - 2 * Y)) = 3 * s * (X * s - 2 * Y) := IntWalk.i64_in _ (by omega)
    have x12 : IntKind.i64.wrap (X) = X := IntWalk.i64_in _ (by omega)
    have x13 : IntKind.i64.wrap (Y) = Y := IntWalk.i64_in _ (by omega)
    have HL := Lib.hid (fun u => specMake_any (4 * T * X) (3 * s * (X * s - 2 * Y)) (by omega) (by omega) u)
    generalize lowL (4 * T * X) (3 * s * (X * s - 2 * Y)) = Z at *
    obtain ⟨z0, z1⟩ := Z
    dsimp only at *
    go_enter Tryd.func44, Tryd.ntmps44
    go_wp2_with fail
    refine (HC.out _ (BaAt_kept HA.out (by first | (go_grown; done) | (refine kept_drewN ?_ _; go_grown; done) | (go_grown; refine kept_drewN ?_ _; go_grown)))).mono ?_
    rintro e w1 ⟨rfl, rfl⟩
    go_wp2_with fail
    refine (HT.out _ (BaAt_kept HA.out (by first | (go_grown; done) | (refine kept_drewN ?_ _; go_grown; done) | (go_grown; refine kept_drewN ?_ _; go_grown)))).mono ?_
    rintro e w2 ⟨rfl, n2, rfl⟩
    go_wp2_with fail
    refine (HM.out _ (BaAt_kept HA.out (by first | (go_grown; done) | (refine kept_drewN ?_ _; go_grown; done) | (go_grown; refine kept_drewN ?_ _; go_grown)))).mono ?_
    rintro e w3 ⟨rfl, n3, rfl⟩
    go_wp2_with fail
    refine (HZ.out _).mono ?_
    rintro e w4 ⟨rfl, rfl⟩
    go_wp2_with fail
    refine (HG.out _).mono ?_
    rintro e w5 ⟨rfl, hb5⟩
    refine kept_at hb5 w.heap.size (by go_size) fun c5_0 z5_0 s5_0 => ?_
    refine kept_at hb5 (w.heap.size + 1) (by go_size) fun c5_1 z5_1 s5_1 => ?_
    have b5 := kept_trans (a := w) (by first | (go_grown; done) | (refine kept_drewN ?_ _; go_grown; done) | (go_grown; refine kept_drewN ?_ _; go_grown)) hb5
    go_wp2_with fail
    go_quiet (fail)
    go_wp2_with fail
    refine (HL.out _).mono ?_
    rintro e w6 ⟨rfl, hb6⟩
    refine kept_at hb6 w.heap.size (by go_size) fun c6_0 z6_0 s6_0 => ?_
    refine kept_at hb6 (w.heap.size + 1) (by go_size) fun c6_1 z6_1 s6_1 => ?_
    have b6 := kept_trans (a := w) (by first | (go_grown; done) | (refine kept_drewN ?_ _; go_grown; done) | (go_grown; refine kept_drewN ?_ _; go_grown)) hb6
    go_wp2
    (try simp only [Exit.inBlock, Exit.then])
    refine bodyPost_ret (v := .tuple #[.agg #[.int .i64 z0, .int .i64 z1], .int .i64 0]) ?_ rfl ⟨rfl, ?_⟩
    · rw [results_cell_tmp rfl]
      go_simp
    · exact (by first | (go_grown; done) | (refine kept_drewN ?_ _; go_grown; done) | (go_grown; refine kept_drewN ?_ _; go_grown))
  · rw [if_neg hK]
    have hK1 : (codeL3 (baseB s m b j a c d) [inB l 0 50000, inB r 0 1000] == 0) = false := by simpa using hK
    have hK2 : (codeL3 (baseB s m b j a c d) [inB l 0 50000, inB r 0 1000] != 0) = true := by simpa using hK
    generalize codeL3 (baseB s m b j a c d) [inB l 0 50000, inB r 0 1000] = K at *
    have HC := Lib.hid HC
    go_enter Tryd.func44, Tryd.ntmps44
    go_wp2_with fail
    refine (HC.out _ (BaAt_kept HA.out (by first | (go_grown; done) | (refine kept_drewN ?_ _; go_grown; done) | (go_grown; refine kept_drewN ?_ _; go_grown)))).mono ?_
    rintro e w1 ⟨rfl, rfl⟩
    go_wp2
    (try simp only [Exit.inBlock, Exit.then])
    refine bodyPost_ret (v := .tuple #[.agg #[.int .i64 0, .int .i64 0], .int .i64 K]) ?_ rfl ⟨rfl, ?_⟩
    · rw [results_cell_tmp rfl]
      go_simp
    · go_grown

set_option maxHeartbeats 2000000 in
theorem implTM_any (s m b j a c d : Int) (l : Int) (w : World) :
    Calls Tryd.prog 52 #[.agg #[.int .i64 s, .int .i64 m, .int .i64 b, .int .i64 j, .int .i64 a, .int .i64 c, .int .i64 d], .int .i64 l] w fun e w' => e = .returned (.tuple #[.int .i64 (tmL s m b j a c d l).1, .int .i64 (tmL s m b j a c d l).2]) ∧ Below w.heap.size w w' := by
  have HC := fun u v (x : RdT u v [inB l 0 50000]) => baseCode_any s m b j a c d v [inB l 0 50000] u x
  unfold tmL
  by_cases hK : codeL3 (baseB s m b j a c d) [inB l 0 50000] = 0
  · rw [hK] at HC
    rw [if_pos hK]
    obtain ⟨hv, hbs⟩ := codeL3_ok hK
    have hl : inB l 0 50000 = true := hbs _ (by simp)
    have HC := Lib.hid (fun u v x => HC u v x)
    have HL := Lib.hid (fun u => loaded_any s m b j a c d l 0 u hv hl (by simp [inB]))
    clear hK hbs hv hl
    generalize totL m b j c l = T at *
    generalize tipL j a c d l 0 = M at *
    go_enter Tryd.func52, Tryd.ntmps52
    go_wp2_with fail
    first
      | go_region_held3 (fun w' => w'.cell? ⟨w.heap.size, 0, none⟩ = some (.int .i64 s) ∧ w'.cell? ⟨w.heap.size, 1, none⟩ = some (.int .i64 m) ∧ w'.cell? ⟨w.heap.size, 2, none⟩ = some (.int .i64 b) ∧ w'.cell? ⟨w.heap.size, 3, none⟩ = some (.int .i64 j) ∧ w'.cell? ⟨w.heap.size, 4, none⟩ = some (.int .i64 a) ∧ w'.cell? ⟨w.heap.size, 5, none⟩ = some (.int .i64 c) ∧ w'.cell? ⟨w.heap.size, 6, none⟩ = some (.int .i64 d)) (go_keep) (first
          | (go_at_call 125; refine (validLoad_any _ _).mono ?_; rintro e w1 ⟨rfl, hb1⟩; refine kept_at hb1 (w.heap.size) (by go_size) fun c1_0 z1_0 s1_0 => ?_; have b1 := kept_trans (a := w) (by go_grown) hb1)
          | (go_at_call 124; refine (HC.out _ _ (rdT1 (by go_size) (by go_simp))).mono ?_; rintro e w2 ⟨rfl, hb2⟩; refine kept_at hb2 (w.heap.size) (by go_size) fun c2_0 z2_0 s2_0 => ?_; have b2 := kept_trans (a := w) (by go_grown) hb2))
      | fail
    all_goals
      go_wp2_with fail
      refine (HL.out _).mono ?_
      rintro e w9 ⟨rfl, hb9⟩
      refine kept_at hb9 w.heap.size (by go_size) fun c9_0 z9_0 s9_0 => ?_
      have b9 := kept_trans (a := w) (by go_grown) hb9
      go_wp2
      go_ret2
      exact ⟨rfl, by go_grown⟩
  · rw [if_neg hK]
    have hK1 : (codeL3 (baseB s m b j a c d) [inB l 0 50000] == 0) = false := by simpa using hK
    have hK2 : (codeL3 (baseB s m b j a c d) [inB l 0 50000] != 0) = true := by simpa using hK
    generalize codeL3 (baseB s m b j a c d) [inB l 0 50000] = K at *
    have HC := Lib.hid (fun u v x => HC u v x)
    go_enter Tryd.func52, Tryd.ntmps52
    go_wp2_with fail
    first
      | go_region_held3 (fun w' => w'.cell? ⟨w.heap.size, 0, none⟩ = some (.int .i64 s) ∧ w'.cell? ⟨w.heap.size, 1, none⟩ = some (.int .i64 m) ∧ w'.cell? ⟨w.heap.size, 2, none⟩ = some (.int .i64 b) ∧ w'.cell? ⟨w.heap.size, 3, none⟩ = some (.int .i64 j) ∧ w'.cell? ⟨w.heap.size, 4, none⟩ = some (.int .i64 a) ∧ w'.cell? ⟨w.heap.size, 5, none⟩ = some (.int .i64 c) ∧ w'.cell? ⟨w.heap.size, 6, none⟩ = some (.int .i64 d)) (go_keep) (first
          | (go_at_call 125; refine (validLoad_any _ _).mono ?_; rintro e w1 ⟨rfl, hb1⟩; refine kept_at hb1 (w.heap.size) (by go_size) fun c1_0 z1_0 s1_0 => ?_; have b1 := kept_trans (a := w) (by go_grown) hb1)
          | (go_at_call 124; refine (HC.out _ _ (rdT1 (by go_size) (by go_simp))).mono ?_; rintro e w2 ⟨rfl, hb2⟩; refine kept_at hb2 (w.heap.size) (by go_size) fun c2_0 z2_0 s2_0 => ?_; have b2 := kept_trans (a := w) (by go_grown) hb2))
      | fail
    all_goals
      go_wp2
      go_ret2
      exact ⟨rfl, by go_grown⟩

set_option maxHeartbeats 2000000 in
theorem implMO_any (s m b j a c d : Int) (l r : Int) (w : World) :
    Calls Tryd.prog 51 #[.agg #[.int .i64 s, .int .i64 m, .int .i64 b, .int .i64 j, .int .i64 a, .int .i64 c, .int .i64 d], .int .i64 l, .int .i64 r] w fun e w' => e = .returned (.tuple #[.int .i64 (moL s m b j a c d l r).1, .int .i64 (moL s m b j a c d l r).2]) ∧ Below w.heap.size w w' := by
  have HC := fun u v (x : RdT u v [inB l 0 50000, inB r 0 1000]) => baseCode_any s m b j a c d v [inB l 0 50000, inB r 0 1000] u x
  unfold moL
  by_cases hK : codeL3 (baseB s m b j a c d) [inB l 0 50000, inB r 0 1000] = 0
  · rw [hK] at HC
    rw [if_pos hK]
    obtain ⟨hv, hbs⟩ := codeL3_ok hK
    have hl : inB l 0 50000 = true := hbs _ (by simp)
    have hr : inB r 0 1000 = true := hbs _ (by simp)
    have HC := Lib.hid (fun u v x => HC u v x)
    have HL := Lib.hid (fun u => loaded_any s m b j a c d l r u hv hl hr)
    clear hK hbs hv hl hr
    generalize totL m b j c l = T at *
    generalize tipL j a c d l r = M at *
    go_enter Tryd.func51, Tryd.ntmps51
    go_wp2_with fail
    first
      | go_region_held3 (fun w' => w'.cell? ⟨w.heap.size, 0, none⟩ = some (.int .i64 s) ∧ w'.cell? ⟨w.heap.size, 1, none⟩ = some (.int .i64 m) ∧ w'.cell? ⟨w.heap.size, 2, none⟩ = some (.int .i64 b) ∧ w'.cell? ⟨w.heap.size, 3, none⟩ = some (.int .i64 j) ∧ w'.cell? ⟨w.heap.size, 4, none⟩ = some (.int .i64 a) ∧ w'.cell? ⟨w.heap.size, 5, none⟩ = some (.int .i64 c) ∧ w'.cell? ⟨w.heap.size, 6, none⟩ = some (.int .i64 d)) (go_keep) (first
          | (go_at_call 125; refine (validLoad_any _ _).mono ?_; rintro e w1 ⟨rfl, hb1⟩; refine kept_at hb1 (w.heap.size) (by go_size) fun c1_0 z1_0 s1_0 => ?_; have b1 := kept_trans (a := w) (by go_grown) hb1)
          | (go_at_call 126; refine (validRadius_any _ _).mono ?_; rintro e w2 ⟨rfl, hb2⟩; refine kept_at hb2 (w.heap.size) (by go_size) fun c2_0 z2_0 s2_0 => ?_; have b2 := kept_trans (a := w) (by go_grown) hb2)
          | (go_at_call 124; refine (HC.out _ _ (rdT2 (by go_size) (by go_simp) (by go_simp))).mono ?_; rintro e w3 ⟨rfl, hb3⟩; refine kept_at hb3 (w.heap.size) (by go_size) fun c3_0 z3_0 s3_0 => ?_; have b3 := kept_trans (a := w) (by go_grown) hb3))
      | fail
    all_goals
      go_wp2_with fail
      refine (HL.out _).mono ?_
      rintro e w9 ⟨rfl, hb9⟩
      refine kept_at hb9 w.heap.size (by go_size) fun c9_0 z9_0 s9_0 => ?_
      have b9 := kept_trans (a := w) (by go_grown) hb9
      go_wp2
      go_ret2
      exact ⟨rfl, by go_grown⟩
  · rw [if_neg hK]
    have hK1 : (codeL3 (baseB s m b j a c d) [inB l 0 50000, inB r 0 1000] == 0) = false := by simpa using hK
    have hK2 : (codeL3 (baseB s m b j a c d) [inB l 0 50000, inB r 0 1000] != 0) = true := by simpa using hK
    generalize codeL3 (baseB s m b j a c d) [inB l 0 50000, inB r 0 1000] = K at *
    have HC := Lib.hid (fun u v x => HC u v x)
    go_enter Tryd.func51, Tryd.ntmps51
    go_wp2_with fail
    first
      | go_region_held3 (fun w' => w'.cell? ⟨w.heap.size, 0, none⟩ = some (.int .i64 s) ∧ w'.cell? ⟨w.heap.size, 1, none⟩ = some (.int .i64 m) ∧ w'.cell? ⟨w.heap.size, 2, none⟩ = some (.int .i64 b) ∧ w'.cell? ⟨w.heap.size, 3, none⟩ = some (.int .i64 j) ∧ w'.cell? ⟨w.heap.size, 4, none⟩ = some (.int .i64 a) ∧ w'.cell? ⟨w.heap.size, 5, none⟩ = some (.int .i64 c) ∧ w'.cell? ⟨w.heap.size, 6, none⟩ = some (.int .i64 d)) (go_keep) (first
          | (go_at_call 125; refine (validLoad_any _ _).mono ?_; rintro e w1 ⟨rfl, hb1⟩; refine kept_at hb1 (w.heap.size) (by go_size) fun c1_0 z1_0 s1_0 => ?_; have b1 := kept_trans (a := w) (by go_grown) hb1)
          | (go_at_call 126; refine (validRadius_any _ _).mono ?_; rintro e w2 ⟨rfl, hb2⟩; refine kept_at hb2 (w.heap.size) (by go_size) fun c2_0 z2_0 s2_0 => ?_; have b2 := kept_trans (a := w) (by go_grown) hb2)
          | (go_at_call 124; refine (HC.out _ _ (rdT2 (by go_size) (by go_simp) (by go_simp))).mono ?_; rintro e w3 ⟨rfl, hb3⟩; refine kept_at hb3 (w.heap.size) (by go_size) fun c3_0 z3_0 s3_0 => ?_; have b3 := kept_trans (a := w) (by go_grown) hb3))
      | fail
    all_goals
      go_wp2
      go_ret2
      exact ⟨rfl, by go_grown⟩

set_option maxHeartbeats 2000000 in
theorem implOF_any (s m b j a c d : Int) (l r : Int) (w : World) :
    Calls Tryd.prog 50 #[.agg #[.int .i64 s, .int .i64 m, .int .i64 b, .int .i64 j, .int .i64 a, .int .i64 c, .int .i64 d], .int .i64 l, .int .i64 r] w fun e w' => e = .returned (.tuple #[.agg #[.int .i64 (ofL s m b j a c d l r).1.1, .int .i64 (ofL s m b j a c d l r).1.2], .int .i64 (ofL s m b j a c d l r).2]) ∧ Below w.heap.size w w' := by
  have HC := fun u v (x : RdT u v [inB l 0 50000, inB r 0 1000]) => baseCode_any s m b j a c d v [inB l 0 50000, inB r 0 1000] u x
  unfold ofL
  by_cases hK : codeL3 (baseB s m b j a c d) [inB l 0 50000, inB r 0 1000] = 0
  · rw [hK] at HC
    rw [if_pos hK]
    obtain ⟨hv, hbs⟩ := codeL3_ok hK
    have hl : inB l 0 50000 = true := hbs _ (by simp)
    have hr : inB r 0 1000 = true := hbs _ (by simp)
    have HC := Lib.hid (fun u v x => HC u v x)
    have HL := Lib.hid (fun u => loaded_any s m b j a c d l r u hv hl hr)
    have hS := stab_parts hv hl hr (q := 0) (by simp [inB])
    have hT1 : 1 ≤ totL m b j c l := by have := base_bd hv; have := inB_true hl; unfold totL; omega
    obtain ⟨s0, s1, _⟩ := hS
    clear hK hbs hv hl hr
    generalize totL m b j c l = T at *
    generalize tipL j a c d l r = M at *
    have HW := Lib.hid (fun u => lowest_any M T (by omega) (by omega) u)
    generalize lowL M T = Z at *
    obtain ⟨z0, z1⟩ := Z
    dsimp only at *
    go_enter Tryd.func50, Tryd.ntmps50
    go_wp2_with fail
    first
      | go_region_held3 (fun w' => w'.cell? ⟨w.heap.size, 0, none⟩ = some (.int .i64 s) ∧ w'.cell? ⟨w.heap.size, 1, none⟩ = some (.int .i64 m) ∧ w'.cell? ⟨w.heap.size, 2, none⟩ = some (.int .i64 b) ∧ w'.cell? ⟨w.heap.size, 3, none⟩ = some (.int .i64 j) ∧ w'.cell? ⟨w.heap.size, 4, none⟩ = some (.int .i64 a) ∧ w'.cell? ⟨w.heap.size, 5, none⟩ = some (.int .i64 c) ∧ w'.cell? ⟨w.heap.size, 6, none⟩ = some (.int .i64 d) ∧ w'.cell? ⟨w.heap.size + 1, 0, none⟩ = some (.int .i64 0) ∧ w'.cell? ⟨w.heap.size + 1, 1, none⟩ = some (.int .i64 0)) (go_keep) (first
          | (go_at_call 125; refine (validLoad_any _ _).mono ?_; rintro e w1 ⟨rfl, hb1⟩; refine kept_at hb1 (w.heap.size) (by go_size) fun c1_0 z1_0 s1_0 => ?_; refine kept_at hb1 (w.heap.size + 1) (by go_size) fun c1_1 z1_1 s1_1 => ?_; have b1 := kept_trans (a := w) (by go_grown) hb1)
          | (go_at_call 126; refine (validRadius_any _ _).mono ?_; rintro e w2 ⟨rfl, hb2⟩; refine kept_at hb2 (w.heap.size) (by go_size) fun c2_0 z2_0 s2_0 => ?_; refine kept_at hb2 (w.heap.size + 1) (by go_size) fun c2_1 z2_1 s2_1 => ?_; have b2 := kept_trans (a := w) (by go_grown) hb2)
          | (go_at_call 124; refine (HC.out _ _ (rdT2 (by go_size) (by go_simp) (by go_simp))).mono ?_; rintro e w3 ⟨rfl, hb3⟩; refine kept_at hb3 (w.heap.size) (by go_size) fun c3_0 z3_0 s3_0 => ?_; refine kept_at hb3 (w.heap.size + 1) (by go_size) fun c3_1 z3_1 s3_1 => ?_; have b3 := kept_trans (a := w) (by go_grown) hb3))
      | fail
    all_goals
      go_wp2_with fail
      refine (HL.out _).mono ?_
      rintro e w8 ⟨rfl, hb8⟩
      refine kept_at hb8 w.heap.size (by go_size) fun c8_0 z8_0 s8_0 => ?_
      refine kept_at hb8 (w.heap.size + 1) (by go_size) fun c8_1 z8_1 s8_1 => ?_
      have b8 := kept_trans (a := w) (by go_grown) hb8
      go_wp2_with fail
      refine (HW.out _).mono ?_
      rintro e w9 ⟨rfl, hb9⟩
      refine kept_at hb9 w.heap.size (by go_size) fun c9_0 z9_0 s9_0 => ?_
      refine kept_at hb9 (w.heap.size + 1) (by go_size) fun c9_1 z9_1 s9_1 => ?_
      have b9 := kept_trans (a := w) (by go_grown) hb9
      go_wp2
      (try simp only [Exit.inBlock, Exit.then])
      refine bodyPost_ret (v := .tuple #[.agg #[.int .i64 z0, .int .i64 z1], .int .i64 0]) ?_ rfl ⟨rfl, ?_⟩
      · rw [results_cell_tmp rfl]
        go_simp
      · go_grown
  · rw [if_neg hK]
    have hK1 : (codeL3 (baseB s m b j a c d) [inB l 0 50000, inB r 0 1000] == 0) = false := by simpa using hK
    have hK2 : (codeL3 (baseB s m b j a c d) [inB l 0 50000, inB r 0 1000] != 0) = true := by simpa using hK
    generalize codeL3 (baseB s m b j a c d) [inB l 0 50000, inB r 0 1000] = K at *
    have HC := Lib.hid (fun u v x => HC u v x)
    go_enter Tryd.func50, Tryd.ntmps50
    go_wp2_with fail
    first
      | go_region_held3 (fun w' => w'.cell? ⟨w.heap.size, 0, none⟩ = some (.int .i64 s) ∧ w'.cell? ⟨w.heap.size, 1, none⟩ = some (.int .i64 m) ∧ w'.cell? ⟨w.heap.size, 2, none⟩ = some (.int .i64 b) ∧ w'.cell? ⟨w.heap.size, 3, none⟩ = some (.int .i64 j) ∧ w'.cell? ⟨w.heap.size, 4, none⟩ = some (.int .i64 a) ∧ w'.cell? ⟨w.heap.size, 5, none⟩ = some (.int .i64 c) ∧ w'.cell? ⟨w.heap.size, 6, none⟩ = some (.int .i64 d) ∧ w'.cell? ⟨w.heap.size + 1, 0, none⟩ = some (.int .i64 0) ∧ w'.cell? ⟨w.heap.size + 1, 1, none⟩ = some (.int .i64 0)) (go_keep) (first
          | (go_at_call 125; refine (validLoad_any _ _).mono ?_; rintro e w1 ⟨rfl, hb1⟩; refine kept_at hb1 (w.heap.size) (by go_size) fun c1_0 z1_0 s1_0 => ?_; refine kept_at hb1 (w.heap.size + 1) (by go_size) fun c1_1 z1_1 s1_1 => ?_; have b1 := kept_trans (a := w) (by go_grown) hb1)
          | (go_at_call 126; refine (validRadius_any _ _).mono ?_; rintro e w2 ⟨rfl, hb2⟩; refine kept_at hb2 (w.heap.size) (by go_size) fun c2_0 z2_0 s2_0 => ?_; refine kept_at hb2 (w.heap.size + 1) (by go_size) fun c2_1 z2_1 s2_1 => ?_; have b2 := kept_trans (a := w) (by go_grown) hb2)
          | (go_at_call 124; refine (HC.out _ _ (rdT2 (by go_size) (by go_simp) (by go_simp))).mono ?_; rintro e w3 ⟨rfl, hb3⟩; refine kept_at hb3 (w.heap.size) (by go_size) fun c3_0 z3_0 s3_0 => ?_; refine kept_at hb3 (w.heap.size + 1) (by go_size) fun c3_1 z3_1 s3_1 => ?_; have b3 := kept_trans (a := w) (by go_grown) hb3))
      | fail
    all_goals
      go_wp2
      (try simp only [Exit.inBlock, Exit.then])
      refine bodyPost_ret (v := .tuple #[.agg #[.int .i64 0, .int .i64 0], .int .i64 K]) ?_ rfl ⟨rfl, ?_⟩
      · rw [results_cell_tmp rfl]
        go_simp
      · go_grown

set_option maxHeartbeats 2000000 in
theorem implSA_any (s m b j a c d : Int) (l r : Int) (w : World) :
    Calls Tryd.prog 48 #[.agg #[.int .i64 s, .int .i64 m, .int .i64 b, .int .i64 j, .int .i64 a, .int .i64 c, .int .i64 d], .int .i64 l, .int .i64 r] w fun e w' => e = .returned (.tuple #[.agg #[.int .i64 (saL s m b j a c d l r).1.1, .int .i64 (saL s m b j a c d l r).1.2], .int .i64 (saL s m b j a c d l r).2]) ∧ Below w.heap.size w w' := by
  have HC := fun u v (x : RdT u v [inB l 0 50000, inB r 0 1000]) => baseCode_any s m b j a c d v [inB l 0 50000, inB r 0 1000] u x
  unfold saL
  by_cases hK : codeL3 (baseB s m b j a c d) [inB l 0 50000, inB r 0 1000] = 0
  · rw [hK] at HC
    rw [if_pos hK]
    obtain ⟨hv, hbs⟩ := codeL3_ok hK
    have hl : inB l 0 50000 = true := hbs _ (by simp)
    have hr : inB r 0 1000 = true := hbs _ (by simp)
    have HC := Lib.hid (fun u v x => HC u v x)
    have HT := Lib.hid (fun u => stance_any s m b j a c d l r u hv hl hr)
    have hS := stab_parts hv hl hr (q := 0) (by simp [inB])
    have hT1 : 1 ≤ totL m b j c l := by have := base_bd hv; have := inB_true hl; unfold totL; omega
    have hsb := (base_bd hv).1
    obtain ⟨s0, s1, s2, _, _, s3⟩ := hS
    clear hK hbs hv hl hr
    generalize totL m b j c l = T at *
    generalize tipL j a c d l r = M at *
    generalize tiltL M = A at *
    have x1 : IntKind.i64.wrap (T * s) = T * s := IntWalk.i64_in _ (by omega)
    have x2 : wrap64 (T * s) = T * s := IntWalk.wrap64_in _ (by omega)
    by_cases hA0 : A = 0
    ·
      rw [show safFr T A s = ((0, 0), 6) by simp [safFr, hA0]]
      subst hA0
      go_enter Tryd.func48, Tryd.ntmps48
      go_wp2_with fail
      first
        | go_region_held3 (fun w' => w'.cell? ⟨w.heap.size, 0, none⟩ = some (.int .i64 s) ∧ w'.cell? ⟨w.heap.size, 1, none⟩ = some (.int .i64 m) ∧ w'.cell? ⟨w.heap.size, 2, none⟩ = some (.int .i64 b) ∧ w'.cell? ⟨w.heap.size, 3, none⟩ = some (.int .i64 j) ∧ w'.cell? ⟨w.heap.size, 4, none⟩ = some (.int .i64 a) ∧ w'.cell? ⟨w.heap.size, 5, none⟩ = some (.int .i64 c) ∧ w'.cell? ⟨w.heap.size, 6, none⟩ = some (.int .i64 d) ∧ w'.cell? ⟨w.heap.size + 1, 0, none⟩ = some (.int .i64 0) ∧ w'.cell? ⟨w.heap.size + 1, 1, none⟩ = some (.int .i64 0)) (go_keep) (first
            | (go_at_call 125; refine (validLoad_any _ _).mono ?_; rintro e w1 ⟨rfl, hb1⟩; refine kept_at hb1 (w.heap.size) (by go_size) fun c1_0 z1_0 s1_0 => ?_; refine kept_at hb1 (w.heap.size + 1) (by go_size) fun c1_1 z1_1 s1_1 => ?_; have b1 := kept_trans (a := w) (by go_grown) hb1)
            | (go_at_call 126; refine (validRadius_any _ _).mono ?_; rintro e w2 ⟨rfl, hb2⟩; refine kept_at hb2 (w.heap.size) (by go_size) fun c2_0 z2_0 s2_0 => ?_; refine kept_at hb2 (w.heap.size + 1) (by go_size) fun c2_1 z2_1 s2_1 => ?_; have b2 := kept_trans (a := w) (by go_grown) hb2)
            | (go_at_call 124; refine (HC.out _ _ (rdT2 (by go_size) (by go_simp) (by go_simp))).mono ?_; rintro e w3 ⟨rfl, hb3⟩; refine kept_at hb3 (w.heap.size) (by go_size) fun c3_0 z3_0 s3_0 => ?_; refine kept_at hb3 (w.heap.size + 1) (by go_size) fun c3_1 z3_1 s3_1 => ?_; have b3 := kept_trans (a := w) (by go_grown) hb3))
        | fail
      all_goals
        go_wp2_with fail
        refine (HT.out _).mono ?_
        rintro e w8 ⟨rfl, hb8⟩
        refine kept_at hb8 w.heap.size (by go_size) fun c8_0 z8_0 s8_0 => ?_
        refine kept_at hb8 (w.heap.size + 1) (by go_size) fun c8_1 z8_1 s8_1 => ?_
        have b8 := kept_trans (a := w) (by go_grown) hb8
        go_wp2
        (try simp only [Exit.inBlock, Exit.then])
        refine bodyPost_ret (v := .tuple #[.agg #[.int .i64 0, .int .i64 0], .int .i64 6]) ?_ rfl ⟨rfl, ?_⟩
        · rw [results_cell_tmp rfl]
          go_simp
        · go_grown
    ·
      rw [show safFr T A s = (lowL (T * s) (2 * A), 0) by simp [safFr, hA0]]
      have HW := Lib.hid (fun u => lowest_any (T * s) (2 * A) (by omega) (by omega) u)
      have hA1 : (A == 0) = false := by simpa using hA0
      generalize lowL (T * s) (2 * A) = Z at *
      obtain ⟨z0, z1⟩ := Z
      dsimp only at *
      go_enter Tryd.func48, Tryd.ntmps48
      go_wp2_with fail
      first
        | go_region_held3 (fun w' => w'.cell? ⟨w.heap.size, 0, none⟩ = some (.int .i64 s) ∧ w'.cell? ⟨w.heap.size, 1, none⟩ = some (.int .i64 m) ∧ w'.cell? ⟨w.heap.size, 2, none⟩ = some (.int .i64 b) ∧ w'.cell? ⟨w.heap.size, 3, none⟩ = some (.int .i64 j) ∧ w'.cell? ⟨w.heap.size, 4, none⟩ = some (.int .i64 a) ∧ w'.cell? ⟨w.heap.size, 5, none⟩ = some (.int .i64 c) ∧ w'.cell? ⟨w.heap.size, 6, none⟩ = some (.int .i64 d) ∧ w'.cell? ⟨w.heap.size + 1, 0, none⟩ = some (.int .i64 0) ∧ w'.cell? ⟨w.heap.size + 1, 1, none⟩ = some (.int .i64 0)) (go_keep) (first
            | (go_at_call 125; refine (validLoad_any _ _).mono ?_; rintro e w1 ⟨rfl, hb1⟩; refine kept_at hb1 (w.heap.size) (by go_size) fun c1_0 z1_0 s1_0 => ?_; refine kept_at hb1 (w.heap.size + 1) (by go_size) fun c1_1 z1_1 s1_1 => ?_; have b1 := kept_trans (a := w) (by go_grown) hb1)
            | (go_at_call 126; refine (validRadius_any _ _).mono ?_; rintro e w2 ⟨rfl, hb2⟩; refine kept_at hb2 (w.heap.size) (by go_size) fun c2_0 z2_0 s2_0 => ?_; refine kept_at hb2 (w.heap.size + 1) (by go_size) fun c2_1 z2_1 s2_1 => ?_; have b2 := kept_trans (a := w) (by go_grown) hb2)
            | (go_at_call 124; refine (HC.out _ _ (rdT2 (by go_size) (by go_simp) (by go_simp))).mono ?_; rintro e w3 ⟨rfl, hb3⟩; refine kept_at hb3 (w.heap.size) (by go_size) fun c3_0 z3_0 s3_0 => ?_; refine kept_at hb3 (w.heap.size + 1) (by go_size) fun c3_1 z3_1 s3_1 => ?_; have b3 := kept_trans (a := w) (by go_grown) hb3))
        | fail
      all_goals
        go_wp2_with fail
        refine (HT.out _).mono ?_
        rintro e w8 ⟨rfl, hb8⟩
        refine kept_at hb8 w.heap.size (by go_size) fun c8_0 z8_0 s8_0 => ?_
        refine kept_at hb8 (w.heap.size + 1) (by go_size) fun c8_1 z8_1 s8_1 => ?_
        have b8 := kept_trans (a := w) (by go_grown) hb8
        go_wp2_with fail
        refine (HW.out _).mono ?_
        rintro e w9 ⟨rfl, hb9⟩
        refine kept_at hb9 w.heap.size (by go_size) fun c9_0 z9_0 s9_0 => ?_
        refine kept_at hb9 (w.heap.size + 1) (by go_size) fun c9_1 z9_1 s9_1 => ?_
        have b9 := kept_trans (a := w) (by go_grown) hb9
        go_wp2
        (try simp only [Exit.inBlock, Exit.then])
        refine bodyPost_ret (v := .tuple #[.agg #[.int .i64 z0, .int .i64 z1], .int .i64 0]) ?_ rfl ⟨rfl, ?_⟩
        · rw [results_cell_tmp rfl]
          go_simp
        · go_grown
  · rw [if_neg hK]
    have hK1 : (codeL3 (baseB s m b j a c d) [inB l 0 50000, inB r 0 1000] == 0) = false := by simpa using hK
    have hK2 : (codeL3 (baseB s m b j a c d) [inB l 0 50000, inB r 0 1000] != 0) = true := by simpa using hK
    generalize codeL3 (baseB s m b j a c d) [inB l 0 50000, inB r 0 1000] = K at *
    have HC := Lib.hid (fun u v x => HC u v x)
    go_enter Tryd.func48, Tryd.ntmps48
    go_wp2_with fail
    first
      | go_region_held3 (fun w' => w'.cell? ⟨w.heap.size, 0, none⟩ = some (.int .i64 s) ∧ w'.cell? ⟨w.heap.size, 1, none⟩ = some (.int .i64 m) ∧ w'.cell? ⟨w.heap.size, 2, none⟩ = some (.int .i64 b) ∧ w'.cell? ⟨w.heap.size, 3, none⟩ = some (.int .i64 j) ∧ w'.cell? ⟨w.heap.size, 4, none⟩ = some (.int .i64 a) ∧ w'.cell? ⟨w.heap.size, 5, none⟩ = some (.int .i64 c) ∧ w'.cell? ⟨w.heap.size, 6, none⟩ = some (.int .i64 d) ∧ w'.cell? ⟨w.heap.size + 1, 0, none⟩ = some (.int .i64 0) ∧ w'.cell? ⟨w.heap.size + 1, 1, none⟩ = some (.int .i64 0)) (go_keep) (first
          | (go_at_call 125; refine (validLoad_any _ _).mono ?_; rintro e w1 ⟨rfl, hb1⟩; refine kept_at hb1 (w.heap.size) (by go_size) fun c1_0 z1_0 s1_0 => ?_; refine kept_at hb1 (w.heap.size + 1) (by go_size) fun c1_1 z1_1 s1_1 => ?_; have b1 := kept_trans (a := w) (by go_grown) hb1)
          | (go_at_call 126; refine (validRadius_any _ _).mono ?_; rintro e w2 ⟨rfl, hb2⟩; refine kept_at hb2 (w.heap.size) (by go_size) fun c2_0 z2_0 s2_0 => ?_; refine kept_at hb2 (w.heap.size + 1) (by go_size) fun c2_1 z2_1 s2_1 => ?_; have b2 := kept_trans (a := w) (by go_grown) hb2)
          | (go_at_call 124; refine (HC.out _ _ (rdT2 (by go_size) (by go_simp) (by go_simp))).mono ?_; rintro e w3 ⟨rfl, hb3⟩; refine kept_at hb3 (w.heap.size) (by go_size) fun c3_0 z3_0 s3_0 => ?_; refine kept_at hb3 (w.heap.size + 1) (by go_size) fun c3_1 z3_1 s3_1 => ?_; have b3 := kept_trans (a := w) (by go_grown) hb3))
      | fail
    all_goals
      go_wp2
      (try simp only [Exit.inBlock, Exit.then])
      refine bodyPost_ret (v := .tuple #[.agg #[.int .i64 0, .int .i64 0], .int .i64 K]) ?_ rfl ⟨rfl, ?_⟩
      · rw [results_cell_tmp rfl]
        go_simp
      · go_grown

end Go.Proofs.YtjdppjcmelflbaaDoor
