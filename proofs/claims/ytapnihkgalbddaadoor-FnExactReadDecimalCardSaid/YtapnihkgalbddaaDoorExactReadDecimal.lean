/- Proved: for every input the law FnExactReadDecimal returns true, and each argument reads afterwards as it read before; no condition beside those of the given row. -/
import Derived.Test.YtapnihkgalbddaaDoorRows
import Derived.WalkKit
import Derived.ProofKit
import Derived.OpenShut
import Derived.Lib.Hide
import Derived.Handy
import Derived.Carry
import Derived.Lib.ItoaLen
import Derived.Lib.ItoaNum
import Derived.Lib.LaidTab
import Derived.Lib.LaidU8
import Derived.Lib.ParseIntB
import Derived.Lib.SmallJoins
import Derived.Lib.Strings
import Derived.Shelf.Strings.Builder1
import Derived.Shelf.Strings.Builder2
import Derived.Shelf.Strings.OnBuilder
import Derived.Shelf.Strconv.Itoa0
import Derived.Shelf.Strconv.Itoa1
import Derived.Shelf.LaysM
import Derived.Shelf.Strconv.Itoa2
import Derived.Shelf.Strconv.Itoa3
import Derived.Shelf.Strconv.Itoa4
import Derived.Shelf.Strconv.ParseIntEmpty
import Derived.Shelf.Strconv.Clone
import Derived.Shelf.Strconv.SyntaxError
import Derived.Shelf.LaysC
import Derived.Shelf.Strconv.ToError
import Derived.Shelf.Strconv.Lower
import Derived.Shelf.Strconv.ParseUint10
import Derived.Shelf.Strconv.ParseUint10Empty
import Derived.Shelf.Strconv.ParseUint10Any
import Derived.Shelf.Strconv.ParseInt10
import Derived.Shelf.Strconv.RangeError
import Derived.Shelf.Strconv.ToErrorRange
import Derived.Shelf.Strconv.ParseUintEmpty
import Derived.Shelf.Strconv.ParseUint10b64
import Derived.Shelf.Strconv.ParseUint10b32
import Derived.Shelf.Strconv.ParseUint10b16
import Derived.Shelf.Strconv.ParseUint10b8
import Derived.Shelf.Strconv.ParseUint10At
import Derived.Shelf.Strconv.ParseInt10At64
import Derived.Shelf.Strconv.ParseInt10At32
import Derived.Shelf.Strconv.ParseInt10At16
import Derived.Shelf.Strconv.ParseInt10At8
import Derived.Shelf.Strconv.ParseInt10All
import Derived.Shelf.Strconv.ParseIntPublic10
import Derived.Shelf.Strings.Search1
import Derived.Shelf.Strings.Search2
import Derived.Shelf.Strings.Cut
import Derived.Shelf.Strings.Shaped
import Derived.Shelf.Strings.Prefix
import Derived.Shelf.Strings.Fields
import Derived.Shelf.Strings.SplitShaped
import Derived.Shelf.Unicode.Latin
import Derived.Shelf.Unicode.Is16White
import Derived.Shelf.Unicode.IsSpaceAny
import Derived.Shelf.Unicode.Is16WhiteD
import Derived.Shelf.Unicode.IsSpaceAnyD
import Derived.Shelf.Strings.FieldsAny
import Derived.Shelf.Strings.FieldsFuncAny
import Derived.Shelf.Unicode.Is16Any
import Derived.Shelf.Unicode.Is32Any
import Derived.Shelf.Unicode.ExclAny
import Derived.Test.YtapnihkgalbddaaDoorCards
import Derived.Test.YtapnihkgalbddaaDoorTie
import Derived.Lib.SmallJoins
import Derived.ChangeMaps5
import Derived.Deep.DeepHandedRow
import Derived.Deep.DeepWitnessRowRef
import Derived.Lib.LaidTab
import Derived.SevenTiedAt
namespace Go.Proofs
open Go.Shelf
def Tryd.laysM173_ren : Go.Shelf.Ren := ⟨fun | 173 => 41 | 246 => 60 | 283 => 70 | 284 => 71 | 285 => 72 | 286 => 73 | 129 => 86 | 317 => 85 | 318 => 87 | 319 => 88 | 320 => 89 | 337 => 99 | 338 => 100 | n => n, fun | 2 => 2 | 3 => 3 | 9 => 9 | 4 => 4 | 171 => 93 | 0 => 0 | 53 => 63 | 37 => 22 | 5 => 5 | 173 => 96 | 212 => 122 | 51 => 89 | 20 => 20 | 213 => 123 | 46 => 79 | 232 => 139 | 233 => 140 | n => n, fun | 17 => 2 | 18 => 6 | 19 => 7 | n => n⟩
theorem Tryd.laysM173 : Go.Proofs.LaysM.n173 Tryd.prog Tryd.laysM173_ren := {
  mixed := by kernel_rfl
  f129 := Tryd.func86.trans (congrArg some (by kernel_rfl))
  f173 := Tryd.func41.trans (congrArg some (by kernel_rfl))
  f246 := Tryd.func60.trans (congrArg some (by kernel_rfl))
  f283 := Tryd.func70.trans (congrArg some (by kernel_rfl))
  f284 := Tryd.func71.trans (congrArg some (by kernel_rfl))
  f285 := Tryd.func72.trans (congrArg some (by kernel_rfl))
  f286 := Tryd.func73.trans (congrArg some (by kernel_rfl))
  f317 := Tryd.func85.trans (congrArg some (by kernel_rfl))
  f318 := Tryd.func87.trans (congrArg some (by kernel_rfl))
  f319 := Tryd.func88.trans (congrArg some (by kernel_rfl))
  f320 := Tryd.func89.trans (congrArg some (by kernel_rfl))
  f337 := Tryd.func99.trans (congrArg some (by kernel_rfl))
  f338 := Tryd.func100.trans (congrArg some (by kernel_rfl))
  t0 := Tryd.underlying0
  a0 := Tryd.isAgg0
  z0 := Tryd.sizeOf0
  v0 := Tryd.zeroValue0
  t2 := Tryd.underlying2
  a2 := Tryd.isAgg2
  z2 := Tryd.sizeOf2
  v2 := Tryd.zeroValue2
  t3 := Tryd.underlying3
  a3 := Tryd.isAgg3
  z3 := Tryd.sizeOf3
  v3 := Tryd.zeroValue3
  t4 := Tryd.underlying4
  a4 := Tryd.isAgg4
  z4 := Tryd.sizeOf4
  v4 := Tryd.zeroValue4
  t5 := Tryd.underlying5
  a5 := Tryd.isAgg5
  z5 := Tryd.sizeOf5
  v5 := Tryd.zeroValue5
  t9 := Tryd.underlying9
  a9 := Tryd.isAgg9
  z9 := Tryd.sizeOf9
  v9 := Tryd.zeroValue9
  t20 := Tryd.underlying20
  a20 := Tryd.isAgg20
  z20 := Tryd.sizeOf20
  v20 := Tryd.zeroValue20
  t37 := Tryd.underlying22
  a37 := Tryd.isAgg22
  z37 := Tryd.sizeOf22
  v37 := Tryd.zeroValue22
  t46 := Tryd.underlying79
  a46 := Tryd.isAgg79
  z46 := Tryd.sizeOf79
  v46 := Tryd.zeroValue79
  t51 := Tryd.underlying89
  a51 := Tryd.isAgg89
  z51 := Tryd.sizeOf89
  v51 := Tryd.zeroValue89
  t53 := Tryd.underlying63
  a53 := Tryd.isAgg63
  z53 := Tryd.sizeOf63
  v53 := Tryd.zeroValue63
  t171 := Tryd.underlying93
  a171 := Tryd.isAgg93
  z171 := Tryd.sizeOf93
  v171 := Tryd.zeroValue93
  t173 := Tryd.underlying96
  a173 := Tryd.isAgg96
  z173 := Tryd.sizeOf96
  v173 := Tryd.zeroValue96
  t212 := Tryd.underlying122
  a212 := Tryd.isAgg122
  z212 := Tryd.sizeOf122
  v212 := Tryd.zeroValue122
  t213 := Tryd.underlying123
  a213 := Tryd.isAgg123
  z213 := Tryd.sizeOf123
  t232 := Tryd.underlying139
  a232 := Tryd.isAgg139
  z232 := Tryd.sizeOf139
  v232 := Tryd.zeroValue139
  t233 := Tryd.underlying140
  a233 := Tryd.isAgg140
  z233 := Tryd.sizeOf140
  v233 := Tryd.zeroValue140
  g17 := by kernel_rfl
  g18 := by kernel_rfl
  g19 := by kernel_rfl
  i0 := by kernel_rfl
  i2 := by kernel_rfl
  i3 := by kernel_rfl
  i4 := by kernel_rfl
  i5 := by kernel_rfl
  i9 := by kernel_rfl
  i20 := by kernel_rfl
  i37 := by kernel_rfl
  i46 := by kernel_rfl
  i51 := by kernel_rfl
  i53 := by kernel_rfl
  i171 := by kernel_rfl
  i173 := by kernel_rfl
  i212 := by kernel_rfl
  i232 := by kernel_rfl
  i233 := by kernel_rfl
  m17 := by kernel_rfl
  m18 := by kernel_rfl
  m19 := by kernel_rfl }
open Go.RowKit Go.Sort Go.Lib in
/-- strconv.FormatInt: "FormatInt returns the string representation of i in the given base": AT BASE 10: i's decimal numeral, for every int64. (LAID: no walk: one application.) -/
theorem Tryd.strconv_FormatInt_10 (n : Int) (h0 : -9223372036854775808 ≤ n) (h1 : n ≤ 9223372036854775807) (w : World) (htab : Lib.TabIs Tryd.prog w "internal/strconv.uint64pow10" .u64 Lib.pow10Tab) :
    Calls Tryd.prog 41 #[.int .i64 n, .int .i64 10] w fun e w' => e = .returned (.string ⟨(Lib.itoa n).toArray⟩) ∧ ∃ k os, w' = grow (w.drewN k) os := Any.strconv_FormatInt_10 Tryd.laysM173 n h0 h1 w htab
def Tryd.laysC174_ren : Go.Shelf.Ren := ⟨fun | 174 => 44 | 247 => 63 | 245 => 64 | 287 => 75 | 279 => 76 | 280 => 77 | 281 => 78 | 282 => 79 | 321 => 90 | 322 => 91 | 316 => 92 | 171 => 94 | 205 => 93 | 243 => 101 | 246 => 60 | 283 => 70 | 284 => 71 | 285 => 72 | 286 => 73 | 129 => 86 | 317 => 85 | 318 => 87 | 319 => 88 | 320 => 89 | 337 => 99 | 338 => 100 | n => n, fun | 9 => 9 | 3 => 3 | 2 => 2 | 75 => 60 | 85 => 61 | 4 => 4 | 167 => 99 | 5 => 5 | 53 => 63 | 175 => 100 | 46 => 79 | 168 => 102 | 37 => 22 | 0 => 0 | 210 => 128 | 21 => 21 | 127 => 88 | 145 => 136 | 143 => 134 | 171 => 93 | 173 => 96 | 212 => 122 | 51 => 89 | 20 => 20 | 213 => 123 | 232 => 139 | 233 => 140 | 80 => 78 | n => n, fun | 15 => 3 | 16 => 4 | 17 => 2 | 18 => 6 | 19 => 7 | n => n⟩
theorem Tryd.laysC174 : Go.Proofs.LaysC.n174 Tryd.prog Tryd.laysC174_ren := {
  mixed := by kernel_rfl
  f129 := Tryd.func86.trans (congrArg some (by kernel_rfl))
  f171 := Tryd.func94.trans (congrArg some (by kernel_rfl))
  f174 := Tryd.func44.trans (congrArg some (by kernel_rfl))
  f205 := Tryd.func93.trans (congrArg some (by kernel_rfl))
  f243 := Tryd.func101.trans (congrArg some (by kernel_rfl))
  f245 := Tryd.func64.trans (congrArg some (by kernel_rfl))
  f246 := Tryd.func60.trans (congrArg some (by kernel_rfl))
  f247 := Tryd.func63.trans (congrArg some (by kernel_rfl))
  f279 := Tryd.func76.trans (congrArg some (by kernel_rfl))
  f280 := Tryd.func77.trans (congrArg some (by kernel_rfl))
  f281 := Tryd.func78.trans (congrArg some (by kernel_rfl))
  f282 := Tryd.func79.trans (congrArg some (by kernel_rfl))
  f283 := Tryd.func70.trans (congrArg some (by kernel_rfl))
  f284 := Tryd.func71.trans (congrArg some (by kernel_rfl))
  f285 := Tryd.func72.trans (congrArg some (by kernel_rfl))
  f286 := Tryd.func73.trans (congrArg some (by kernel_rfl))
  f287 := Tryd.func75.trans (congrArg some (by kernel_rfl))
  f316 := Tryd.func92.trans (congrArg some (by kernel_rfl))
  f317 := Tryd.func85.trans (congrArg some (by kernel_rfl))
  f318 := Tryd.func87.trans (congrArg some (by kernel_rfl))
  f319 := Tryd.func88.trans (congrArg some (by kernel_rfl))
  f320 := Tryd.func89.trans (congrArg some (by kernel_rfl))
  f321 := Tryd.func90.trans (congrArg some (by kernel_rfl))
  f322 := Tryd.func91.trans (congrArg some (by kernel_rfl))
  f337 := Tryd.func99.trans (congrArg some (by kernel_rfl))
  f338 := Tryd.func100.trans (congrArg some (by kernel_rfl))
  t0 := Tryd.underlying0
  a0 := Tryd.isAgg0
  z0 := Tryd.sizeOf0
  v0 := Tryd.zeroValue0
  t2 := Tryd.underlying2
  a2 := Tryd.isAgg2
  z2 := Tryd.sizeOf2
  v2 := Tryd.zeroValue2
  t3 := Tryd.underlying3
  a3 := Tryd.isAgg3
  z3 := Tryd.sizeOf3
  v3 := Tryd.zeroValue3
  t4 := Tryd.underlying4
  a4 := Tryd.isAgg4
  z4 := Tryd.sizeOf4
  v4 := Tryd.zeroValue4
  t5 := Tryd.underlying5
  a5 := Tryd.isAgg5
  z5 := Tryd.sizeOf5
  v5 := Tryd.zeroValue5
  t9 := Tryd.underlying9
  a9 := Tryd.isAgg9
  z9 := Tryd.sizeOf9
  v9 := Tryd.zeroValue9
  t20 := Tryd.underlying20
  a20 := Tryd.isAgg20
  z20 := Tryd.sizeOf20
  v20 := Tryd.zeroValue20
  t21 := Tryd.underlying21
  a21 := Tryd.isAgg21
  z21 := Tryd.sizeOf21
  v21 := Tryd.zeroValue21
  t37 := Tryd.underlying22
  a37 := Tryd.isAgg22
  z37 := Tryd.sizeOf22
  v37 := Tryd.zeroValue22
  t46 := Tryd.underlying79
  a46 := Tryd.isAgg79
  z46 := Tryd.sizeOf79
  v46 := Tryd.zeroValue79
  t51 := Tryd.underlying89
  a51 := Tryd.isAgg89
  z51 := Tryd.sizeOf89
  v51 := Tryd.zeroValue89
  t53 := Tryd.underlying63
  a53 := Tryd.isAgg63
  z53 := Tryd.sizeOf63
  v53 := Tryd.zeroValue63
  t75 := Tryd.underlying60
  a75 := Tryd.isAgg60
  z75 := Tryd.sizeOf60
  v75 := Tryd.zeroValue60
  t85 := Tryd.underlying61
  a85 := Tryd.isAgg61
  z85 := Tryd.sizeOf61
  v85 := Tryd.zeroValue61
  t127 := Tryd.underlying88
  a127 := Tryd.isAgg88
  z127 := Tryd.sizeOf88
  v127 := Tryd.zeroValue88
  t143 := Tryd.underlying134
  a143 := Tryd.isAgg134
  z143 := Tryd.sizeOf134
  v143 := Tryd.zeroValue134
  t145 := Tryd.underlying136
  a145 := Tryd.isAgg136
  z145 := Tryd.sizeOf136
  v145 := Tryd.zeroValue136
  t167 := Tryd.underlying99
  a167 := Tryd.isAgg99
  z167 := Tryd.sizeOf99
  v167 := Tryd.zeroValue99
  t168 := Tryd.underlying102
  a168 := Tryd.isAgg102
  z168 := Tryd.sizeOf102
  v168 := Tryd.zeroValue102
  t171 := Tryd.underlying93
  a171 := Tryd.isAgg93
  z171 := Tryd.sizeOf93
  v171 := Tryd.zeroValue93
  t173 := Tryd.underlying96
  a173 := Tryd.isAgg96
  z173 := Tryd.sizeOf96
  v173 := Tryd.zeroValue96
  t175 := Tryd.underlying100
  a175 := Tryd.isAgg100
  z175 := Tryd.sizeOf100
  v175 := Tryd.zeroValue100
  t210 := Tryd.underlying128
  a210 := Tryd.isAgg128
  z210 := Tryd.sizeOf128
  v210 := Tryd.zeroValue128
  t212 := Tryd.underlying122
  a212 := Tryd.isAgg122
  z212 := Tryd.sizeOf122
  v212 := Tryd.zeroValue122
  t213 := Tryd.underlying123
  a213 := Tryd.isAgg123
  z213 := Tryd.sizeOf123
  t232 := Tryd.underlying139
  a232 := Tryd.isAgg139
  z232 := Tryd.sizeOf139
  v232 := Tryd.zeroValue139
  t233 := Tryd.underlying140
  a233 := Tryd.isAgg140
  z233 := Tryd.sizeOf140
  v233 := Tryd.zeroValue140
  g15 := by kernel_rfl
  g16 := by kernel_rfl
  g17 := by kernel_rfl
  g18 := by kernel_rfl
  g19 := by kernel_rfl
  t80 := Tryd.underlying78
  a80 := Tryd.isAgg78
  z80 := Tryd.sizeOf78
  v80 := Tryd.zeroValue78
  i0 := by kernel_rfl
  i2 := by kernel_rfl
  i3 := by kernel_rfl
  i4 := by kernel_rfl
  i5 := by kernel_rfl
  i9 := by kernel_rfl
  i20 := by kernel_rfl
  i21 := by kernel_rfl
  i37 := by kernel_rfl
  i46 := by kernel_rfl
  i51 := by kernel_rfl
  i53 := by kernel_rfl
  i75 := by kernel_rfl
  i80 := by kernel_rfl
  i85 := by kernel_rfl
  i127 := by kernel_rfl
  i143 := by kernel_rfl
  i145 := by kernel_rfl
  i167 := by kernel_rfl
  i168 := by kernel_rfl
  i171 := by kernel_rfl
  i173 := by kernel_rfl
  i175 := by kernel_rfl
  i210 := by kernel_rfl
  i212 := by kernel_rfl
  i232 := by kernel_rfl
  i233 := by kernel_rfl
  m15 := by kernel_rfl
  m16 := by kernel_rfl
  m17 := by kernel_rfl
  m18 := by kernel_rfl
  m19 := by kernel_rfl
  c0 := by kernel_rfl
  c2 := by kernel_rfl
  c3 := by kernel_rfl
  c4 := by kernel_rfl
  c5 := by kernel_rfl
  c9 := by kernel_rfl
  c20 := by kernel_rfl
  c21 := by kernel_rfl
  c37 := by kernel_rfl
  c46 := by kernel_rfl
  c51 := by kernel_rfl
  c53 := by kernel_rfl
  c75 := by kernel_rfl
  c80 := by kernel_rfl
  c85 := by kernel_rfl
  c127 := by kernel_rfl
  c143 := by kernel_rfl
  c145 := by kernel_rfl
  c167 := by kernel_rfl
  c168 := by kernel_rfl
  c171 := by kernel_rfl
  c173 := by kernel_rfl
  c175 := by kernel_rfl
  c210 := by kernel_rfl
  c212 := by kernel_rfl
  c213 := by kernel_rfl
  c232 := by kernel_rfl
  c233 := by kernel_rfl }
def Tryd.lays101_ren : Go.Shelf.Ren := ⟨fun | 101 => 43 | 208 => 62 | 206 => 74 | n => n, fun | 9 => 9 | 4 => 4 | 3 => 3 | n => n, fun | n => n⟩
theorem Tryd.lays101 : Go.Proofs.Lays.n101 Tryd.prog Tryd.lays101_ren := {
  mixed := by kernel_rfl
  f101 := Tryd.func43.trans (congrArg some (by kernel_rfl))
  f206 := Tryd.func74.trans (congrArg some (by kernel_rfl))
  f208 := Tryd.func62.trans (congrArg some (by kernel_rfl))
  t3 := Tryd.underlying3
  a3 := Tryd.isAgg3
  z3 := Tryd.sizeOf3
  v3 := Tryd.zeroValue3
  t4 := Tryd.underlying4
  a4 := Tryd.isAgg4
  z4 := Tryd.sizeOf4
  v4 := Tryd.zeroValue4
  t9 := Tryd.underlying9
  a9 := Tryd.isAgg9
  z9 := Tryd.sizeOf9
  v9 := Tryd.zeroValue9 }
open Go.RowKit Go.Lib in
/-- strings.TrimPrefix: "TrimPrefix returns s without the provided leading prefix string. If s doesn't start with prefix, s is returned unchanged.": IT RETURNS 'Lib.trimPrefix s prefix'; the world is as it was. (LAID: no walk: one application.) -/
theorem Tryd.strings_TrimPrefix (s p : ByteArray) (w : World) :
    Calls Tryd.prog 43 #[.string s, .string p] w fun e w' => e = .returned (.string ⟨(Lib.trimPrefix s.data.toList p.data.toList).toArray⟩) ∧ w' = w := Any.strings_TrimPrefix Tryd.lays101 s p w
end Go.Proofs
namespace Go.Proofs.YtapnihkgalbddaaDoor
open Go.ChangeShapes Go.WideShapes Go.ChangeAt Go.RowKit
set_option linter.unusedVariables false
set_option linter.unusedSimpArgs false

theorem trodAll_stay {H : Type} {enc : TypeId × Value → H} {P : Program} (hl : laidOutB P = true) {W W' : World} (hb : Below W.heap.size W W') :
    ∀ (ts : List TypeId) (vs : List Value) (ds : List (DataW H)) (ps : List MemPlace), ts.all (fun t => P.readableRec t && decide (t < P.types.size)) = true →
      DataW.TrodAll enc P W 0 (fun _ => true) true ts vs ds ps → (∀ x ∈ ps, x.block < W.heap.size) →
      DataW.TrodAll enc P W' 0 (fun b => decide (b < W.heap.size)) true ts vs ds ps := by
  intro ts
  induction ts with
  | nil => intro vs ds ps _ h _; obtain ⟨rfl, rfl, rfl⟩ := trodAll_nil h; exact rfl
  | cons t ts ih =>
    intro vs ds ps hr h hlt
    simp only [List.all_cons, Bool.and_eq_true, decide_eq_true_eq] at hr
    obtain ⟨v, vs', d, ds', p, q, rfl, rfl, rfl, h0, h1⟩ := trodAll_cons h
    exact ⟨p, q, Below.trod hl hr.1.1 hr.1.2 h0 hb (fun x hx => hlt x (by simp [hx])), ih _ _ _ hr.2 h1 (fun x hx => hlt x (by simp [hx])), rfl⟩

/-- Each variable's type is one that can be read. -/
def varsOk (P : Program) (ns : List String) : Bool := ns.all fun n => match P.globalNamed n with
  | some g => (match (P.globals[g]?).map (·.type) with | some t => P.readableRec t && decide (t < P.types.size) | none => true)
  | none => true

theorem trodVars_stay {H : Type} {enc : TypeId × Value → H} {P : Program} (hl : laidOutB P = true) {W W' : World} (hb : Below W.heap.size W W') :
    ∀ (ns : List String) (gs : List (DataW H)) (ps : List MemPlace), varsOk P ns = true → DataW.TrodVars enc P W (fun _ => true) ns gs ps → (∀ x ∈ ps, x.block < W.heap.size) →
      DataW.TrodVars enc P W' (fun b => decide (b < W.heap.size)) ns gs ps := by
  intro ns
  induction ns with
  | nil => intro gs ps _ h _; obtain ⟨rfl, rfl⟩ := trodVars_none h; exact rfl
  | cons n ns ih =>
    intro gs ps hv h hlt
    cases gs with
    | nil => exact h.elim
    | cons d gs =>
      obtain ⟨g, t, cs, fuel, p, q, hg, ht, hvar, hd, hr, rfl⟩ := h
      simp only [varsOk, List.all_cons, Bool.and_eq_true] at hv
      have hv1 := hv.1
      rw [hg] at hv1
      simp only [ht, Bool.and_eq_true, decide_eq_true_eq] at hv1
      have hgl : g < W.heap.size := by
        simp only [World.var?, hg, Option.bind_some] at hvar
        rcases Nat.lt_or_ge g W.heap.size with hlt | hge
        · exact hlt
        · rw [Array.getElem?_eq_none hge] at hvar; simp at hvar
      have h0 : DataW.Trod enc P W 0 (fun _ => true) true t (.agg cs) d p := ⟨fuel, by simpa [Value.cells] using hd⟩
      obtain ⟨fuel', hd'⟩ := Below.trod hl hv1.1 hv1.2 h0 hb (fun x hx => hlt x (by simp [hx]))
      refine ⟨g, t, cs, fuel', p, q, hg, ht, ?_, by simpa [Value.cells] using hd', ih _ _ hv.2 hr (fun x hx => hlt x (by simp [hx])), rfl⟩
      simp only [World.var?, hg, Option.bind_some] at hvar ⊢
      rw [hb.block g hgl]
      exact hvar

/-- A law's row at its end, the listed variables too: it returned true, and of what was there nothing has turned. -/
theorem law_postV {H : Type} {enc : TypeId × Value → H} {P : Program} {f : Func} {s : ChangeSpec} {W W' : World} {args : Array Value} {ds gs : List (DataW H)} {before : List MemPlace} {B : TypeId}
    (hl : laidOutB P = true) (hr : f.params.toList.all (fun t => P.readableRec t && decide (t < P.types.size)) = true) (hvs : varsOk P s.vars = true)
    (hres : f.resultTypes = #[B]) (hB : P.underlying B = some .bool)
    (hW : DataW.Whole enc P f.params.toList s.vars false W args.toList ds gs before)
    (hfn : s.fn H (ds ++ gs) = { results := [.lit (.bool true)], args := ds, vars := gs }) (hb : Below W.heap.size W W') :
    s.post enc P f false true false false W args (.bool true) W' := by
  have hlt : ∀ p ∈ before, p.block < W.heap.size := fun p hp => hW.lt p hp
  have hW' := hW
  obtain ⟨p, q, hA, hV, rfl, _, _⟩ := hW'
  refine ⟨ds, gs, p ++ q, [], p, q, hW, ?_, ?_, ?_, hb.frame _, fun h => by cases h⟩
  · rw [hfn, hres]
    exact trodAll_cons_mk (shut_bool hB _) trodAll_mk0
  · rw [hfn]
    exact trodAll_stay hl hb _ _ _ _ hr hA (fun x hx => hlt x (by simp [hx]))
  · rw [hfn]
    exact trodVars_stay hl hb _ _ _ hvs hV (fun x hx => hlt x (by simp [hx]))

theorem vars_one {H : Type} {enc : TypeId × Value → H} {P : Program} {W : World} {sp : Nat → Bool} {n : String} {gs : List (DataW H)} {q : List MemPlace} (h : DataW.TrodVars enc P W sp [n] gs q) : ∃ g1, gs = [g1] := by
  cases gs with
  | nil => exact h.elim
  | cons g gs =>
    obtain ⟨_, _, _, _, _, _, _, _, _, _, hr, _⟩ := h
    obtain ⟨rfl, _⟩ := trodVars_none hr
    exact ⟨_, rfl⟩

theorem kept_cell {W w1 : World} (hb : Below W.heap.size W w1) (b o : Nat) (h : b < W.heap.size) : w1.cell? ⟨b, o, none⟩ = W.cell? ⟨b, o, none⟩ := hb.cell (p := ⟨b, o, none⟩) h

theorem kept_trans {a b c : World} (h : Below a.heap.size a b) (k : Below b.heap.size b c) : Below a.heap.size a c := h.trans (k.mono h.size)

theorem grown_below {a b c : World} {row : Option Nat} (h : Below a.heap.size a b) (k : b.grownBy c row) (hr : ∀ g, row = some g → a.heap.size ≤ g) : Below a.heap.size a c := h.grown k h.size hr

def digitI (c : Int) : Bool := decide (48 ≤ c) && decide (c ≤ 57)

theorem digit_any (c : Int) (w : World) :
    Calls Tryd.prog 61 #[.int .u8 c] w fun e w' => e = .returned (.bool (digitI c)) ∧ w = w' := by
  unfold digitI
  rcases (show ¬ 48 ≤ c ∨ (48 ≤ c ∧ ¬ c ≤ 57) ∨ (48 ≤ c ∧ c ≤ 57) from by omega) with h1 | ⟨h1, h2⟩ | ⟨h1, h2⟩
  all_goals
    go_enter Tryd.func61, Tryd.ntmps61
    go_wp2
    go_ret
    exact ⟨by simp [*] <;> omega, rfl⟩

/-- A row of elements of the call's own (type e, sz cells each), in a block from lo on and below hi. -/
def RowF (e sz : Nat) (w : World) (lo hi : Nat) (v : Value) (n : Nat) (xs : List Value) : Prop :=
  w.ownsRow lo e sz v n xs ∧ ∀ g, v.ownBlock = some g → lo ≤ g ∧ g < hi

theorem RowF_form {e sz : Nat} {w : World} {lo hi : Nat} {v : Value} {n : Nat} {xs : List Value} (h : RowF e sz w lo hi v n xs) :
    (n = 0 ∧ xs = [] ∧ v = .slice none 0 0) ∨ ∃ g cap, v = .slice (some ⟨g, 0, none⟩) n cap ∧ lo ≤ g ∧ g < hi ∧ g < w.heap.size ∧ n ≤ cap ∧ cap ≤ maxLen := by
  rcases h.1.2 with ⟨h1, h2⟩ | ⟨g, cap, cur, rfl, hg, hh, h3, h4, _⟩
  · exact Or.inl ⟨h2, List.eq_nil_of_length_eq_zero (by rw [h.1.1, h2, Nat.zero_mul]), h1⟩
  · exact Or.inr ⟨g, cap, rfl, hg, (h.2 g rfl).2, (h.1.lt g rfl).2, h3, h4⟩

/-- The digits of a number, none of 0. -/
def dd (u : Nat) : List UInt8 := if u = 0 then [] else Lib.decDigits u

theorem dd_step (u : Nat) (h : u ≠ 0) : dd u = dd (u / 10) ++ [UInt8.ofNat (48 + u % 10)] := by
  unfold dd
  rw [if_neg h, Lib.decDigits]
  by_cases h1 : u < 10
  · rw [dif_pos h1, if_pos (by omega), Nat.mod_eq_of_lt h1]
    rfl
  · rw [dif_neg h1, if_neg (by omega)]

/-- A byte's cell. -/
def byteV (b : UInt8) : Value := .int .u8 (b.toNat : Int)

theorem info_byte : (Tryd.prog.info? 5).map (fun i => (i.zero, i.size, i.bytes)) = some (some (.int .u8 0), 1, 1) := by kernel_rfl

theorem dd_len (m : Nat) (h : m ≤ 9223372036854775808) : (dd m).length ≤ 20 := by
  unfold dd
  split
  · simp
  · rw [Lib.decDigits_length]
    exact Lib.nDigits_le20 m (by omega)

theorem row_news {w : World} {lo g cap : Nat} {bs : List UInt8} (h : w.ownsRow lo 5 1 (.slice (some ⟨g, 0, none⟩) bs.length cap) bs.length (bs.map byteV)) : ∀ j u, (bs.map byteV)[j]? = some u → w.cell? ((⟨g, 0, none⟩ : Addr).add j) = some u :=
  World.ownsRow.cells h rfl

theorem row_string {w : World} {lo g cap : Nat} {bs : List UInt8} (h : w.ownsRow lo 5 1 (.slice (some ⟨g, 0, none⟩) bs.length cap) bs.length (bs.map byteV)) :
    (convert 22 9 (.slice (some ⟨g, 0, none⟩) bs.length cap)).run Tryd.prog w = .ok (.string ⟨bs.toArray⟩) w :=
  run_convert_bytes_back (P := Tryd.prog) w 22 9 5 ⟨g, 0, none⟩ cap bs Tryd.underlying22 Tryd.underlying5 Tryd.underlying9 (fun j hj => row_news h j _ (by simp [hj, byteV]))

theorem byte_one (bs : List UInt8) : ∀ u ∈ bs.map byteV, u.oneCell' = true := by
  intro u hu
  obtain ⟨b, _, rfl⟩ := List.mem_map.1 hu
  rfl

/-- The loop of digits: what is left of m, and what is written. -/
def DecR (m : Nat) (w wr : World) (o : Value) (u : Nat) : Prop :=
  ∃ (bs : List UInt8) (g cap : Nat), dd m = dd u ++ bs ∧ o = .slice (some ⟨g, 0, none⟩) bs.length cap ∧ wr.ownsRow w.heap.size 5 1 o bs.length (bs.map byteV) ∧ Below w.heap.size w wr ∧ w.heap.size < wr.heap.size

set_option maxRecDepth 100000 in
theorem specDec_pos (m : Nat) (hm : m ≤ 9223372036854775807) (w : World) :
    Calls Tryd.prog 40 #[.int .i64 (m : Int)] w fun e w' => e = .returned (.string ⟨(Lib.itoa (m : Int)).toArray⟩) ∧ Below w.heap.size w w' := by
  obtain ⟨i0, hi, hz0, hz1, hz2⟩ := info_parts info_byte
  have hdl := dd_len m (by omega)
  have hF : Lib.itoa (m : Int) = Lib.decDigits m := by unfold Lib.itoa; rw [if_neg (by omega)]; simp
  rw [hF]
  clear hF
  have HR := Lib.hid (rfl : Lib.decDigits m = Lib.decDigits m)
  have hgen : ∃ F, Lib.decDigits m = F ∧ (m = 0 → F = [48]) ∧ (m ≠ 0 → F = dd m) := ⟨_, rfl, fun h => by rw [h, Lib.decDigits, dif_pos (by omega)]; rfl, fun h => by rw [dd, if_neg h]⟩
  obtain ⟨F, hF, hF0, hF1⟩ := hgen
  rw [hF]
  clear hF HR
  have HF0 := Lib.hid hF0; clear hF0
  have HF1 := Lib.hid hF1; clear hF1
  go_enter Tryd.func40, Tryd.ntmps40
  go_wp2_with fail
  go_loopw [3, 4] (fun o k wr => ∃ u : Nat, u ≤ m ∧ k = .int .i64 (u : Int) ∧ DecR m w wr o u) (fun _ k _ => (intOf k).toNat)
  case atStart => exact ⟨m, Nat.le_refl _, rfl, [], w.heap.size, 0, by simp, rfl, by simpa using World.ownsRow_lit w (e := 5) (size := 1) #[] 0 (Nat.le_refl _) (by decide) (by rfl), by go_grown, by simp⟩
  case round =>
    obtain ⟨u, hu, rfl, bs, g, cap, hdd, rfl, hown, hb, hlw⟩ := hrel
    by_cases h0 : u = 0
    · subst h0
      have hbs : dd m = bs := by simpa [dd] using hdd
      have hcv := row_string hown
      by_cases hm0 : m = 0
      · have hl0 : bs = [] := by rw [← hbs, hm0]; rfl
        subst hl0
        have HO := Lib.hid hown; clear hown
        go_wp2
        go_ret
        exact ⟨by rw [HF0.out hm0]; rfl, hb⟩
      · have hne : ((bs.length : Int) == 0) = false := by
          have : bs ≠ [] := by
            rw [← hbs, dd_step m hm0]
            simp
          have := List.length_pos_iff.2 this
          simp
          omega
        have HO := Lib.hid hown; clear hown
        have HB := Lib.hid hbs; clear hbs hdd
        go_wp2
        go_ret
        exact ⟨by rw [HF1.out hm0, HB.out]; rfl, hb⟩
    · have hst := dd_step u h0
      rw [hst, List.append_assoc] at hdd
      have hlen : bs.length ≤ 20 := by
        have := congrArg List.length hdd
        simp at this
        omega
      have hmod : (u : Int).tmod 10 = ((u % 10 : Nat) : Int) := by rw [Int.tmod_eq_emod_of_nonneg (by omega)]; omega
      have hdiv : (u : Int).tdiv 10 = ((u / 10 : Nat) : Int) := by rw [Int.tdiv_eq_ediv_of_nonneg (by omega)]; omega
      have hd10 : u % 10 < 10 := Nat.mod_lt _ (by omega)
      have hbyte : byteV (UInt8.ofNat (48 + u % 10)) = .int .u8 ((48 : Int) + ((u % 10 : Nat) : Int)) := by
        simp only [byteV]
        rw [UInt8.toNat_ofNat_of_lt' (by have : UInt8.size = 256 := rfl; omega)]
        push_cast
        rfl
      have hsz := hb.size
      have hlt10 : u / 10 < u := Nat.div_lt_self (by omega) (by omega)
      have HD := Lib.hid hdd; clear hdd hst
      have HBY := Lib.hid hbyte; clear hbyte
      generalize u / 10 = q at *
      generalize u % 10 = d at *
      have hw8 : IntKind.u8.wrap ((48 : Int) + (d : Int)) = 48 + (d : Int) := IntWalk.u8_in _ (by omega)
      have HO := Lib.hid hown; clear hown
      have hlit := World.ownsRow_lit wr (base := w.heap.size) (e := 5) (size := 1) #[.int .u8 ((48 : Int) + (d : Int))] 1 hsz (by decide) (by rfl)
      have HL := Lib.hid hlit; clear hlit
      have hone := byte_one bs
      have HONE := Lib.hid hone; clear hone
      go_wp2_with (at_builtin; refine wpList_append_own _ rfl (.tmp 21) (.tmp 22) _ rfl w.heap.size 5 i0 (.int .u8 0) 1 1 Tryd.underlying22 hi hz0 hz1 hz2 rfl (by decide) (.slice (some ⟨wr.heap.size, 0, none⟩) 1 1) 1 [.int .u8 ((48 : Int) + (d : Int))] rfl HL.out ⟨g, 0, none⟩ bs.length cap (bs.map byteV) rfl (by simp) (row_news (HO.out.alloc _)) HONE.out (by unfold maxLen; omega) (by omega) (by simp; omega) ?_; intro v2 w2 hown2 hg2 _)
      go_roundw
      case rel =>
        have hrow2 : RowF 5 1 w2 w.heap.size w2.heap.size v2 (1 + bs.length) ([.int .u8 ((48 : Int) + (d : Int))] ++ bs.map byteV) := ⟨hown2, hown2.lt⟩
        have hb2 : Below w.heap.size w w2 := grown_below (kept_trans hb (by go_grown)) hg2 (fun x hx => by simp [Value.ownBlock] at hx; omega)
        rcases RowF_form hrow2 with ⟨hz, _⟩ | ⟨g2, cap2, hv, _, _, hlt2, _, _⟩
        · omega
        · refine ⟨q, by omega, by go_num, UInt8.ofNat (48 + d) :: bs, g2, cap2, by simpa using HD.out, by rw [hv, List.length_cons, Nat.add_comm], ?_, hb2, ?_⟩
          · rw [List.map_cons, HBY.out, List.length_cons, Nat.add_comm bs.length 1]
            exact hown2
          · have := hg2.size
            simp at this
            omega
      case measure => simp [intOf]; omega

set_option maxRecDepth 100000 in
theorem specDec_neg (m : Nat) (h1m : 1 ≤ m) (hm : m ≤ 9223372036854775808) (w : World) :
    Calls Tryd.prog 40 #[.int .i64 (-(m : Int))] w fun e w' => e = .returned (.string ⟨(Lib.itoa (-(m : Int))).toArray⟩) ∧ Below w.heap.size w w' := by
  obtain ⟨i0, hi, hz0, hz1, hz2⟩ := info_parts info_byte
  have hdl := dd_len m (by omega)
  have hF : Lib.itoa (-(m : Int)) = 45 :: dd m := by unfold Lib.itoa dd; rw [if_pos (by omega), if_neg (by omega)]; simp
  rw [hF]
  clear hF
  go_enter Tryd.func40, Tryd.ntmps40
  go_wp2_with fail
  go_loopw [3, 4] (fun o k wr => ∃ u : Nat, u ≤ m ∧ k = .int .i64 (-(u : Int)) ∧ DecR m w wr o u) (fun _ k _ => (-(intOf k)).toNat)
  case atStart => exact ⟨m, Nat.le_refl _, rfl, [], w.heap.size, 0, by simp, rfl, by simpa using World.ownsRow_lit w (e := 5) (size := 1) #[] 0 (Nat.le_refl _) (by decide) (by rfl), by go_grown, by simp⟩
  case round =>
    obtain ⟨u, hu, rfl, bs, g, cap, hdd, rfl, hown, hb, hlw⟩ := hrel
    by_cases h0 : u = 0
    · subst h0
      have hbs : dd m = bs := by simpa [dd] using hdd
      have hcv := row_string hown
      have hne : ((bs.length : Int) == 0) = false := by
        have : bs ≠ [] := by
          rw [← hbs, dd_step m (by omega)]
          simp
        have := List.length_pos_iff.2 this
        simp
        omega
      have hcat : (ByteArray.mk #[45]) ++ (ByteArray.mk bs.toArray) = ByteArray.mk (45 :: bs).toArray := by
        apply ByteArray.ext
        simp [ByteArray.data_append]
      have hbl : bs.length ≤ 20 := by rw [← hbs]; exact hdl
      have HO := Lib.hid hown; clear hown
      have HB := Lib.hid hbs; clear hbs hdd
      go_wp2
      go_ret
      exact ⟨by rw [HB.out]; rfl, hb⟩
    · have hst := dd_step u h0
      rw [hst, List.append_assoc] at hdd
      have hlen : bs.length ≤ 20 := by
        have := congrArg List.length hdd
        simp at this
        omega
      have hmod : (-(u : Int)).tmod 10 = -((u % 10 : Nat) : Int) := by rw [Int.neg_tmod, Int.tmod_eq_emod_of_nonneg (by omega)]; omega
      have hdiv : (-(u : Int)).tdiv 10 = -((u / 10 : Nat) : Int) := by rw [Int.neg_tdiv, Int.tdiv_eq_ediv_of_nonneg (by omega)]; omega
      have hd10 : u % 10 < 10 := Nat.mod_lt _ (by omega)
      have hbyte : byteV (UInt8.ofNat (48 + u % 10)) = .int .u8 ((48 : Int) + ((u % 10 : Nat) : Int)) := by
        simp only [byteV]
        rw [UInt8.toNat_ofNat_of_lt' (by have : UInt8.size = 256 := rfl; omega)]
        push_cast
        rfl
      have hsz := hb.size
      have hlt10 : u / 10 < u := Nat.div_lt_self (by omega) (by omega)
      have HD := Lib.hid hdd; clear hdd hst
      have HBY := Lib.hid hbyte; clear hbyte
      generalize u / 10 = q at *
      generalize u % 10 = d at *
      have hw8 : IntKind.u8.wrap ((48 : Int) + (d : Int)) = 48 + (d : Int) := IntWalk.u8_in _ (by omega)
      have HO := Lib.hid hown; clear hown
      have hlit := World.ownsRow_lit wr (base := w.heap.size) (e := 5) (size := 1) #[.int .u8 ((48 : Int) + (d : Int))] 1 hsz (by decide) (by rfl)
      have HL := Lib.hid hlit; clear hlit
      have hone := byte_one bs
      have HONE := Lib.hid hone; clear hone
      by_cases hd0 : d = 0
      · subst hd0
        go_wp2_with (at_builtin; refine wpList_append_own _ rfl (.tmp 21) (.tmp 22) _ rfl w.heap.size 5 i0 (.int .u8 0) 1 1 Tryd.underlying22 hi hz0 hz1 hz2 rfl (by decide) (.slice (some ⟨wr.heap.size, 0, none⟩) 1 1) 1 [.int .u8 48] rfl HL.out ⟨g, 0, none⟩ bs.length cap (bs.map byteV) rfl (by simp) (row_news (HO.out.alloc _)) HONE.out (by unfold maxLen; omega) (by omega) (by simp; omega) ?_; intro v2 w2 hown2 hg2 _)
        go_roundw
        case rel =>
          have hrow2 : RowF 5 1 w2 w.heap.size w2.heap.size v2 (1 + bs.length) ([.int .u8 48] ++ bs.map byteV) := ⟨hown2, hown2.lt⟩
          have hb2 : Below w.heap.size w w2 := grown_below (kept_trans hb (by go_grown)) hg2 (fun x hx => by simp [Value.ownBlock] at hx; omega)
          rcases RowF_form hrow2 with ⟨hz, _⟩ | ⟨g2, cap2, hv, _, _, hlt2, _, _⟩
          · omega
          · refine ⟨q, by omega, by go_num, UInt8.ofNat 48 :: bs, g2, cap2, by simpa using HD.out, by rw [hv, List.length_cons, Nat.add_comm], ?_, hb2, ?_⟩
            · rw [List.map_cons, show byteV (UInt8.ofNat 48) = .int .u8 48 from rfl, List.length_cons, Nat.add_comm bs.length 1]
              exact hown2
            · have := hg2.size
              simp at this
              omega
        case measure => simp [intOf]; omega
      · have hdn : decide (-(d : Int) < 0) = true := by simp; omega
        go_wp2_with (at_builtin; refine wpList_append_own _ rfl (.tmp 21) (.tmp 22) _ rfl w.heap.size 5 i0 (.int .u8 0) 1 1 Tryd.underlying22 hi hz0 hz1 hz2 rfl (by decide) (.slice (some ⟨wr.heap.size, 0, none⟩) 1 1) 1 [.int .u8 ((48 : Int) + (d : Int))] rfl HL.out ⟨g, 0, none⟩ bs.length cap (bs.map byteV) rfl (by simp) (row_news (HO.out.alloc _)) HONE.out (by unfold maxLen; omega) (by omega) (by simp; omega) ?_; intro v2 w2 hown2 hg2 _)
        go_roundw
        case rel =>
          have hrow2 : RowF 5 1 w2 w.heap.size w2.heap.size v2 (1 + bs.length) ([.int .u8 ((48 : Int) + (d : Int))] ++ bs.map byteV) := ⟨hown2, hown2.lt⟩
          have hb2 : Below w.heap.size w w2 := grown_below (kept_trans hb (by go_grown)) hg2 (fun x hx => by simp [Value.ownBlock] at hx; omega)
          rcases RowF_form hrow2 with ⟨hz, _⟩ | ⟨g2, cap2, hv, _, _, hlt2, _, _⟩
          · omega
          · refine ⟨q, by omega, by go_num, UInt8.ofNat (48 + d) :: bs, g2, cap2, by simpa using HD.out, by rw [hv, List.length_cons, Nat.add_comm], ?_, hb2, ?_⟩
            · rw [List.map_cons, HBY.out, List.length_cons, Nat.add_comm bs.length 1]
              exact hown2
            · have := hg2.size
              simp at this
              omega
        case measure => simp [intOf]; omega

theorem specDec_any (n : Int) (h : -9223372036854775808 ≤ n ∧ n ≤ 9223372036854775807) (w : World) :
    Calls Tryd.prog 40 #[.int .i64 n] w fun e w' => e = .returned (.string ⟨(Lib.itoa n).toArray⟩) ∧ Below w.heap.size w w' := by
  rcases Int.lt_or_le n 0 with h0 | h0
  · obtain ⟨m, rfl⟩ : ∃ m : Nat, n = -(m : Int) := ⟨n.natAbs, by omega⟩
    exact specDec_neg m (by omega) (by omega) w
  · obtain ⟨m, rfl⟩ : ∃ m : Nat, n = (m : Int) := ⟨n.toNat, by omega⟩
    exact specDec_pos m (by omega) w

/-- New blocks behind the heap alone. -/
theorem below_ext {w w1 : World} (os : Array Obj) (h1 : w1.heap = w.heap ++ os) (h2 : w1.os = w.os) (h3 : w1.tape = w.tape) (h4 : w1.output = w.output) : Below w.heap.size w w1 where
  os := h2
  tape := h3
  output := h4
  size := by rw [h1]; simp
  block := fun i hi => by rw [h1]; simp [Array.getElem?_append, hi]

/-- The table of the powers of ten. -/
def PowTab (w : World) : Prop := Lib.TabIs Tryd.prog w "internal/strconv.uint64pow10" .u64 Lib.pow10Tab

theorem tab_kept {W w1 : World} {name : String} {k : IntKind} {zs : List Int} (h : Lib.TabIs Tryd.prog W name k zs) (hb : Below W.heap.size W w1) : Lib.TabIs Tryd.prog w1 name k zs := by
  unfold Lib.TabIs World.var? at *
  cases hg : (Tryd.prog).globalNamed name with
  | none => simp [hg] at h
  | some g =>
    simp only [hg, Option.bind_some] at h ⊢
    rcases Nat.lt_or_ge g W.heap.size with hlt | hge
    · rw [hb.block g hlt]
      exact h
    · rw [Array.getElem?_eq_none hge] at h
      simp at h

theorem tabIs_of_reads {P : Program} {W : World} {name : String} {k : IntKind} {zs : List Int} {g : Nat} {t e : TypeId} {n : Nat}
    (hg : P.globalNamed name = some g) (hty : (P.globals[g]?).map (·.type) = some t) (ht : P.underlying t = some (.array n e)) (he : P.underlying e = some (.int k)) (hce : P.cellsOf e = 1) (hct : P.cellsOf t = n)
    (h : Lib.VarReads P W name (Lib.tabData k zs)) : Lib.TabIs P W name k zs := by
  obtain ⟨g', t', cs, fuel, p, hg', ht', hvar, hd⟩ := h
  obtain rfl := Option.some.inj (hg.symm.trans hg')
  obtain rfl := Option.some.inj (hty.symm.trans ht')
  unfold Lib.TabIs
  rw [hvar, ← Lib.cells_of_tab ht he hce hct hd]

theorem powTab_of {W : World} (h : Lib.VarReads Tryd.prog W "internal/strconv.uint64pow10" Rows.laid_internal_strconv_uint64pow10) : PowTab W :=
  tabIs_of_reads (g := 2) (t := 122) (e := 63) (n := 20) (by kernel_rfl) (by kernel_rfl) Tryd.underlying122 Tryd.underlying63 (by kernel_rfl) (by kernel_rfl) h

theorem implDecimal_any (n : Int) (h : -9223372036854775808 ≤ n ∧ n ≤ 9223372036854775807) (w : World) (ht : PowTab w) :
    Calls Tryd.prog 21 #[.int .i64 n] w fun e w' => e = .returned (.string ⟨(Lib.itoa n).toArray⟩) ∧ Below w.heap.size w w' := by
  have H := Lib.hid (Tryd.strconv_FormatInt_10 n h.1 h.2 w ht)
  generalize Lib.itoa n = F at *
  go_enter Tryd.func21, Tryd.ntmps21
  go_wp2_with fail
  refine H.out.mono ?_
  rintro e w1 ⟨rfl, k, os, hw⟩
  have hb : Below w.heap.size w w1 := below_ext os (by rw [hw]; rfl) (by rw [hw]; rfl) (by rw [hw]; rfl) (by rw [hw]; rfl)
  clear hw
  go_wp2
  go_ret
  exact ⟨rfl, hb⟩

/-- A byte is a digit. -/
def digB (c : UInt8) : Bool := decide (48 ≤ c.toNat) && decide (c.toNat ≤ 57)

/-- What digits spell behind a number. -/
def valB (l : List UInt8) (a : Nat) : Nat := l.foldl (fun a c => a * 10 + (c.toNat - 48)) a

theorem digits_ok (u : Nat) : (Lib.decDigits u).all digB = true ∧ valB (Lib.decDigits u) 0 = u ∧ 1 ≤ (Lib.decDigits u).length ∧ (Lib.decDigits u).head? ≠ some 45 := by
  induction u using Nat.strongRecOn with
  | _ u ih =>
    rw [Lib.decDigits]
    have hb : ∀ d : Nat, d < 10 → (UInt8.ofNat (48 + d)).toNat = 48 + d := fun d hd => UInt8.toNat_ofNat_of_lt' (by have : UInt8.size = 256 := rfl; omega)
    by_cases h1 : u < 10
    · rw [dif_pos h1]
      have := hb u h1
      refine ⟨by simp [digB, this]; omega, by simp only [valB, List.foldl_cons, List.foldl_nil, this]; omega, by simp, ?_⟩
      intro he
      simp only [List.head?_cons, Option.some.injEq] at he
      rw [he] at this
      have e45 : (45 : UInt8).toNat = 45 := rfl
      omega
    · rw [dif_neg h1]
      obtain ⟨i1, i2, i3, i4⟩ := ih (u / 10) (by omega)
      have := hb (u % 10) (by omega)
      refine ⟨?_, ?_, by simp, ?_⟩
      · rw [List.all_append, i1]
        simp [digB, this]
        omega
      · simp only [valB, List.foldl_append, List.foldl_cons, List.foldl_nil, this] at i2 ⊢
        rw [i2]
        omega
      · rw [List.head?_append]
        cases hd : Lib.decDigits (u / 10) with
        | nil => rw [hd] at i3; simp at i3
        | cons c r => rw [hd] at i4; simpa using i4

theorem parse_ok (l : List UInt8) : ∀ (acc k : Nat), l.all digB = true → acc < 10 ^ k → k + l.length ≤ 18 → Lib.parseUintM (2 ^ 64 - 1) acc l = .ok (valB l acc) ∧ valB l acc < 10 ^ (k + l.length) := by
  induction l with
  | nil => intro acc k _ ha _; exact ⟨rfl, by simpa [valB] using ha⟩
  | cons c r ih =>
    intro acc k hall ha hk
    simp only [List.all_cons, Bool.and_eq_true, digB, decide_eq_true_eq] at hall
    simp only [List.length_cons] at hk ⊢
    have hp : (10 : Nat) ^ (k + 1) = 10 ^ k * 10 := Nat.pow_succ ..
    have hnext : acc * 10 + (c.toNat - 48) < 10 ^ (k + 1) := by omega
    have hle : (10 : Nat) ^ (k + 1) ≤ 10 ^ 18 := Nat.pow_le_pow_right (by omega) (by omega)
    have h18 : (10 : Nat) ^ 18 = 1000000000000000000 := by decide
    obtain ⟨j1, j2⟩ := ih (acc * 10 + (c.toNat - 48)) (k + 1) (by simpa [digB] using hall.2) hnext (by omega)
    rw [Lib.parseUintM, if_pos hall.1, if_neg (by omega), if_neg (by omega)]
    refine ⟨by rw [j1]; rfl, ?_⟩
    have : k + (r.length + 1) = k + 1 + r.length := by omega
    rw [this]
    exact j2

/-- What stands behind the sign. -/
def readT (l : List UInt8) : List UInt8 := if l.head? = some 45 then l.tail else l

def readN (l : List UInt8) : Int := if l.head? = some 45 then -(valB (readT l) 0 : Int) else (valB (readT l) 0 : Int)

def ReadP (l : List UInt8) : Prop := 1 ≤ (readT l).length ∧ (readT l).length ≤ 18 ∧ (readT l).all digB = true ∧ Lib.itoa (readN l) = l

open Classical in
/-- The number with this decimal form, and whether there is one. -/
noncomputable def readL (l : List UInt8) : Int × Bool := if ReadP l then (readN l, true) else (0, false)

theorem parse_int (l : List UInt8) (h1 : 1 ≤ (readT l).length) (h2 : (readT l).length ≤ 18) (h3 : (readT l).all digB = true) : Lib.parseIntB 64 l = .ok (readN l) := by
  obtain ⟨j1, j2⟩ := parse_ok (readT l) 0 0 h3 (by simp) (by omega)
  have hle : (10 : Nat) ^ (0 + (readT l).length) ≤ 10 ^ 18 := Nat.pow_le_pow_right (by omega) (by omega)
  have h18 : (10 : Nat) ^ 18 = 1000000000000000000 := by decide
  have hne : readT l ≠ [] := fun h => by rw [h] at h1; simp at h1
  have hu : Lib.parseUintB 64 (readT l) = .ok (valB (readT l) 0) := by rw [Lib.parseUintB, if_neg hne, j1]
  cases l with
  | nil => simp [readT] at h1
  | cons c r =>
    by_cases hc : c = 45
    · subst hc
      have ht : readT (45 :: r) = r := by simp [readT]
      have hn : readN (45 :: r) = -(valB r 0 : Int) := by simp [readN, ht]
      rw [ht] at hu j2 hle
      rw [hn, Lib.parseIntB]
      simp only [show (45 : UInt8).toNat = 45 from rfl, or_true, if_true, hu, not_true_eq_false, false_and, if_false, true_and]
      rw [if_neg (by omega)]
    · have ht : readT (c :: r) = c :: r := by simp [readT, hc]
      have hn : readN (c :: r) = (valB (c :: r) 0 : Int) := by simp [readN, ht, hc]
      rw [ht] at hu j2 hle h3
      simp only [List.all_cons, Bool.and_eq_true, digB, decide_eq_true_eq] at h3
      have h45 : ¬ c.toNat = 45 := by omega
      have h43 : ¬ c.toNat = 43 := by omega
      rw [hn, Lib.parseIntB]
      simp only [h45, h43, or_self, if_false, hu, not_false_eq_true, true_and, false_and]
      rw [if_neg (by omega)]

theorem itoa_read (v : Int) (l : List UInt8) (h : Lib.itoa v = l) : 1 ≤ (readT l).length ∧ (readT l).all digB = true ∧ readN l = v := by
  subst h
  unfold Lib.itoa
  by_cases h0 : v < 0
  · obtain ⟨i1, i2, i3, i4⟩ := digits_ok v.natAbs
    rw [if_pos h0]
    have ht : readT (45 :: Lib.decDigits v.natAbs) = Lib.decDigits v.natAbs := by simp [readT]
    refine ⟨by rw [ht]; exact i3, by rw [ht]; exact i1, ?_⟩
    rw [readN, ht, if_pos (by simp), i2]
    omega
  · obtain ⟨i1, i2, i3, i4⟩ := digits_ok v.toNat
    rw [if_neg h0]
    have ht : readT (Lib.decDigits v.toNat) = Lib.decDigits v.toNat := by simp [readT, i4]
    refine ⟨by rw [ht]; exact i3, by rw [ht]; exact i1, ?_⟩
    rw [readN, ht, if_neg i4, i2]
    omega

theorem readL_yes {l : List UInt8} {v : Int} (h : Lib.itoa v = l) (ht : (readT l).length ≤ 18) : readL l = (v, true) := by
  obtain ⟨h1, h2, h3⟩ := itoa_read v l h
  rw [readL, if_pos ⟨h1, ht, h2, by rw [h3]; exact h⟩, h3]

theorem readL_no {l : List UInt8} (h : ¬ ReadP l) : readL l = (0, false) := by rw [readL, if_neg h]

theorem trim_is (l : List UInt8) : Lib.trimPrefix l [45] = readT l := by
  cases l with
  | nil => rfl
  | cons c r =>
    by_cases hc : c = 45
    · subst hc
      simp [Lib.trimPrefix, Lib.hasPrefix, readT]
    · have : ¬ (45 : UInt8) = c := fun h => hc h.symm
      simp [Lib.trimPrefix, Lib.hasPrefix, readT, hc, this]

theorem parse_bd {l : List UInt8} {v : Int} (h : Lib.parseIntB 64 l = .ok v) : -9223372036854775808 ≤ v ∧ v ≤ 9223372036854775807 := by
  cases l with
  | nil => simp [Lib.parseIntB] at h
  | cons c r =>
    simp only [Lib.parseIntB] at h
    split at h
    · cases h
    · cases h
    · split at h
      · cases h
      · split at h
        · cases h
        · next u _ h1 h2 =>
          injection h with h
          split at h <;> omega

/-- The variable holds an error. -/
def ErrVar (w : World) (g : Nat) : Prop := g < w.heap.size ∧ ∃ te pe, w.cell? ⟨g, 0, none⟩ = some (.iface te pe)

theorem ErrVar_kept {W w1 : World} {g : Nat} (h : ErrVar W g) (hb : Below W.heap.size W w1) : ErrVar w1 g := by
  obtain ⟨hg, te, pe, hc⟩ := h
  exact ⟨Nat.lt_of_lt_of_le hg hb.size, te, pe, by rw [kept_cell hb g 0 hg]; exact hc⟩

theorem errVar_of {P : Program} {W : World} {name s : String} {d : DataW Unit} {g t : Nat} {ms : Array (String × TypeId)} (hg : P.globalNamed name = some g) (hty : (P.globals[g]?).map (·.type) = some t) (ht : P.underlying t = some (.interface ms)) (hct : P.cellsOf t = 1)
    (h : Lib.VarReads P W name (.iface s d)) : ErrVar W g := by
  obtain ⟨g', t', cs, fuel, p, hg', ht', hvar, hd⟩ := h
  obtain rfl := Option.some.inj (hg.symm.trans hg')
  obtain rfl := Option.some.inj (hty.symm.trans ht')
  have hlt : g < W.heap.size := by
    simp only [World.var?, hg, Option.bind_some] at hvar
    rcases Nat.lt_or_ge g W.heap.size with hlt | hge
    · exact hlt
    · rw [Array.getElem?_eq_none hge] at hvar; simp at hvar
  refine ⟨hlt, ?_⟩
  have hcell := World.var?_cell hg hvar 0
  cases fuel with
  | zero => simp [DataW.trod] at hd
  | succ fuel =>
    cases hl : cs.toList with
    | nil => simp [DataW.trod, ht, hl] at hd
    | cons v r =>
      cases r with
      | cons _ _ => simp [DataW.trod, ht, hl] at hd
      | nil =>
        cases v <;> simp [DataW.trod, ht, hl] at hd
        next te pe =>
          refine ⟨te, pe, ?_⟩
          rw [hcell, ← Array.getElem?_toList, hl]
          rfl

theorem parse64_any (s : ByteArray) (hs : s.size ≤ 1000000) (w : World) (h1 : ErrVar w 3) (h2 : ErrVar w 4) :
    Calls Tryd.prog 44 #[.string s, .int .i64 10, .int .i64 64] w fun e w' => ((∃ v, Lib.parseIntB 64 s.data.toList = .ok v ∧ e = .returned (.tuple #[.int .i64 v, .nilIface])) ∨ ((∀ v, Lib.parseIntB 64 s.data.toList ≠ .ok v) ∧ ∃ x t p, e = .returned (.tuple #[.int .i64 x, .iface t p]))) ∧ Below w.heap.size w w' := by
  obtain ⟨_, te1, pe1, c1⟩ := h1
  obtain ⟨_, te2, pe2, c2⟩ := h2
  rcases hp : Lib.parseIntB 64 s.data.toList with v | _ | _
  · refine (Any.strconv_ParseInt_10_at64_ok Tryd.laysC174 s (by omega) v hp w).mono ?_
    rintro e w' ⟨rfl, hw⟩
    refine ⟨Or.inl ⟨v, rfl, rfl⟩, ?_⟩
    rcases hw with rfl | ⟨t, rfl⟩
    · exact Below.refl _ _
    · exact Joins.below_bytesWorld _ _ _ _ (Nat.le_refl _)
  · refine (Any.strconv_ParseInt_10_at64_syntax Tryd.laysC174 s (by omega) hp _ w c1 (Or.inr ⟨_, _, rfl⟩)).mono ?_
    rintro e w' ⟨N, rfl, _, _, hb⟩
    exact ⟨Or.inr ⟨fun v => by simp, _, _, _, rfl⟩, hb⟩
  · refine (Any.strconv_ParseInt_10_at64_range Tryd.laysC174 s (by omega) hp _ w c2 (Or.inr ⟨_, _, rfl⟩)).mono ?_
    rintro e w' ⟨N, rfl, _, _, hb⟩
    exact ⟨Or.inr ⟨fun v => by simp, _, _, _, rfl⟩, hb⟩

/-- What reading and writing numbers wants of the world. -/
def TextW (w : World) : Prop := PowTab w ∧ ErrVar w 3 ∧ ErrVar w 4

theorem TextW_kept {W w1 : World} (h : TextW W) (hb : Below W.heap.size W w1) : TextW w1 := ⟨tab_kept h.1 hb, ErrVar_kept h.2.1 hb, ErrVar_kept h.2.2 hb⟩

theorem str_ne {a b : ByteArray} (h : ¬ a = b) : (a.toList == b.toList) = false := by
  rw [ByteArray.toList_eq, ByteArray.toList_eq, beq_eq_false_iff_ne]
  intro he
  apply h
  cases a
  cases b
  simpa [Array.toList_inj] using he

set_option maxRecDepth 100000 in
theorem implReadDec_any (s : ByteArray) (hs : s.size ≤ 1000000) (w : World) (ht : TextW w) :
    Calls Tryd.prog 23 #[.string s] w fun e w' => e = .returned (.tuple #[.int .i64 (readL s.data.toList).1, .bool (readL s.data.toList).2]) ∧ Below w.heap.size w w' := by
  have HT := Lib.hid (Tryd.strings_TrimPrefix s ⟨#[45]⟩ w)
  rw [show (ByteArray.mk #[45]).data.toList = [45] from rfl, trim_is] at HT
  have hsl : s.data.toList.length = s.size := Array.length_toList
  by_cases h18 : (readT s.data.toList).length ≤ 18
  · have HP := Lib.hid (parse64_any s hs w ht.2.1 ht.2.2)
    have hsz : (ByteArray.mk (readT s.data.toList).toArray).size = (readT s.data.toList).length := by simp [ByteArray.size]
    generalize hT : ByteArray.mk (readT s.data.toList).toArray = T at *
    have hTs : T.size ≤ 18 := by omega
    clear hsz
    have hdec : decide ((18 : Int) < (T.size : Int)) = false := by simp; omega
    have HW := Lib.hid ht; clear ht
    have H18 := Lib.hid h18; clear h18
    have HTT := Lib.hid hT; clear hT
    go_enter Tryd.func23, Tryd.ntmps23
    go_wp2_with fail
    refine HT.out.mono ?_
    rintro e w1 ⟨rfl, rfl⟩
    go_wp2_with fail
    refine HP.out.mono ?_
    rintro e w2 ⟨(⟨v, hp, rfl⟩ | ⟨hno, x, t, p, rfl⟩), hb⟩
    · have hvb := parse_bd hp
      have HD := Lib.hid (implDecimal_any v hvb w2 (tab_kept HW.out.1 hb))
      by_cases he : Lib.itoa v = s.data.toList
      · have hL := readL_yes he H18.out
        rw [he] at HD
        have hss : ByteArray.mk s.data.toList.toArray = s := by cases s; simp
        rw [hss] at HD
        have HL := Lib.hid hL; clear hL he hp
        go_wp2_with fail
        refine HD.out.mono ?_
        rintro e w3 ⟨rfl, hb3⟩
        go_wp2
        go_ret2
        exact ⟨by rw [HL.out]; rfl, kept_trans hb hb3⟩
      · have hL : readL s.data.toList = (0, false) := readL_no (fun h => by
          have h2 := parse_int _ h.1 h.2.1 h.2.2.1
          rw [hp] at h2
          injection h2 with h2
          rw [h2] at he
          exact he h.2.2.2)
        have hne : ¬ ByteArray.mk (Lib.itoa v).toArray = s := fun h => he (by rw [← h])
        generalize ByteArray.mk (Lib.itoa v).toArray = G at *
        have hne1 := str_ne hne
        have HL := Lib.hid hL; clear hL he hp
        go_wp2_with fail
        refine HD.out.mono ?_
        rintro e w3 ⟨rfl, hb3⟩
        go_wp2
        go_ret2
        exact ⟨by rw [HL.out]; rfl, kept_trans hb hb3⟩
    · have hL : readL s.data.toList = (0, false) := readL_no (fun h => hno _ (parse_int _ h.1 h.2.1 h.2.2.1))
      have HL := Lib.hid hL; clear hL
      have HN := Lib.hid hno; clear hno
      go_wp2
      go_ret2
      exact ⟨by rw [HL.out]; rfl, hb⟩
  · have hL : readL s.data.toList = (0, false) := readL_no (fun h => h18 h.2.1)
    have hsz : (ByteArray.mk (readT s.data.toList).toArray).size = (readT s.data.toList).length := by simp [ByteArray.size]
    generalize hT : ByteArray.mk (readT s.data.toList).toArray = T at *
    have hTs : 18 < T.size := by omega
    clear hsz h18 hT ht
    have HL := Lib.hid hL; clear hL
    go_enter Tryd.func23, Tryd.ntmps23
    go_wp2_with fail
    refine HT.out.mono ?_
    rintro e w1 ⟨rfl, rfl⟩
    go_wp2
    go_ret2
    exact ⟨by rw [HL.out]; rfl, Below.refl _ _⟩

theorem valB_take (l : List UInt8) (k : Nat) (h : k < l.length) : valB (l.take (k + 1)) 0 = valB (l.take k) 0 * 10 + (l[k].toNat - 48) := by
  rw [← List.take_append_getElem h, valB, valB, List.foldl_append]
  rfl

theorem num_bd {l : List UInt8} {k : Nat} (h : (l.take k).all digB = true) (hk : k ≤ 18) : valB (l.take k) 0 < 10 ^ k := by
  have hlen : (l.take k).length ≤ k := by rw [List.length_take]; omega
  have h1 := (parse_ok (l.take k) 0 0 h (by simp) (by omega)).2
  exact Nat.lt_of_lt_of_le h1 (Nat.pow_le_pow_right (by omega) (by omega))

theorem digI_B (c : UInt8) : digitI (c.toNat : Nat) = digB c := by
  simp only [digitI, digB]
  congr 1
  · by_cases h : 48 ≤ c.toNat
    · simp [h]; omega
    · simp [h]; omega
  · by_cases h : c.toNat ≤ 57
    · simp [h]; omega
    · simp [h]; omega

set_option maxRecDepth 100000 in
set_option maxHeartbeats 1600000 in
theorem specNum_any (s : ByteArray) (hs : s.size ≤ 1000000) (w : World) :
    Calls Tryd.prog 42 #[.string s] w fun e w' => e = .returned (.tuple #[.int .i64 (readL s.data.toList).1, .bool (readL s.data.toList).2]) ∧ Below w.heap.size w w' := by
  have hsl : s.data.toList.length = s.size := Array.length_toList
  by_cases h0 : s.size = 0
  · have hl0 : s.data.toList = [] := List.eq_nil_of_length_eq_zero (by omega)
    have hL : readL s.data.toList = (0, false) := readL_no (fun h => by have := h.1; rw [hl0] at this; simp [readT] at this)
    have HL := Lib.hid hL; clear hL
    have hs0 : s = ByteArray.empty := by cases s with | mk d => simp [ByteArray.size] at h0; subst h0; rfl
    generalize hF : readL s.data.toList = F at *
    clear hF hl0 hsl
    subst hs0
    go_enter Tryd.func42, Tryd.ntmps42
    go_wp2
    go_ret2
    exact ⟨by rw [HL.out]; rfl, Below.refl _ _⟩
  · have hne : s.toList.isEmpty = false := by
      rw [ByteArray.toList_eq]
      cases hl : s.data.toList with
      | nil => rw [hl] at hsl; simp at hsl; omega
      | cons a l => rfl
    have h0' : 0 < s.size := by omega
    have hhead : s.data.toList.head? = some (s[0]'h0') := by
      cases hl : s.data.toList with
      | nil => rw [hl] at hsl; simp at hsl; omega
      | cons a l =>
        have : s.data.toList[0]'(by omega) = s[0]'h0' := by simp [ByteArray.getElem_eq_getElem_data]
        simp only [hl, List.getElem_cons_zero] at this
        simp [this]
    by_cases hc : s[0]'h0' = 45
    · have hcn : (((s[0]'h0').toNat : Nat) : Int) = 45 := by rw [hc]; rfl
      have hrt : readT s.data.toList = s.data.toList.tail := by rw [readT, hhead, hc, if_pos rfl]
      have hrn : readN s.data.toList = -(valB (readT s.data.toList) 0 : Int) := by rw [readN, hhead, hc, if_pos rfl]
      have hext : (s.extract 1 s.size).data.toList = s.data.toList.tail := by
        rw [ByteArray.data_extract, Array.toList_extract, List.extract, List.take_of_length_le (by rw [List.length_drop]; omega), List.drop_one]
      have hlt : (readT s.data.toList).length = s.size - 1 := by rw [hrt, List.length_tail]; omega
      by_cases h1 : s.size - 1 < 1
      · have hL : readL s.data.toList = (0, false) := readL_no (fun h => by have := h.1; omega)
        have HL := Lib.hid hL; clear hL hrt hrn hext hlt hhead
        go_enter Tryd.func42, Tryd.ntmps42
        go_wp2
        go_ret2
        exact ⟨by rw [HL.out]; rfl, Below.refl _ _⟩
      · by_cases h2 : 18 < s.size - 1
        · have hL : readL s.data.toList = (0, false) := readL_no (fun h => by have := h.2.1; omega)
          have HL := Lib.hid hL; clear hL hrt hrn hext hlt hhead
          go_enter Tryd.func42, Tryd.ntmps42
          go_wp2
          go_ret2
          exact ⟨by rw [HL.out]; rfl, Below.refl _ _⟩
        · have hT : readT s.data.toList = (s.extract 1 s.size).data.toList := by rw [hrt, hext]
          have hTz : (s.extract 1 s.size).size = s.size - 1 := by simp
          have HT := Lib.hid hT; clear hT
          have HN := Lib.hid (hrn.trans (by rw [HT.out] : _ = -(valB (s.extract 1 s.size).data.toList 0 : Int)))
          have hTl := Lib.hid (show (s.extract 1 s.size).data.toList.length = (s.extract 1 s.size).size from Array.length_toList)
          clear hrt hrn hext hlt hhead
          go_enter Tryd.func42, Tryd.ntmps42
          go_wp2_with fail
          generalize s.extract 1 s.size = T at *
          go_loopw [5, 6] (fun n i wr => ∃ k : Nat, k ≤ T.size ∧ i = .int .i64 k ∧ n = .int .i64 ((valB (T.data.toList.take k) 0 : Nat) : Int) ∧ (T.data.toList.take k).all digB = true ∧ Below w.heap.size w wr) (fun _ i _ => T.size - (intOf i).toNat)
          case atStart => exact ⟨0, by omega, rfl, rfl, rfl, Below.refl _ _⟩
          case round =>
            obtain ⟨k, hk, rfl, rfl, hall, hb⟩ := hrel
            by_cases hlt : k < T.size
            · have hkl : k < T.data.toList.length := by rw [hTl.out]; exact hlt
              have hgk : T.data.toList[k]'hkl = T[k]'hlt := by simp [ByteArray.getElem_eq_getElem_data]
              have hbd := num_bd hall (by omega)
              have hp17 : (10 : Nat) ^ k ≤ 10 ^ 17 := Nat.pow_le_pow_right (by omega) (by omega)
              have h17 : (10 : Nat) ^ 17 = 100000000000000000 := by decide
              have hstep := valB_take T.data.toList k hkl
              have hsall : digB (T.data.toList[k]'hkl) = true → (T.data.toList.take (k + 1)).all digB = true := fun h => by
                rw [← List.take_append_getElem hkl, List.all_append, hall, Bool.true_and, List.all_cons, h]
                rfl
              have hnall : digB (T.data.toList[k]'hkl) = false → readL s.data.toList = (0, false) := fun h => readL_no (fun hp => by
                have h2 := hp.2.2.1
                rw [HT.out] at h2
                have := List.all_eq_true.1 h2 _ (List.getElem_mem hkl)
                rw [h] at this
                cases this)
              rw [hgk] at hstep hsall hnall
              rw [← digI_B] at hsall hnall
              generalize valB (T.data.toList.take k) 0 = V at *
              have HALL := Lib.hid hall; clear hall
              have HST := Lib.hid hstep; clear hstep
              have HSA := Lib.hid hsall; clear hsall
              have HNA := Lib.hid hnall; clear hnall
              clear hgk
              have hV : V < 100000000000000000 := by omega
              clear hbd hp17 h17
              cases hd : digitI ((T[k]'hlt).toNat : Nat)
              · have HD := Lib.hid hd; clear hd
                go_wp2_with (go_at_call 61; refine (digit_any _ _).mono ?_; rw [HD.out]; rintro e w' ⟨rfl, rfl⟩)
                go_ret2
                exact ⟨by rw [HNA.out HD.out]; rfl, hb⟩
              · have hdd := hd
                simp only [digitI, Bool.and_eq_true, decide_eq_true_eq] at hdd
                have HD := Lib.hid hd; clear hd
                go_wp2_with (go_at_call 61; refine (digit_any _ _).mono ?_; rw [HD.out]; rintro e w' ⟨rfl, rfl⟩)
                go_roundw
                case rel => exact ⟨k + 1, by omega, by go_num, by rw [HST.out]; congr 1; omega, HSA.out HD.out, hb⟩
                case measure => simp [intOf]; omega
            · have hkk : k = T.size := by omega
              subst hkk
              rw [List.take_of_length_le (by rw [hTl.out]; exact Nat.le_refl _)] at hall ⊢
              have hbd := num_bd (l := T.data.toList) (k := T.size) (by rw [List.take_of_length_le (by rw [hTl.out]; exact Nat.le_refl _)]; exact hall) (by omega)
              rw [List.take_of_length_le (by rw [hTl.out]; exact Nat.le_refl _)] at hbd
              have hp18 : (10 : Nat) ^ T.size ≤ 10 ^ 18 := Nat.pow_le_pow_right (by omega) (by omega)
              have h18 : (10 : Nat) ^ 18 = 1000000000000000000 := by decide
              have hRN := HN.out
              have hno : ¬ Lib.itoa (-(valB T.data.toList 0 : Int)) = s.data.toList → readL s.data.toList = (0, false) := fun h => readL_no (fun hp => h (by rw [← hRN]; exact hp.2.2.2))
              have hyes : Lib.itoa (-(valB T.data.toList 0 : Int)) = s.data.toList → readL s.data.toList = (-(valB T.data.toList 0 : Int), true) := fun h => readL_yes h (by rw [HT.out, hTl.out]; omega)
              generalize valB T.data.toList 0 = V at *
              have hV : V < 1000000000000000000 := by omega
              clear hbd hp18 h18 hall hRN
              have HD := Lib.hid (specDec_any (-(V : Int)) (by omega))
              by_cases he : Lib.itoa (-(V : Int)) = s.data.toList
              · have hL := hyes he
                rw [he] at HD
                have hss : ByteArray.mk s.data.toList.toArray = s := by cases s; simp
                rw [hss] at HD
                have HL := Lib.hid hL; clear hL he hyes hno
                go_wp2_with fail
                refine (HD.out _).mono ?_
                rintro e w3 ⟨rfl, hb3⟩
                go_wp2
                go_ret2
                exact ⟨by rw [HL.out]; rfl, kept_trans hb hb3⟩
              · have hL := hno he
                have hne2 : ¬ ByteArray.mk (Lib.itoa (-(V : Int))).toArray = s := fun h => he (by rw [← h])
                generalize ByteArray.mk (Lib.itoa (-(V : Int))).toArray = G at *
                have hne3 := str_ne hne2
                have HL := Lib.hid hL; clear hL he hyes hno
                go_wp2_with fail
                refine (HD.out _).mono ?_
                rintro e w3 ⟨rfl, hb3⟩
                go_wp2
                go_ret2
                exact ⟨by rw [HL.out]; rfl, kept_trans hb hb3⟩
    · have hcn : ((((s[0]'h0').toNat : Nat) : Int) == 45) = false := by
        have : ¬ (s[0]'h0').toNat = 45 := fun h => hc (UInt8.toNat_inj.1 (by rw [h]; rfl))
        simp
        omega
      have hne45 : ¬ s.data.toList.head? = some 45 := by rw [hhead]; simpa using hc
      have hrt : readT s.data.toList = s.data.toList := by rw [readT, if_neg hne45]
      have hrn : readN s.data.toList = (valB (readT s.data.toList) 0 : Int) := by rw [readN, if_neg hne45]
      have hlt : (readT s.data.toList).length = s.size := by rw [hrt]; exact hsl
      by_cases h2 : 18 < s.size
      · have hL : readL s.data.toList = (0, false) := readL_no (fun h => by have := h.2.1; omega)
        have HL := Lib.hid hL; clear hL hrt hrn hlt hhead hne45
        go_enter Tryd.func42, Tryd.ntmps42
        go_wp2
        go_ret2
        exact ⟨by rw [HL.out]; rfl, Below.refl _ _⟩
      · have HT := Lib.hid hrt
        have HN := Lib.hid (hrn.trans (by rw [hrt] : _ = (valB s.data.toList 0 : Int)))
        have hTl := Lib.hid hsl
        clear hrt hrn hlt hhead hne45
        have hse : s = s := rfl
        go_enter Tryd.func42, Tryd.ntmps42
        go_wp2_with fail
        go_loopw [5, 6] (fun n i wr => ∃ k : Nat, k ≤ s.size ∧ i = .int .i64 k ∧ n = .int .i64 ((valB (s.data.toList.take k) 0 : Nat) : Int) ∧ (s.data.toList.take k).all digB = true ∧ Below w.heap.size w wr) (fun _ i _ => s.size - (intOf i).toNat)
        case atStart => exact ⟨0, by omega, rfl, rfl, rfl, Below.refl _ _⟩
        case round =>
          obtain ⟨k, hk, rfl, rfl, hall, hb⟩ := hrel
          by_cases hlt : k < s.size
          · have hkl : k < s.data.toList.length := by rw [hTl.out]; exact hlt
            have hgk : s.data.toList[k]'hkl = s[k]'hlt := by simp [ByteArray.getElem_eq_getElem_data]
            have hbd := num_bd hall (by omega)
            have hp17 : (10 : Nat) ^ k ≤ 10 ^ 17 := Nat.pow_le_pow_right (by omega) (by omega)
            have h17 : (10 : Nat) ^ 17 = 100000000000000000 := by decide
            have hstep := valB_take s.data.toList k hkl
            have hsall : digB (s.data.toList[k]'hkl) = true → (s.data.toList.take (k + 1)).all digB = true := fun h => by
              rw [← List.take_append_getElem hkl, List.all_append, hall, Bool.true_and, List.all_cons, h]
              rfl
            have hnall : digB (s.data.toList[k]'hkl) = false → readL s.data.toList = (0, false) := fun h => readL_no (fun hp => by
              have h2 := hp.2.2.1
              rw [HT.out] at h2
              have := List.all_eq_true.1 h2 _ (List.getElem_mem hkl)
              rw [h] at this
              cases this)
            rw [hgk] at hstep hsall hnall
            rw [← digI_B] at hsall hnall
            generalize valB (s.data.toList.take k) 0 = V at *
            have HALL := Lib.hid hall; clear hall
            have HST := Lib.hid hstep; clear hstep
            have HSA := Lib.hid hsall; clear hsall
            have HNA := Lib.hid hnall; clear hnall
            clear hgk
            have hV : V < 100000000000000000 := by omega
            clear hbd hp17 h17
            cases hd : digitI ((s[k]'hlt).toNat : Nat)
            · have HD := Lib.hid hd; clear hd
              go_wp2_with (go_at_call 61; refine (digit_any _ _).mono ?_; rw [HD.out]; rintro e w' ⟨rfl, rfl⟩)
              go_ret2
              exact ⟨by rw [HNA.out HD.out]; rfl, hb⟩
            · have hdd := hd
              simp only [digitI, Bool.and_eq_true, decide_eq_true_eq] at hdd
              have HD := Lib.hid hd; clear hd
              go_wp2_with (go_at_call 61; refine (digit_any _ _).mono ?_; rw [HD.out]; rintro e w' ⟨rfl, rfl⟩)
              go_roundw
              case rel => exact ⟨k + 1, by omega, by go_num, by rw [HST.out]; congr 1; omega, HSA.out HD.out, hb⟩
              case measure => simp [intOf]; omega
          · have hkk : k = s.size := by omega
            subst hkk
            rw [List.take_of_length_le (by rw [hTl.out]; exact Nat.le_refl _)] at hall ⊢
            have hbd := num_bd (l := s.data.toList) (k := s.size) (by rw [List.take_of_length_le (by rw [hTl.out]; exact Nat.le_refl _)]; exact hall) (by omega)
            rw [List.take_of_length_le (by rw [hTl.out]; exact Nat.le_refl _)] at hbd
            have hp18 : (10 : Nat) ^ s.size ≤ 10 ^ 18 := Nat.pow_le_pow_right (by omega) (by omega)
            have h18 : (10 : Nat) ^ 18 = 1000000000000000000 := by decide
            have hRN := HN.out
            have hno : ¬ Lib.itoa ((valB s.data.toList 0 : Int)) = s.data.toList → readL s.data.toList = (0, false) := fun h => readL_no (fun hp => h (by rw [← hRN]; exact hp.2.2.2))
            have hyes : Lib.itoa ((valB s.data.toList 0 : Int)) = s.data.toList → readL s.data.toList = ((valB s.data.toList 0 : Int), true) := fun h => readL_yes h (by rw [HT.out, hTl.out]; omega)
            generalize valB s.data.toList 0 = V at *
            have hV : V < 1000000000000000000 := by omega
            clear hbd hp18 h18 hall hRN
            have HD := Lib.hid (specDec_any ((V : Int)) (by omega))
            by_cases he : Lib.itoa ((V : Int)) = s.data.toList
            · have hL := hyes he
              rw [he] at HD
              have hss : ByteArray.mk s.data.toList.toArray = s := by cases s; simp
              rw [hss] at HD
              have HL := Lib.hid hL; clear hL he hyes hno
              go_wp2_with fail
              refine (HD.out _).mono ?_
              rintro e w3 ⟨rfl, hb3⟩
              go_wp2
              go_ret2
              exact ⟨by rw [HL.out]; rfl, kept_trans hb hb3⟩
            · have hL := hno he
              have hne2 : ¬ ByteArray.mk (Lib.itoa ((V : Int))).toArray = s := fun h => he (by rw [← h])
              generalize ByteArray.mk (Lib.itoa ((V : Int))).toArray = G at *
              have hne3 := str_ne hne2
              have HL := Lib.hid hL; clear hL he hyes hno
              go_wp2_with fail
              refine (HD.out _).mono ?_
              rintro e w3 ⟨rfl, hb3⟩
              go_wp2
              go_ret2
              exact ⟨by rw [HL.out]; rfl, kept_trans hb hb3⟩

theorem specReadDec_any (s : ByteArray) (hs : s.size ≤ 1000000) (w : World) :
    Calls Tryd.prog 22 #[.string s] w fun e w' => e = .returned (.tuple #[.int .i64 (readL s.data.toList).1, .bool (readL s.data.toList).2]) ∧ Below w.heap.size w w' := by
  have H := Lib.hid (specNum_any s hs w)
  generalize readL s.data.toList = F at *
  go_enter Tryd.func22, Tryd.ntmps22
  go_wp2_with fail
  refine H.out.mono ?_
  rintro e w1 ⟨rfl, hb⟩
  go_wp2
  go_ret2
  exact ⟨rfl, hb⟩

theorem walk_FnExactReadDecimal (s : ByteArray) (hs : s.size ≤ maxLen) (w : World) (ht : TextW w) :
    Calls Tryd.prog 6 #[.string s] w fun e w' => e = .returned (.bool true) ∧ Below w.heap.size w w' := by
  unfold maxLen at hs
  by_cases hl : s.size ≤ 1000000
  · have hS := fun w => specReadDec_any s hl w
    have hI := fun w ht => implReadDec_any s hl w ht
    generalize readL s.data.toList = F at *
    have HS := Lib.hid hS; clear hS
    have HI := Lib.hid hI; clear hI
    have HT := Lib.hid ht; clear ht
    go_enter Tryd.func6, Tryd.ntmps6
    go_wp2_with fail
    refine (HS.out _).mono ?_
    rintro e w1 ⟨rfl, b1⟩
    go_wp2_with fail
    refine (HI.out _ (TextW_kept HT.out b1)).mono ?_
    rintro e w2 ⟨rfl, b2⟩
    go_wp2
    go_ret
    exact ⟨rfl, kept_trans b1 b2⟩
  · go_enter Tryd.func6, Tryd.ntmps6
    go_wp2
    go_ret
    exact ⟨rfl, Below.refl _ _⟩

end Go.Proofs.YtapnihkgalbddaaDoor
namespace Go.Proofs.YtapnihkgalbddaaDoor.fnExactReadDecimal
open Go.ChangeShapes Go.WideShapes Go.ChangeAt Go.RowKit
set_option linter.unusedVariables false
set_option linter.unusedSimpArgs false
open Go.Joins Go.ChangeMaps
/-- A world for the witness: the settled one, the listed variables holding what their initialisers lay. -/
noncomputable def laidWorld (os : Os) : World := { World.holding Tryd.prog os ⟨#[.cells #[.string ⟨#[118, 97, 108, 117, 101, 32, 111, 117, 116, 32, 111, 102, 32, 114, 97, 110, 103, 101]⟩] 136, .cells #[.string ⟨#[105, 110, 118, 97, 108, 105, 100, 32, 115, 121, 110, 116, 97, 120]⟩] 136], #[], []⟩ with heap := ((((((World.holding Tryd.prog os ⟨#[.cells #[.string ⟨#[118, 97, 108, 117, 101, 32, 111, 117, 116, 32, 111, 102, 32, 114, 97, 110, 103, 101]⟩] 136, .cells #[.string ⟨#[105, 110, 118, 97, 108, 105, 100, 32, 115, 121, 110, 116, 97, 120]⟩] 136], #[], []⟩).heap.modify 6 (fun | .cells _ t frozen => .cells #[.int .u8 0, .int .u8 1, .int .u8 28, .int .u8 2, .int .u8 29, .int .u8 14, .int .u8 24, .int .u8 3, .int .u8 30, .int .u8 22, .int .u8 20, .int .u8 15, .int .u8 25, .int .u8 17, .int .u8 4, .int .u8 8, .int .u8 31, .int .u8 27, .int .u8 13, .int .u8 23, .int .u8 21, .int .u8 19, .int .u8 16, .int .u8 7, .int .u8 26, .int .u8 12, .int .u8 18, .int .u8 6, .int .u8 11, .int .u8 5, .int .u8 10, .int .u8 9] t frozen | o => o)).modify 7 (fun | .cells _ t frozen => .cells #[.int .u8 0, .int .u8 1, .int .u8 56, .int .u8 2, .int .u8 57, .int .u8 49, .int .u8 28, .int .u8 3, .int .u8 61, .int .u8 58, .int .u8 42, .int .u8 50, .int .u8 38, .int .u8 29, .int .u8 17, .int .u8 4, .int .u8 62, .int .u8 47, .int .u8 59, .int .u8 36, .int .u8 45, .int .u8 43, .int .u8 51, .int .u8 22, .int .u8 53, .int .u8 39, .int .u8 33, .int .u8 30, .int .u8 24, .int .u8 18, .int .u8 12, .int .u8 5, .int .u8 63, .int .u8 55, .int .u8 48, .int .u8 27, .int .u8 60, .int .u8 41, .int .u8 37, .int .u8 16, .int .u8 46, .int .u8 35, .int .u8 44, .int .u8 21, .int .u8 52, .int .u8 32, .int .u8 23, .int .u8 11, .int .u8 54, .int .u8 26, .int .u8 40, .int .u8 15, .int .u8 34, .int .u8 20, .int .u8 31, .int .u8 10, .int .u8 25, .int .u8 14, .int .u8 19, .int .u8 9, .int .u8 13, .int .u8 8, .int .u8 7, .int .u8 6] t frozen | o => o)).modify 2 (fun | .cells _ t frozen => .cells #[.int .u64 1, .int .u64 10, .int .u64 100, .int .u64 1000, .int .u64 10000, .int .u64 100000, .int .u64 1000000, .int .u64 10000000, .int .u64 100000000, .int .u64 1000000000, .int .u64 10000000000, .int .u64 100000000000, .int .u64 1000000000000, .int .u64 10000000000000, .int .u64 100000000000000, .int .u64 1000000000000000, .int .u64 10000000000000000, .int .u64 100000000000000000, .int .u64 1000000000000000000, .int .u64 10000000000000000000] t frozen | o => o)).modify 4 (fun | .cells _ t frozen => .cells #[.iface 134 (.pointer (some ⟨14, 0, none⟩))] t frozen | o => o)).modify 3 (fun | .cells _ t frozen => .cells #[.iface 134 (.pointer (some ⟨15, 0, none⟩))] t frozen | o => o)) }
theorem laid_met (os : Os) : laidMet Tryd.prog Rows.fnExactReadDecimalRow.laid ((laidWorld os).forCall (fun _ _ => 0) ⟨#[], #[.string ByteArray.empty], []⟩).memory :=
  laidMet_of_run' 16 (by kernel_rfl) (by kernel_rfl)
theorem reads (os : Os) {H : Type} (enc : TypeId × Value → H) : ∃ places, DataW.whole enc Tryd.prog ((laidWorld os).forCall (fun _ _ => 0) ⟨#[], #[.string ByteArray.empty], []⟩).memory Tryd.f6.params.toList Rows.fnExactReadDecimalSpec.vars false (#[.string ByteArray.empty] : Array Value).toList 16 = some ([.lit (.string [])], [], places) :=
  ⟨[], by kernel_rfl⟩
set_option maxRecDepth 100000 in
theorem lifted (os : Os) (started : os.Started) (H : Type) (enc : TypeId × Value → H) (F : Stop.Interp) :
    ReturnsInHanded {} Tryd.checked os 6 .any ((OpenSpec.ofChange Rows.fnExactReadDecimalSpec).preRow enc Tryd.prog Tryd.f6 Rows.fnExactReadDecimalRow.domain false Rows.fnExactReadDecimalRow.laid) (((OpenSpec.ofChange Rows.fnExactReadDecimalSpec).at F).post enc Tryd.prog Tryd.f6 false true false false) := by
  obtain ⟨places, hx⟩ := reads os enc
  refine returnsInHanded_of_row (C := Tryd.checked) (s := OpenSpec.ofChange Rows.fnExactReadDecimalSpec) (show ownKnob Tryd.prog.godebug = none by kernel_rfl) started (by kernel_rfl) Tryd.func6
    (witness_row_atRef (enc := enc) (C := Tryd.checked) false (laidWorld os) #[.string ByteArray.empty] rfl (by kernel_rfl) (by kernel_rfl) (by kernel_rfl)
      (OpenSpec.preRow_of_cond 16 hx (by kernel_rfl) (fun k hk => by cases hk) (by kernel_rfl) (laid_met os))) ?_
  intro W base args ds gs before hval0 hW _ _ _ hL _ _
  have hval : ∀ (j : Nat) t v, Tryd.f6.params[j]? = some t → args[j]? = some v → Value.okWide Tryd.prog W .any base t v := hval0
  have hW' := hW
  obtain ⟨p, q, hA0, hV, rfl, hfz, hnd⟩ := hW
  have hA : DataW.TrodAll enc Tryd.prog W 0 (fun _ => true) true Tryd.f6.params.toList args.toList ds p := hA0
  rw [Tryd.params6] at hA hval
  obtain ⟨v0, vs0, d0, ds0, p0, q0, hargs, rfl, rfl, h0, r0⟩ := trodAll_cons hA
  obtain ⟨rfl, rfl, rfl⟩ := trodAll_nil r0
  obtain rfl : args = #[v0] := by cases args; simp_all
  obtain ⟨rfl, rfl⟩ := trodVars_none hV
  obtain ⟨a0, rfl, rfl, rfl, w0⟩ := open_string Tryd.underlying9 (hval 0 9 v0 rfl rfl) h0
  clear hA0 hval0
  refine (walk_FnExactReadDecimal (w := W) a0 w0 ⟨powTab_of (Lib.laidMet.reads (w := W) hL (.tail _ (.tail _ (.head _)))), errVar_of (by kernel_rfl) (by kernel_rfl) Tryd.underlying60 (by kernel_rfl) (Lib.laidMet.reads (w := W) hL (.tail _ (.tail _ (.tail _ (.tail _ (.head _)))))), errVar_of (by kernel_rfl) (by kernel_rfl) Tryd.underlying60 (by kernel_rfl) (Lib.laidMet.reads (w := W) hL (.tail _ (.tail _ (.tail _ (.head _)))))⟩).mono fun e W' ⟨he, hb⟩ => ?_
  subst he
  exact ⟨_, rfl, law_postV (B := 4) (by kernel_rfl) (by kernel_rfl) (by kernel_rfl) rfl Tryd.underlying4 hW' rfl hb⟩
theorem said : Rows.FnExactReadDecimalSaid :=
  OpenClaim.holds_of_cond 6 Tryd.f6 rfl rfl rfl rfl rfl rfl rfl ⟨rfl, rfl, rfl, rfl, rfl⟩ rfl rfl rfl rfl rfl (by kernel_rfl) Tryd.func6 (by kernel_rfl)
    (of_decide_eq_true (by kernel_rfl)) (by unfold Func.isWrapper; first | (rw [if_pos (by decide +kernel)]; kernel_rfl) | (rw [if_neg (by decide +kernel)]; exact ⟨rfl, rfl⟩))
    (fun os started H enc _ F => by rw [OpenClaim.pre_eq_preRow]; exact lifted os started H enc F)
theorem plain (f : FuncId) (fn : Func) (hf : Tryd.pinned.checked.prog.funcNamed "loop.example/g00932/laws.FnExactReadDecimal" = some f) (hfn : Tryd.pinned.checked.prog.funcs[f]? = some fn) :
    true = Tryd.pinned.checked.prog.looks [] ∧ ∀ (j : Nat) t, fn.params[j]? = some t → Tryd.pinned.checked.prog.wantsStandIn t = false := by
  obtain rfl : f = 6 := Option.some.inj ((show Tryd.prog.funcNamed "loop.example/g00932/laws.FnExactReadDecimal" = some 6 by kernel_rfl).symm.trans hf) |>.symm
  obtain rfl : fn = Tryd.f6 := (Option.some.inj (Tryd.func6.symm.trans hfn)).symm
  refine ⟨by kernel_rfl, fun j t ht => ?_⟩
  have hall : (Tryd.f6.params.toList.all fun t => !Tryd.pinned.checked.prog.wantsStandIn t) = true := by kernel_rfl
  have := List.all_eq_true.mp hall t (by simpa using Array.mem_of_getElem? ht)
  simpa using this
/-- The statement: the card of the law: for every input it returns true, the arguments and the listed variables read afterwards as before. -/
theorem proved : Rows.FnExactReadDecimalCardSaid :=
  Claim7.holds_tied_plain_at .later [] _ _ _ _ said (fun _ h => by cases h) (by kernel_rfl) (fun _ h => by cases h) fnExactReadDecimal_row_tie rfl ⟨rfl, rfl⟩ (by kernel_rfl) rfl plain (by kernel_rfl)
end Go.Proofs.YtapnihkgalbddaaDoor.fnExactReadDecimal
