/- Proved: for every input the law FnSlings returns true, and each argument reads afterwards as it read before; no condition beside those of the given row. -/
import Derived.Test.YtedmpjgpgbmolaaGreatDoorRows
import Derived.WalkKit
import Derived.ProofKit
import Derived.OpenShut
import Derived.Lib.Hide
import Derived.Handy
import Derived.BigQuiet
import Derived.Carry
import Derived.ChangeSlices
import Derived.Deep.Cut
import Derived.Deep.DeepCutAuto
import Derived.Deep.Draws
import Derived.Deep.QuietTactic
import Derived.Deep.RegionHeld3
import Derived.Laws.ResultCell
import Derived.Lib.CutLaws
import Derived.Lib.FieldsP
import Derived.Lib.ItoaLen
import Derived.Lib.ItoaNum
import Derived.Lib.Join
import Derived.Lib.LaidTab
import Derived.Lib.LaidU8
import Derived.Lib.ParseIntB
import Derived.Lib.SmallJoins
import Derived.Lib.Strings
import Derived.Lib.TrimUEq
import Derived.OwnWalk
import Derived.Shelf.Abstract
import Derived.Shelf.Strings.FieldsFuncAny
import Derived.Shelf.Strconv.Itoa0
import Derived.Shelf.Strconv.Itoa1
import Derived.Shelf.LaysM
import Derived.Shelf.Strconv.Itoa2
import Derived.Shelf.Strconv.Itoa3
import Derived.Shelf.Strconv.Itoa4
import Derived.Shelf.Strconv.ParseIntEmpty
import Derived.Shelf.Strconv.Clone
import Derived.Shelf.Strconv.SyntaxError
import Derived.Shelf.LaysC
import Derived.Shelf.Strconv.ToError
import Derived.Shelf.Strconv.Lower
import Derived.Shelf.Strconv.ParseUint10
import Derived.Shelf.Strconv.ParseUint10Empty
import Derived.Shelf.Strconv.ParseUint10Any
import Derived.Shelf.Strconv.ParseInt10
import Derived.Shelf.Strconv.RangeError
import Derived.Shelf.Strconv.ToErrorRange
import Derived.Shelf.Strconv.ParseUintEmpty
import Derived.Shelf.Strconv.ParseUint10b64
import Derived.Shelf.Strconv.ParseUint10b32
import Derived.Shelf.Strconv.ParseUint10b16
import Derived.Shelf.Strconv.ParseUint10b8
import Derived.Shelf.Strconv.ParseUint10At
import Derived.Shelf.Strconv.ParseInt10At64
import Derived.Shelf.Strconv.ParseInt10At32
import Derived.Shelf.Strconv.ParseInt10At16
import Derived.Shelf.Strconv.ParseInt10At8
import Derived.Shelf.Strconv.ParseInt10All
import Derived.Shelf.Strconv.ParseIntPublic10
import Derived.Shelf.Strings.Prefix
import Derived.Shelf.Strings.FieldsFuncAny
import Derived.Test.YtedmpjgpgbmolaaGreatDoorCards
import Derived.Test.YtedmpjgpgbmolaaGreatDoorTie
import Derived.Lib.SmallJoins
import Derived.ChangeMaps5
import Derived.Deep.DeepHandedRow
import Derived.Deep.DeepWitnessRowRef
import Derived.Lib.LaidTab
import Derived.SevenTiedAt
namespace Go.Proofs
open Go.Shelf
def Tryz.laysM173_ren : Go.Shelf.Ren := ⟨fun | 173 => 67 | 246 => 78 | 283 => 84 | 284 => 85 | 285 => 86 | 286 => 87 | 129 => 95 | 317 => 94 | 318 => 96 | 319 => 97 | 320 => 98 | 337 => 104 | 338 => 105 | n => n, fun | 2 => 2 | 3 => 3 | 9 => 9 | 4 => 4 | 171 => 107 | 0 => 0 | 53 => 81 | 37 => 22 | 5 => 5 | 173 => 110 | 212 => 121 | 51 => 122 | 20 => 20 | 213 => 123 | 46 => 105 | 232 => 137 | 233 => 138 | n => n, fun | 17 => 0 | 18 => 3 | 19 => 4 | n => n⟩
theorem Tryz.laysM173 : Go.Proofs.LaysM.n173 Tryz.prog Tryz.laysM173_ren := {
  mixed := by kernel_rfl
  f129 := Tryz.func95.trans (congrArg some (by kernel_rfl))
  f173 := Tryz.func67.trans (congrArg some (by kernel_rfl))
  f246 := Tryz.func78.trans (congrArg some (by kernel_rfl))
  f283 := Tryz.func84.trans (congrArg some (by kernel_rfl))
  f284 := Tryz.func85.trans (congrArg some (by kernel_rfl))
  f285 := Tryz.func86.trans (congrArg some (by kernel_rfl))
  f286 := Tryz.func87.trans (congrArg some (by kernel_rfl))
  f317 := Tryz.func94.trans (congrArg some (by kernel_rfl))
  f318 := Tryz.func96.trans (congrArg some (by kernel_rfl))
  f319 := Tryz.func97.trans (congrArg some (by kernel_rfl))
  f320 := Tryz.func98.trans (congrArg some (by kernel_rfl))
  f337 := Tryz.func104.trans (congrArg some (by kernel_rfl))
  f338 := Tryz.func105.trans (congrArg some (by kernel_rfl))
  t0 := Tryz.underlying0
  a0 := Tryz.isAgg0
  z0 := Tryz.sizeOf0
  v0 := Tryz.zeroValue0
  t2 := Tryz.underlying2
  a2 := Tryz.isAgg2
  z2 := Tryz.sizeOf2
  v2 := Tryz.zeroValue2
  t3 := Tryz.underlying3
  a3 := Tryz.isAgg3
  z3 := Tryz.sizeOf3
  v3 := Tryz.zeroValue3
  t4 := Tryz.underlying4
  a4 := Tryz.isAgg4
  z4 := Tryz.sizeOf4
  v4 := Tryz.zeroValue4
  t5 := Tryz.underlying5
  a5 := Tryz.isAgg5
  z5 := Tryz.sizeOf5
  v5 := Tryz.zeroValue5
  t9 := Tryz.underlying9
  a9 := Tryz.isAgg9
  z9 := Tryz.sizeOf9
  v9 := Tryz.zeroValue9
  t20 := Tryz.underlying20
  a20 := Tryz.isAgg20
  z20 := Tryz.sizeOf20
  v20 := Tryz.zeroValue20
  t37 := Tryz.underlying22
  a37 := Tryz.isAgg22
  z37 := Tryz.sizeOf22
  v37 := Tryz.zeroValue22
  t46 := Tryz.underlying105
  a46 := Tryz.isAgg105
  z46 := Tryz.sizeOf105
  v46 := Tryz.zeroValue105
  t51 := Tryz.underlying122
  a51 := Tryz.isAgg122
  z51 := Tryz.sizeOf122
  v51 := Tryz.zeroValue122
  t53 := Tryz.underlying81
  a53 := Tryz.isAgg81
  z53 := Tryz.sizeOf81
  v53 := Tryz.zeroValue81
  t171 := Tryz.underlying107
  a171 := Tryz.isAgg107
  z171 := Tryz.sizeOf107
  v171 := Tryz.zeroValue107
  t173 := Tryz.underlying110
  a173 := Tryz.isAgg110
  z173 := Tryz.sizeOf110
  v173 := Tryz.zeroValue110
  t212 := Tryz.underlying121
  a212 := Tryz.isAgg121
  z212 := Tryz.sizeOf121
  v212 := Tryz.zeroValue121
  t213 := Tryz.underlying123
  a213 := Tryz.isAgg123
  z213 := Tryz.sizeOf123
  t232 := Tryz.underlying137
  a232 := Tryz.isAgg137
  z232 := Tryz.sizeOf137
  v232 := Tryz.zeroValue137
  t233 := Tryz.underlying138
  a233 := Tryz.isAgg138
  z233 := Tryz.sizeOf138
  v233 := Tryz.zeroValue138
  g17 := by kernel_rfl
  g18 := by kernel_rfl
  g19 := by kernel_rfl
  i0 := by kernel_rfl
  i2 := by kernel_rfl
  i3 := by kernel_rfl
  i4 := by kernel_rfl
  i5 := by kernel_rfl
  i9 := by kernel_rfl
  i20 := by kernel_rfl
  i37 := by kernel_rfl
  i46 := by kernel_rfl
  i51 := by kernel_rfl
  i53 := by kernel_rfl
  i171 := by kernel_rfl
  i173 := by kernel_rfl
  i212 := by kernel_rfl
  i232 := by kernel_rfl
  i233 := by kernel_rfl
  m17 := by kernel_rfl
  m18 := by kernel_rfl
  m19 := by kernel_rfl }
open Go.RowKit Go.Sort Go.Lib in
/-- strconv.FormatInt: "FormatInt returns the string representation of i in the given base": AT BASE 10: i's decimal numeral, for every int64. (LAID: no walk: one application.) -/
theorem Tryz.strconv_FormatInt_10 (n : Int) (h0 : -9223372036854775808 ≤ n) (h1 : n ≤ 9223372036854775807) (w : World) (htab : Lib.TabIs Tryz.prog w "internal/strconv.uint64pow10" .u64 Lib.pow10Tab) :
    Calls Tryz.prog 67 #[.int .i64 n, .int .i64 10] w fun e w' => e = .returned (.string ⟨(Lib.itoa n).toArray⟩) ∧ ∃ k os, w' = grow (w.drewN k) os := Any.strconv_FormatInt_10 Tryz.laysM173 n h0 h1 w htab
def Tryz.laysC174_ren : Go.Shelf.Ren := ⟨fun | 174 => 69 | 247 => 80 | 245 => 81 | 287 => 89 | 279 => 90 | 280 => 91 | 281 => 92 | 282 => 93 | 321 => 99 | 322 => 100 | 316 => 101 | 171 => 103 | 205 => 102 | 243 => 106 | 246 => 78 | 283 => 84 | 284 => 85 | 285 => 86 | 286 => 87 | 129 => 95 | 317 => 94 | 318 => 96 | 319 => 97 | 320 => 98 | 337 => 104 | 338 => 105 | n => n, fun | 9 => 9 | 3 => 3 | 2 => 2 | 75 => 97 | 85 => 98 | 4 => 4 | 167 => 113 | 5 => 5 | 53 => 81 | 175 => 114 | 46 => 105 | 168 => 116 | 37 => 22 | 0 => 0 | 210 => 130 | 21 => 21 | 127 => 133 | 145 => 136 | 143 => 134 | 171 => 107 | 173 => 110 | 212 => 121 | 51 => 122 | 20 => 20 | 213 => 123 | 232 => 137 | 233 => 138 | 80 => 139 | n => n, fun | 15 => 1 | 16 => 2 | 17 => 0 | 18 => 3 | 19 => 4 | n => n⟩
theorem Tryz.laysC174 : Go.Proofs.LaysC.n174 Tryz.prog Tryz.laysC174_ren := {
  mixed := by kernel_rfl
  f129 := Tryz.func95.trans (congrArg some (by kernel_rfl))
  f171 := Tryz.func103.trans (congrArg some (by kernel_rfl))
  f174 := Tryz.func69.trans (congrArg some (by kernel_rfl))
  f205 := Tryz.func102.trans (congrArg some (by kernel_rfl))
  f243 := Tryz.func106.trans (congrArg some (by kernel_rfl))
  f245 := Tryz.func81.trans (congrArg some (by kernel_rfl))
  f246 := Tryz.func78.trans (congrArg some (by kernel_rfl))
  f247 := Tryz.func80.trans (congrArg some (by kernel_rfl))
  f279 := Tryz.func90.trans (congrArg some (by kernel_rfl))
  f280 := Tryz.func91.trans (congrArg some (by kernel_rfl))
  f281 := Tryz.func92.trans (congrArg some (by kernel_rfl))
  f282 := Tryz.func93.trans (congrArg some (by kernel_rfl))
  f283 := Tryz.func84.trans (congrArg some (by kernel_rfl))
  f284 := Tryz.func85.trans (congrArg some (by kernel_rfl))
  f285 := Tryz.func86.trans (congrArg some (by kernel_rfl))
  f286 := Tryz.func87.trans (congrArg some (by kernel_rfl))
  f287 := Tryz.func89.trans (congrArg some (by kernel_rfl))
  f316 := Tryz.func101.trans (congrArg some (by kernel_rfl))
  f317 := Tryz.func94.trans (congrArg some (by kernel_rfl))
  f318 := Tryz.func96.trans (congrArg some (by kernel_rfl))
  f319 := Tryz.func97.trans (congrArg some (by kernel_rfl))
  f320 := Tryz.func98.trans (congrArg some (by kernel_rfl))
  f321 := Tryz.func99.trans (congrArg some (by kernel_rfl))
  f322 := Tryz.func100.trans (congrArg some (by kernel_rfl))
  f337 := Tryz.func104.trans (congrArg some (by kernel_rfl))
  f338 := Tryz.func105.trans (congrArg some (by kernel_rfl))
  t0 := Tryz.underlying0
  a0 := Tryz.isAgg0
  z0 := Tryz.sizeOf0
  v0 := Tryz.zeroValue0
  t2 := Tryz.underlying2
  a2 := Tryz.isAgg2
  z2 := Tryz.sizeOf2
  v2 := Tryz.zeroValue2
  t3 := Tryz.underlying3
  a3 := Tryz.isAgg3
  z3 := Tryz.sizeOf3
  v3 := Tryz.zeroValue3
  t4 := Tryz.underlying4
  a4 := Tryz.isAgg4
  z4 := Tryz.sizeOf4
  v4 := Tryz.zeroValue4
  t5 := Tryz.underlying5
  a5 := Tryz.isAgg5
  z5 := Tryz.sizeOf5
  v5 := Tryz.zeroValue5
  t9 := Tryz.underlying9
  a9 := Tryz.isAgg9
  z9 := Tryz.sizeOf9
  v9 := Tryz.zeroValue9
  t20 := Tryz.underlying20
  a20 := Tryz.isAgg20
  z20 := Tryz.sizeOf20
  v20 := Tryz.zeroValue20
  t21 := Tryz.underlying21
  a21 := Tryz.isAgg21
  z21 := Tryz.sizeOf21
  v21 := Tryz.zeroValue21
  t37 := Tryz.underlying22
  a37 := Tryz.isAgg22
  z37 := Tryz.sizeOf22
  v37 := Tryz.zeroValue22
  t46 := Tryz.underlying105
  a46 := Tryz.isAgg105
  z46 := Tryz.sizeOf105
  v46 := Tryz.zeroValue105
  t51 := Tryz.underlying122
  a51 := Tryz.isAgg122
  z51 := Tryz.sizeOf122
  v51 := Tryz.zeroValue122
  t53 := Tryz.underlying81
  a53 := Tryz.isAgg81
  z53 := Tryz.sizeOf81
  v53 := Tryz.zeroValue81
  t75 := Tryz.underlying97
  a75 := Tryz.isAgg97
  z75 := Tryz.sizeOf97
  v75 := Tryz.zeroValue97
  t85 := Tryz.underlying98
  a85 := Tryz.isAgg98
  z85 := Tryz.sizeOf98
  v85 := Tryz.zeroValue98
  t127 := Tryz.underlying133
  a127 := Tryz.isAgg133
  z127 := Tryz.sizeOf133
  v127 := Tryz.zeroValue133
  t143 := Tryz.underlying134
  a143 := Tryz.isAgg134
  z143 := Tryz.sizeOf134
  v143 := Tryz.zeroValue134
  t145 := Tryz.underlying136
  a145 := Tryz.isAgg136
  z145 := Tryz.sizeOf136
  v145 := Tryz.zeroValue136
  t167 := Tryz.underlying113
  a167 := Tryz.isAgg113
  z167 := Tryz.sizeOf113
  v167 := Tryz.zeroValue113
  t168 := Tryz.underlying116
  a168 := Tryz.isAgg116
  z168 := Tryz.sizeOf116
  v168 := Tryz.zeroValue116
  t171 := Tryz.underlying107
  a171 := Tryz.isAgg107
  z171 := Tryz.sizeOf107
  v171 := Tryz.zeroValue107
  t173 := Tryz.underlying110
  a173 := Tryz.isAgg110
  z173 := Tryz.sizeOf110
  v173 := Tryz.zeroValue110
  t175 := Tryz.underlying114
  a175 := Tryz.isAgg114
  z175 := Tryz.sizeOf114
  v175 := Tryz.zeroValue114
  t210 := Tryz.underlying130
  a210 := Tryz.isAgg130
  z210 := Tryz.sizeOf130
  v210 := Tryz.zeroValue130
  t212 := Tryz.underlying121
  a212 := Tryz.isAgg121
  z212 := Tryz.sizeOf121
  v212 := Tryz.zeroValue121
  t213 := Tryz.underlying123
  a213 := Tryz.isAgg123
  z213 := Tryz.sizeOf123
  t232 := Tryz.underlying137
  a232 := Tryz.isAgg137
  z232 := Tryz.sizeOf137
  v232 := Tryz.zeroValue137
  t233 := Tryz.underlying138
  a233 := Tryz.isAgg138
  z233 := Tryz.sizeOf138
  v233 := Tryz.zeroValue138
  g15 := by kernel_rfl
  g16 := by kernel_rfl
  g17 := by kernel_rfl
  g18 := by kernel_rfl
  g19 := by kernel_rfl
  t80 := Tryz.underlying139
  a80 := Tryz.isAgg139
  z80 := Tryz.sizeOf139
  v80 := Tryz.zeroValue139
  i0 := by kernel_rfl
  i2 := by kernel_rfl
  i3 := by kernel_rfl
  i4 := by kernel_rfl
  i5 := by kernel_rfl
  i9 := by kernel_rfl
  i20 := by kernel_rfl
  i21 := by kernel_rfl
  i37 := by kernel_rfl
  i46 := by kernel_rfl
  i51 := by kernel_rfl
  i53 := by kernel_rfl
  i75 := by kernel_rfl
  i80 := by kernel_rfl
  i85 := by kernel_rfl
  i127 := by kernel_rfl
  i143 := by kernel_rfl
  i145 := by kernel_rfl
  i167 := by kernel_rfl
  i168 := by kernel_rfl
  i171 := by kernel_rfl
  i173 := by kernel_rfl
  i175 := by kernel_rfl
  i210 := by kernel_rfl
  i212 := by kernel_rfl
  i232 := by kernel_rfl
  i233 := by kernel_rfl
  m15 := by kernel_rfl
  m16 := by kernel_rfl
  m17 := by kernel_rfl
  m18 := by kernel_rfl
  m19 := by kernel_rfl
  c0 := by kernel_rfl
  c2 := by kernel_rfl
  c3 := by kernel_rfl
  c4 := by kernel_rfl
  c5 := by kernel_rfl
  c9 := by kernel_rfl
  c20 := by kernel_rfl
  c21 := by kernel_rfl
  c37 := by kernel_rfl
  c46 := by kernel_rfl
  c51 := by kernel_rfl
  c53 := by kernel_rfl
  c75 := by kernel_rfl
  c80 := by kernel_rfl
  c85 := by kernel_rfl
  c127 := by kernel_rfl
  c143 := by kernel_rfl
  c145 := by kernel_rfl
  c167 := by kernel_rfl
  c168 := by kernel_rfl
  c171 := by kernel_rfl
  c173 := by kernel_rfl
  c175 := by kernel_rfl
  c210 := by kernel_rfl
  c212 := by kernel_rfl
  c213 := by kernel_rfl
  c232 := by kernel_rfl
  c233 := by kernel_rfl }
def Tryz.lays101_ren : Go.Shelf.Ren := ⟨fun | 101 => 68 | 208 => 79 | 206 => 88 | n => n, fun | 9 => 9 | 4 => 4 | 3 => 3 | n => n, fun | n => n⟩
theorem Tryz.lays101 : Go.Proofs.Lays.n101 Tryz.prog Tryz.lays101_ren := {
  mixed := by kernel_rfl
  f101 := Tryz.func68.trans (congrArg some (by kernel_rfl))
  f206 := Tryz.func88.trans (congrArg some (by kernel_rfl))
  f208 := Tryz.func79.trans (congrArg some (by kernel_rfl))
  t3 := Tryz.underlying3
  a3 := Tryz.isAgg3
  z3 := Tryz.sizeOf3
  v3 := Tryz.zeroValue3
  t4 := Tryz.underlying4
  a4 := Tryz.isAgg4
  z4 := Tryz.sizeOf4
  v4 := Tryz.zeroValue4
  t9 := Tryz.underlying9
  a9 := Tryz.isAgg9
  z9 := Tryz.sizeOf9
  v9 := Tryz.zeroValue9 }
open Go.RowKit Go.Lib in
/-- strings.TrimPrefix: "TrimPrefix returns s without the provided leading prefix string. If s doesn't start with prefix, s is returned unchanged.": IT RETURNS 'Lib.trimPrefix s prefix'; the world is as it was. (LAID: no walk: one application.) -/
theorem Tryz.strings_TrimPrefix (s p : ByteArray) (w : World) :
    Calls Tryz.prog 68 #[.string s, .string p] w fun e w' => e = .returned (.string ⟨(Lib.trimPrefix s.data.toList p.data.toList).toArray⟩) ∧ w' = w := Any.strings_TrimPrefix Tryz.lays101 s p w
def Tryz.lays229_ren : Go.Shelf.Ren := ⟨fun | 229 => 47 | n => n, fun | 9 => 9 | 40 => 71 | 31 => 69 | 152 => 92 | 3 => 3 | 0 => 0 | 4 => 4 | 21 => 21 | 154 => 94 | n => n, fun | n => n⟩
theorem Tryz.lays229 : Go.Proofs.Lays.n229 Tryz.prog Tryz.lays229_ren := {
  mixed := by kernel_rfl
  f229 := Tryz.func47.trans (congrArg some (by kernel_rfl))
  t0 := Tryz.underlying0
  a0 := Tryz.isAgg0
  z0 := Tryz.sizeOf0
  v0 := Tryz.zeroValue0
  t3 := Tryz.underlying3
  a3 := Tryz.isAgg3
  z3 := Tryz.sizeOf3
  v3 := Tryz.zeroValue3
  t4 := Tryz.underlying4
  a4 := Tryz.isAgg4
  z4 := Tryz.sizeOf4
  v4 := Tryz.zeroValue4
  t9 := Tryz.underlying9
  a9 := Tryz.isAgg9
  z9 := Tryz.sizeOf9
  v9 := Tryz.zeroValue9
  t21 := Tryz.underlying21
  a21 := Tryz.isAgg21
  z21 := Tryz.sizeOf21
  v21 := Tryz.zeroValue21
  t31 := Tryz.underlying69
  a31 := Tryz.isAgg69
  z31 := Tryz.sizeOf69
  v31 := Tryz.zeroValue69
  t40 := Tryz.underlying71
  a40 := Tryz.isAgg71
  z40 := Tryz.sizeOf71
  v40 := Tryz.zeroValue71
  t152 := Tryz.underlying92
  a152 := Tryz.isAgg92
  z152 := Tryz.sizeOf92
  v152 := Tryz.zeroValue92
  t154 := Tryz.underlying94
  a154 := Tryz.isAgg94
  z154 := Tryz.sizeOf94
  v154 := Tryz.zeroValue94 }
open Go.RowKit Go.Lib in
theorem Tryz.strings_FieldsFunc_runes (g : Nat) (lb : Array Value) (eg : ∀ args w, (callFunc g args).run Tryz.prog w = .ok (.enter g args) w) (p : Nat → Bool) (s : ByteArray) (w : World) (hs : s.size ≤ 4294967296) (hp : PredAtRunes Tryz.prog g lb p w) :
    Calls Tryz.prog 47 #[.string s, .func (.func g) #[] lb] w fun e w' => ∃ A, e = .returned (.slice (some ⟨A, 0, none⟩) (Lib.goFieldsP p s).length (Lib.goFieldsP p s).length) ∧ w.heap.size ≤ A ∧
      w'.ownsRow w.heap.size 9 1 (.slice (some ⟨A, 0, none⟩) (Lib.goFieldsP p s).length (Lib.goFieldsP p s).length) (Lib.goFieldsP p s).length ((Lib.goFieldsP p s).map Value.string) ∧ Below w.heap.size w w' := Any.strings_FieldsFunc_runes Tryz.lays229 g lb eg p s w hs hp (by kernel_rfl) (by kernel_rfl)
end Go.Proofs
namespace Go.Proofs.YtedmpjgpgbmolaaGreatDoor
open Go.ChangeShapes Go.WideShapes Go.ChangeAt Go.RowKit
set_option linter.unusedVariables false
set_option linter.unusedSimpArgs false

theorem tmod_pos (n k : Int) (h : 0 ≤ n) : n.tmod k = n % k := Int.tmod_eq_emod_of_nonneg h

theorem trodAll_stay {H : Type} {enc : TypeId × Value → H} {P : Program} (hl : laidOutB P = true) {W W' : World} (hb : Below W.heap.size W W') :
    ∀ (ts : List TypeId) (vs : List Value) (ds : List (DataW H)) (ps : List MemPlace), ts.all (fun t => P.readableRec t && decide (t < P.types.size)) = true →
      DataW.TrodAll enc P W 0 (fun _ => true) true ts vs ds ps → (∀ x ∈ ps, x.block < W.heap.size) →
      DataW.TrodAll enc P W' 0 (fun b => decide (b < W.heap.size)) true ts vs ds ps := by
  intro ts
  induction ts with
  | nil => intro vs ds ps _ h _; obtain ⟨rfl, rfl, rfl⟩ := trodAll_nil h; exact rfl
  | cons t ts ih =>
    intro vs ds ps hr h hlt
    simp only [List.all_cons, Bool.and_eq_true, decide_eq_true_eq] at hr
    obtain ⟨v, vs', d, ds', p, q, rfl, rfl, rfl, h0, h1⟩ := trodAll_cons h
    exact ⟨p, q, Below.trod hl hr.1.1 hr.1.2 h0 hb (fun x hx => hlt x (by simp [hx])), ih _ _ _ hr.2 h1 (fun x hx => hlt x (by simp [hx])), rfl⟩

/-- Each variable's type is one that can be read. -/
def varsOk (P : Program) (ns : List String) : Bool := ns.all fun n => match P.globalNamed n with
  | some g => (match (P.globals[g]?).map (·.type) with | some t => P.readableRec t && decide (t < P.types.size) | none => true)
  | none => true

theorem trodVars_stay {H : Type} {enc : TypeId × Value → H} {P : Program} (hl : laidOutB P = true) {W W' : World} (hb : Below W.heap.size W W') :
    ∀ (ns : List String) (gs : List (DataW H)) (ps : List MemPlace), varsOk P ns = true → DataW.TrodVars enc P W (fun _ => true) ns gs ps → (∀ x ∈ ps, x.block < W.heap.size) →
      DataW.TrodVars enc P W' (fun b => decide (b < W.heap.size)) ns gs ps := by
  intro ns
  induction ns with
  | nil => intro gs ps _ h _; obtain ⟨rfl, rfl⟩ := trodVars_none h; exact rfl
  | cons n ns ih =>
    intro gs ps hv h hlt
    cases gs with
    | nil => exact h.elim
    | cons d gs =>
      obtain ⟨g, t, cs, fuel, p, q, hg, ht, hvar, hd, hr, rfl⟩ := h
      simp only [varsOk, List.all_cons, Bool.and_eq_true] at hv
      have hv1 := hv.1
      rw [hg] at hv1
      simp only [ht, Bool.and_eq_true, decide_eq_true_eq] at hv1
      have hgl : g < W.heap.size := by
        simp only [World.var?, hg, Option.bind_some] at hvar
        rcases Nat.lt_or_ge g W.heap.size with hlt | hge
        · exact hlt
        · rw [Array.getElem?_eq_none hge] at hvar; simp at hvar
      have h0 : DataW.Trod enc P W 0 (fun _ => true) true t (.agg cs) d p := ⟨fuel, by simpa [Value.cells] using hd⟩
      obtain ⟨fuel', hd'⟩ := Below.trod hl hv1.1 hv1.2 h0 hb (fun x hx => hlt x (by simp [hx]))
      refine ⟨g, t, cs, fuel', p, q, hg, ht, ?_, by simpa [Value.cells] using hd', ih _ _ hv.2 hr (fun x hx => hlt x (by simp [hx])), rfl⟩
      simp only [World.var?, hg, Option.bind_some] at hvar ⊢
      rw [hb.block g hgl]
      exact hvar

/-- A law's row at its end, the listed variables too: it returned true, and of what was there nothing has turned. -/
theorem law_postV {H : Type} {enc : TypeId × Value → H} {P : Program} {f : Func} {s : ChangeSpec} {W W' : World} {args : Array Value} {ds gs : List (DataW H)} {before : List MemPlace} {B : TypeId}
    (hl : laidOutB P = true) (hr : f.params.toList.all (fun t => P.readableRec t && decide (t < P.types.size)) = true) (hvs : varsOk P s.vars = true)
    (hres : f.resultTypes = #[B]) (hB : P.underlying B = some .bool)
    (hW : DataW.Whole enc P f.params.toList s.vars false W args.toList ds gs before)
    (hfn : s.fn H (ds ++ gs) = { results := [.lit (.bool true)], args := ds, vars := gs }) (hb : Below W.heap.size W W') :
    s.post enc P f false true false false W args (.bool true) W' := by
  have hlt : ∀ p ∈ before, p.block < W.heap.size := fun p hp => hW.lt p hp
  have hW' := hW
  obtain ⟨p, q, hA, hV, rfl, _, _⟩ := hW'
  refine ⟨ds, gs, p ++ q, [], p, q, hW, ?_, ?_, ?_, hb.frame _, fun h => by cases h⟩
  · rw [hfn, hres]
    exact trodAll_cons_mk (shut_bool hB _) trodAll_mk0
  · rw [hfn]
    exact trodAll_stay hl hb _ _ _ _ hr hA (fun x hx => hlt x (by simp [hx]))
  · rw [hfn]
    exact trodVars_stay hl hb _ _ _ hvs hV (fun x hx => hlt x (by simp [hx]))

theorem vars_one {H : Type} {enc : TypeId × Value → H} {P : Program} {W : World} {sp : Nat → Bool} {n : String} {gs : List (DataW H)} {q : List MemPlace} (h : DataW.TrodVars enc P W sp [n] gs q) : ∃ g1, gs = [g1] := by
  cases gs with
  | nil => exact h.elim
  | cons g gs =>
    obtain ⟨_, _, _, _, _, _, _, _, _, _, hr, _⟩ := h
    obtain ⟨rfl, _⟩ := trodVars_none hr
    exact ⟨_, rfl⟩

theorem vars_len {H : Type} {enc : TypeId × Value → H} {P : Program} {W : World} {sp : Nat → Bool} : ∀ (ns : List String) (gs : List (DataW H)) (q : List MemPlace), DataW.TrodVars enc P W sp ns gs q → gs.length = ns.length := by
  intro ns
  induction ns with
  | nil => intro gs q h; obtain ⟨rfl, _⟩ := trodVars_none h; rfl
  | cons n ns ih =>
    intro gs q h
    cases gs with
    | nil => exact h.elim
    | cons g gs =>
      obtain ⟨_, _, _, _, _, _, _, _, _, _, hr, _⟩ := h
      simp [ih _ _ hr]

theorem vars_three {H : Type} {enc : TypeId × Value → H} {P : Program} {W : World} {sp : Nat → Bool} {n1 n2 n3 : String} {gs : List (DataW H)} {q : List MemPlace} (h : DataW.TrodVars enc P W sp [n1, n2, n3] gs q) : ∃ g1 g2 g3, gs = [g1, g2, g3] := by
  have := vars_len _ _ _ h
  match gs, this with
  | [g1, g2, g3], _ => exact ⟨_, _, _, rfl⟩

theorem vars_two {H : Type} {enc : TypeId × Value → H} {P : Program} {W : World} {sp : Nat → Bool} {n1 n2 : String} {gs : List (DataW H)} {q : List MemPlace} (h : DataW.TrodVars enc P W sp [n1, n2] gs q) : ∃ g1 g2, gs = [g1, g2] := by
  have := vars_len _ _ _ h
  match gs, this with
  | [g1, g2], _ => exact ⟨_, _, rfl⟩

theorem kept_cell {W w1 : World} (hb : Below W.heap.size W w1) (b o : Nat) (h : b < W.heap.size) : w1.cell? ⟨b, o, none⟩ = W.cell? ⟨b, o, none⟩ := hb.cell (p := ⟨b, o, none⟩) h

theorem kept_frozen {W w1 : World} (hb : Below W.heap.size W w1) (b o : Nat) (h : b < W.heap.size) : w1.frozen? ⟨b, o, none⟩ = W.frozen? ⟨b, o, none⟩ := hb.frozen (p := ⟨b, o, none⟩) h

theorem kept_trans {a b c : World} (h : Below a.heap.size a b) (k : Below b.heap.size b c) : Below a.heap.size a c := h.trans (k.mono h.size)

theorem kept_at {W w1 : World} (hb : Below W.heap.size W w1) (b : Nat) {G : Prop} (h : b < W.heap.size)
    (k : (∀ o, w1.cell? ⟨b, o, none⟩ = W.cell? ⟨b, o, none⟩) → (∀ o, w1.frozen? ⟨b, o, none⟩ = W.frozen? ⟨b, o, none⟩) → b < w1.heap.size → G) : G :=
  k (fun o => kept_cell hb b o h) (fun o => kept_frozen hb b o h) (Nat.lt_of_lt_of_le h hb.size)

theorem kept_drewN {B : Nat} {a w : World} (h : Below B a w) (n : Nat) : Below B a (w.drewN n) := { os := h.os, tape := h.tape, output := h.output, size := h.size, block := h.block }

theorem grown_step {a b c : World} {row : Option Nat} (h : a.grownBy b row) (k : b.grownBy c row) : a.grownBy c row :=
  ⟨k.os.trans h.os, k.tape.trans h.tape, k.output.trans h.output, Nat.le_trans h.size k.size, fun i hi hne => (k.block i (Nat.lt_of_lt_of_le hi h.size) hne).trans (h.block i hi hne)⟩

theorem grown_below {a b c : World} {row : Option Nat} (h : Below a.heap.size a b) (k : b.grownBy c row) (hr : ∀ g, row = some g → a.heap.size ≤ g) : Below a.heap.size a c := h.grown k h.size hr

theorem results_cell1 {fn : Func} {p : Tmp} {ty : TypeId} (h : fn.results = #[.cell p ty]) (tmps : Array Value) (P : Program) (w : World) :
    (results fn tmps).run P w = ((asAddr (tmps.getD p undef)).run P w).andThen fun a w₁ => (loadVar ty a).run P w₁ := by
  simp only [results, h]
  simp [Sem.run_bind, Result.andThen]

theorem grown_set (w : World) (a : Addr) (u : Value) : w.grownBy (w.setCell a u) (some a.block) :=
  ⟨rfl, rfl, rfl, by simp, fun k _ hk => heap_setCell_other w a k u (fun e => hk (by rw [e]))⟩

def inB (n low high : Int) : Bool := decide (low ≤ n) && decide (n ≤ high)

theorem in_any (n low high : Int) (w : World) :
    Calls Tryz.prog 32 #[.int .i64 n, .int .i64 low, .int .i64 high] w fun e w' => e = .returned (.bool (inB n low high)) ∧ w = w' := by
  unfold inB
  by_cases h1 : low ≤ n <;> by_cases h2 : n ≤ high <;>
  · go_enter Tryz.func32, Tryz.ntmps32
    go_wp2
    go_ret
    exact ⟨by simp [*], rfl⟩

theorem inB_true {n a b : Int} (h : inB n a b = true) : a ≤ n ∧ n ≤ b := by simpa [inB] using h

theorem sq_bd (a k : Int) (h1 : -k ≤ a) (h2 : a ≤ k) : 0 ≤ a * a ∧ a * a ≤ k * k := by
  refine ⟨by rcases Int.le_total 0 a with h | h; exact Int.mul_nonneg h h; exact Int.mul_nonneg_of_nonpos_of_nonpos h h, ?_⟩
  rcases Int.le_total 0 a with h | h
  · exact Int.mul_le_mul h2 h2 h (by omega)
  · have := Int.mul_le_mul (show -a ≤ k by omega) (show -a ≤ k by omega) (by omega) (by omega)
    rwa [Int.neg_mul_neg] at this

def IsRoot (n r : Int) : Prop := 0 ≤ r ∧ n ≤ r * r ∧ ∀ q, 0 ≤ q → q < r → q * q < n

open Classical in
noncomputable def rootL (n : Int) : Int := if h : ∃ r, IsRoot n r then Classical.choose h else 0

theorem rootL_eq {n r : Int} (h : IsRoot n r) : rootL n = r := by
  have hex : ∃ r, IsRoot n r := ⟨r, h⟩
  unfold rootL
  rw [dif_pos hex]
  obtain ⟨a1, a2, a3⟩ := Classical.choose_spec hex
  obtain ⟨b1, b2, b3⟩ := h
  rcases Int.lt_trichotomy (Classical.choose hex) r with h | h | h
  · have := b3 _ a1 h; omega
  · exact h
  · have := a3 _ b1 h; omega

theorem sq_lt {q m n : Int} (h0 : 0 ≤ q) (h1 : q ≤ m) (h2 : m * m < n) : q * q < n := by
  have := Int.mul_le_mul h1 h1 h0 (by omega)
  omega

theorem l02Root_any (n : Int) (w : World) (h0 : 0 ≤ n) (h1 : n ≤ 1000000000000) :
    Calls Tryz.prog 60 #[.int .i64 n] w fun e w' => e = .returned (.int .i64 (rootL n)) ∧ w = w' := by
  go_enter Tryz.func60, Tryz.ntmps60
  go_wp2_with fail
  go_loop [3, 4] (fun i j => ∃ lo hi : Int, 0 ≤ lo ∧ lo ≤ hi ∧ hi ≤ 2000000 ∧ i = .int .i64 lo ∧ j = .int .i64 hi ∧ (∀ q, 0 ≤ q → q < lo → q * q < n) ∧ n ≤ hi * hi) (fun i j => (intOf j - intOf i).toNat)
  case atStart => exact ⟨0, 2000000, by omega, by omega, by omega, rfl, rfl, fun q h1 h2 => by omega, by omega⟩
  case round =>
    obtain ⟨lo, hi, h2, h3, h4, rfl, rfl, h5, h6⟩ := hrel
    have H5 := Lib.hid h5; clear h5
    by_cases hlt : lo < hi
    · have g1 : lo ≤ (lo + hi) / 2 := by omega
      have g2 : (lo + hi) / 2 < hi := by omega
      have hs := sq_bd ((lo + hi) / 2) 2000000 (by omega) (by omega)
      by_cases hp : n ≤ (lo + hi) / 2 * ((lo + hi) / 2)
      all_goals
        go_wp2
        go_round
        case rel => first
          | exact ⟨(lo + hi) / 2 + 1, hi, by omega, by omega, h4, rfl, rfl, fun q a c => sq_lt a (by omega) (Int.not_le.mp hp), h6⟩
          | exact ⟨lo, (lo + hi) / 2, h2, g1, by omega, rfl, rfl, H5.out, hp⟩
        case measure => simp [intOf]; omega
    · have : lo = hi := by omega
      subst this
      have e := rootL_eq (n := n) ⟨h2, h6, H5.out⟩
      go_wp2
      go_ret
      exact ⟨by simp [e], rfl⟩

/-- The slice value reads as a list of numbers. -/
def RdI (w : World) (v : Value) (zs : List Int) : Prop :=
  zs.length ≤ 9223372036854775807 ∧ ∃ A c, v = .slice A zs.length c ∧ ∀ k, (hk : k < zs.length) → ∃ b off, A = some ⟨b, off, none⟩ ∧ b < w.heap.size ∧ w.cell? ⟨b, off + k, none⟩ = some (.int .i64 zs[k])

theorem RdI_kept {W w1 : World} {v : Value} {zs : List Int} (h : RdI W v zs) (hb : Below W.heap.size W w1) : RdI w1 v zs := by
  obtain ⟨hl, A, c, rfl, hr⟩ := h
  refine ⟨hl, A, c, rfl, fun k hk => ?_⟩
  obtain ⟨b, off, e, hlt, hc⟩ := hr k hk
  exact ⟨b, off, e, Nat.lt_of_lt_of_le hlt hb.size, by rw [kept_cell hb b _ hlt]; exact hc⟩

def digitI (c : Int) : Bool := decide (48 ≤ c) && decide (c ≤ 57)

theorem digit_any (c : Int) (w : World) :
    Calls Tryz.prog 71 #[.int .u8 c] w fun e w' => e = .returned (.bool (digitI c)) ∧ w = w' := by
  unfold digitI
  rcases (show ¬ 48 ≤ c ∨ (48 ≤ c ∧ ¬ c ≤ 57) ∨ (48 ≤ c ∧ c ≤ 57) from by omega) with h1 | ⟨h1, h2⟩ | ⟨h1, h2⟩
  all_goals
    go_enter Tryz.func71, Tryz.ntmps71
    go_wp2
    go_ret
    exact ⟨by simp [*] <;> omega, rfl⟩

/-- The slice reads as bytes, none of them in block x. -/
def RdB (w : World) (A : Option Addr) (n x : Nat) : Prop := ∀ k, k < n → ∃ b off z, A = some ⟨b, off, none⟩ ∧ b < w.heap.size ∧ b ≠ x ∧ w.cell? ⟨b, off + k, none⟩ = some (.int .u8 z) ∧ 0 ≤ z ∧ z ≤ 255

/-- A source of choices in block b: its bytes, how far it has come, its seed. -/
def SrcAt (w : World) (b : Nat) (v : Value) (N : Nat) : Prop := ∃ seed : Int, 0 ≤ seed ∧ seed ≤ 18446744073709551615 ∧ w.heap[b]? = some (.cells #[v, .int .i64 N, .int .u64 seed] 83 (0, 0))

/-- What a step of the source comes to. -/
def NextR (b : Nat) (v : Value) (N : Nat) (lo hi : Int) (w : World) (e : Ending) (w' : World) : Prop := ∃ x : Int, lo ≤ x ∧ x ≤ hi ∧ e = .returned (.int .i64 x) ∧ SrcAt w' b v N ∧ w.grownBy w' (some b)

theorem wrap_u64_bd (x : Int) : 0 ≤ IntKind.u64.wrap x ∧ IntKind.u64.wrap x ≤ 18446744073709551615 := by
  rw [IntKind.wrap_u64]
  omega

theorem and255_bd (a : Int) (h0 : 0 ≤ a) (h1 : a ≤ 18446744073709551615) : 0 ≤ bits .and .u64 a 255 ∧ bits .and .u64 a 255 ≤ 255 := by
  rw [u64_and a 255 h0 (by omega) (by omega) (by omega)]
  have : a.toNat &&& (255 : Int).toNat ≤ (255 : Int).toNat := Nat.and_le_right
  have e : (255 : Int).toNat = 255 := rfl
  omega

theorem src_after {w : World} {b : Nat} {v i s : Value} (hb : w.heap[b]? = some (.cells #[v, i, s] 83 (0, 0))) (k1 k2 : Nat) (i' s' : Value) :
    ((((w.drewN k1).setCell ⟨b, 1, none⟩ i').setCell ⟨b, 2, none⟩ s').drewN k2).heap[b]? = some (.cells #[v, i', s'] 83 (0, 0)) ∧
    w.grownBy ((((w.drewN k1).setCell ⟨b, 1, none⟩ i').setCell ⟨b, 2, none⟩ s').drewN k2) (some b) := by
  have h0 : (w.drewN k1).heap[b]? = some (.cells #[v, i, s] 83 (0, 0)) := hb
  have h1 := heap_setCell_same (w.drewN k1) b 1 _ _ i' h0
  have h2 := heap_setCell_same _ b 2 _ _ s' h1
  refine ⟨h2, ⟨rfl, rfl, rfl, ?_, fun k hk hne => ?_⟩⟩
  · show w.heap.size ≤ ((((w.drewN k1).setCell ⟨b, 1, none⟩ i').setCell ⟨b, 2, none⟩ s')).heap.size
    simp [World.setCell]
  · have hne' : k ≠ b := fun e => hne (by rw [e])
    show ((((w.drewN k1).setCell ⟨b, 1, none⟩ i').setCell ⟨b, 2, none⟩ s')).heap[k]? = _
    rw [heap_setCell_other _ _ _ _ hne', heap_setCell_other _ _ _ _ hne']
    rfl

theorem next_any (b : Nat) (A : Option Addr) (n c N : Nat) (w : World) (hs : SrcAt w b (.slice A n c) N) (hr : RdB w A n b) (hN : N < 1000000000) (hn : n ≤ 1000000) :
    Calls Tryz.prog 74 #[.pointer (some ⟨b, 0, none⟩)] w (NextR b (.slice A n c) (N + 1) 0 255 w) := by
  obtain ⟨seed, s0, s1, hb⟩ := hs
  have c0 : w.cell? ⟨b, 0, none⟩ = some (.slice A n c) := by rw [cell_of_row w b 0 _ _ _ hb]; rfl
  have c1 : w.cell? ⟨b, 1, none⟩ = some (.int .i64 N) := by rw [cell_of_row w b 1 _ _ _ hb]; rfl
  have c2 : w.cell? ⟨b, 2, none⟩ = some (.int .u64 seed) := by rw [cell_of_row w b 2 _ _ _ hb]; rfl
  have f1 := frozen_of_row w b 1 _ _ hb
  have f2 := frozen_of_row w b 2 _ _ hb
  have HB := Lib.hid hb; clear hb
  by_cases hlt : N < n
  · obtain ⟨g, off, z, rfl, hg, hgb, hz, z0, z1⟩ := hr N hlt
    clear hr
    go_enter Tryz.func74, Tryz.ntmps74
    go_wp2_with fail
    go_quiet (fail)
    go_wp2_with fail
    go_quiet (fail)
    go_wp2_with fail
    go_quiet (fail)
    go_wp2
    go_ret
    have h := src_after HB.out
    exact ⟨z, z0, z1, rfl, ⟨_, (wrap_u64_bd _).1, (wrap_u64_bd _).2, (h _ _ _ _).1⟩, (h _ _ _ _).2⟩
  · clear hr
    go_enter Tryz.func74, Tryz.ntmps74
    go_wp2_with fail
    go_quiet (fail)
    go_wp2_with fail
    go_quiet (fail)
    have hw := wrap_u64_bd (IntKind.u64.wrap (IntKind.u64.wrap (seed * 6364136223846793005)) + 1442695040888963407)
    go_wp2
    go_ret
    have h := src_after HB.out
    generalize hS : IntKind.u64.wrap (IntKind.u64.wrap (IntKind.u64.wrap (seed * 6364136223846793005)) + 1442695040888963407) = S at *
    have ha := and255_bd (S / 1099511627776) (by omega) (by omega)
    refine ⟨bits .and .u64 (S / 1099511627776) 255, ha.1, ha.2, ?_, ⟨S, hw.1, hw.2, (h _ _ _ _).1⟩, (h _ _ _ _).2⟩
    show Ending.returned (Value.int IntKind.i64 (wrap64 _)) = _
    rw [IntWalk.wrap64_in _ (by omega)]

/-- The slice reads as bytes. -/
def RdC (w : World) (A : Option Addr) (n : Nat) : Prop := ∀ k, k < n → ∃ b off z, A = some ⟨b, off, none⟩ ∧ b < w.heap.size ∧ w.cell? ⟨b, off + k, none⟩ = some (.int .u8 z) ∧ 0 ≤ z ∧ z ≤ 255

theorem from_any (v : Value) (w : World) (A : Option Addr) (n c : Nat) (hv : v = .slice A n c) :
    Calls Tryz.prog 25 #[v] w fun e w' => e = .returned (.pointer (some ⟨w.heap.size, 0, none⟩)) ∧ w.alloc (.cells #[v, .int .i64 0, .int .u64 0] 83) = w' := by
  subst hv
  go_enter Tryz.func25, Tryz.ntmps25
  go_wp2
  go_ret
  exact ⟨rfl, rfl⟩

theorem blk_grown {w w4 : World} {b B : Nat} {o : Obj} (h : w.heap[b]? = some o) (hg : w.grownBy w4 (some B)) (hne : b ≠ B) : w4.heap[b]? = some o := by
  have hlt : b < w.heap.size := by
    rcases Nat.lt_or_ge b w.heap.size with h' | h'
    · exact h'
    · rw [Array.getElem?_eq_none h'] at h; cases h
  rw [hg.block b hlt (fun e => hne (by injection e))]
  exact h

theorem undrew {w w1 : World} {row : Option Nat} (h : w.drew.grownBy w1 row) : w.grownBy w1 row := { os := h.os, tape := h.tape, output := h.output, size := h.size, block := h.block }

/-- A slice of bytes that came in, opened. -/
theorem open_bytes {H : Type} {enc : TypeId × Value → H} {P : Program} {W : World} {r : Reach} {b0 base : Nat} {sp : Nat → Bool} {held : Bool} {t e : TypeId} {v : Value} {d : DataW H} {p : List MemPlace}
    (ht : P.underlying t = some (.slice e)) (he : P.underlying e = some (.int .u8)) (hc : P.cellsOf e = 1) (hv : Value.okWide P W r b0 t v) (hd : DataW.Trod enc P W base sp held t v d p) :
    ∃ A n c, v = .slice A n c ∧ RdC W A n ∧ n ≤ maxLen := by
  obtain ⟨A, n, c, rfl⟩ := okWide_slice ht hv
  obtain ⟨fuel, hf⟩ := hd
  rcases open_ints ht he hc hf with ⟨hcs, _⟩ | ⟨a, l, cap, zs, hcs, _, hl, hm, hz, _, hcell, hwf⟩
  · simp [Value.cells] at hcs
    obtain ⟨rfl, rfl, rfl⟩ := hcs
    exact ⟨_, _, _, rfl, fun k hk => by omega, by omega⟩
  · simp [Value.cells] at hcs
    obtain ⟨rfl, rfl, rfl⟩ := hcs
    refine ⟨_, _, _, rfl, fun k hk => ?_, by omega⟩
    have hlen : n ≤ zs.length := by rw [hz]; split <;> omega
    obtain ⟨b, off, rfl, hc2⟩ := ints_at hcell (by omega)
    have hk2 := hc2 k (by omega)
    have hz2 := bounds_u8 (hwf (zs.getD k 0) (by simp [List.getD, show k < zs.length by omega]))
    exact ⟨b, off, zs.getD k 0, rfl, block_lt_of_cell hk2, hk2, hz2.1, hz2.2⟩

theorem RdC_kept {w w1 : World} {A : Option Addr} {n : Nat} (h : RdC w A n) (hb : Below w.heap.size w w1) : RdC w1 A n := by
  intro k hk
  obtain ⟨b, off, z, e, hlt, hc, z0, z1⟩ := h k hk
  exact ⟨b, off, z, e, Nat.lt_of_lt_of_le hlt hb.size, by rw [kept_cell hb b _ hlt]; exact hc, z0, z1⟩

/-- The slice value reads as n elements of sz cells each, cell for cell. -/
def RdF (w : World) (v : Value) (n sz : Nat) (xs : List Value) : Prop :=
  n ≤ 9223372036854775807 ∧ xs.length = n * sz ∧ ∃ A c, v = .slice A n c ∧ ∀ i, i < n * sz → ∃ b off, A = some ⟨b, off, none⟩ ∧ b < w.heap.size ∧ w.cell? ⟨b, off + i, none⟩ = xs[i]?

theorem RdF_kept {W w1 : World} {v : Value} {n sz : Nat} {xs : List Value} (h : RdF W v n sz xs) (hb : Below W.heap.size W w1) : RdF w1 v n sz xs := by
  obtain ⟨hl, hx, A, c, rfl, hr⟩ := h
  refine ⟨hl, hx, A, c, rfl, fun k hk => ?_⟩
  obtain ⟨b, off, e, hlt, hc⟩ := hr k hk
  exact ⟨b, off, e, Nat.lt_of_lt_of_le hlt hb.size, by rw [kept_cell hb b _ hlt]; exact hc⟩

/-- A row of elements of the call's own (type e, sz cells each), in a block from lo on and below hi. -/
def RowF (e sz : Nat) (w : World) (lo hi : Nat) (v : Value) (n : Nat) (xs : List Value) : Prop :=
  w.ownsRow lo e sz v n xs ∧ ∀ g, v.ownBlock = some g → lo ≤ g ∧ g < hi

theorem RowF_form {e sz : Nat} {w : World} {lo hi : Nat} {v : Value} {n : Nat} {xs : List Value} (h : RowF e sz w lo hi v n xs) :
    (n = 0 ∧ xs = [] ∧ v = .slice none 0 0) ∨ ∃ g cap, v = .slice (some ⟨g, 0, none⟩) n cap ∧ lo ≤ g ∧ g < hi ∧ g < w.heap.size ∧ n ≤ cap ∧ cap ≤ maxLen := by
  rcases h.1.2 with ⟨h1, h2⟩ | ⟨g, cap, cur, rfl, hg, hh, h3, h4, _⟩
  · exact Or.inl ⟨h2, List.eq_nil_of_length_eq_zero (by rw [h.1.1, h2, Nat.zero_mul]), h1⟩
  · exact Or.inr ⟨g, cap, rfl, hg, (h.2 g rfl).2, (h.1.lt g rfl).2, h3, h4⟩

theorem RowF_rd {e sz : Nat} {w : World} {lo hi : Nat} {v : Value} {n : Nat} {xs : List Value} (h : RowF e sz w lo hi v n xs) : RdF w v n sz xs := by
  rcases RowF_form h with ⟨rfl, rfl, rfl⟩ | ⟨g, cap, rfl, _, _, hlt, h3, h4⟩
  · exact ⟨by simp, by simp, none, 0, rfl, fun k hk => by simp at hk⟩
  · unfold maxLen at h4
    refine ⟨by omega, h.1.1, some ⟨g, 0, none⟩, cap, rfl, fun k hk => ⟨g, 0, rfl, hlt, ?_⟩⟩
    rw [Nat.zero_add, h.1.cellAt k hk]

/-- A quotient, rounded up. -/
def upL (n d : Int) : Int := (n + d - 1) / d

theorem mul_bd (a b p q : Int) (h1 : 0 ≤ a ∧ a ≤ p) (h2 : 0 ≤ b ∧ b ≤ q) : 0 ≤ a * b ∧ a * b ≤ p * q :=
  ⟨Int.mul_nonneg h1.1 h2.1, Int.mul_le_mul h1.2 h2.2 h2.1 (by omega)⟩

theorem specUp_any (n d : Int) (h1 : 0 ≤ n ∧ n ≤ 1000000000) (h2 : 1 ≤ d ∧ d ≤ 1000000) (w : World) :
    Calls Tryz.prog 62 #[.int .i64 n, .int .i64 d] w fun e w' => e = .returned (.int .i64 (upL n d)) ∧ w = w' := by
  have e : (n + d - 1).tdiv d = upL n d := by rw [upL, Int.tdiv_eq_ediv_of_nonneg (by omega)]
  have hd : (d == 0) = false := by simp; omega
  have hd2 : ¬ d = 0 := by omega
  have hd3 : ¬ d = -1 := by omega
  have hb : 0 ≤ upL n d ∧ upL n d ≤ 2000000000 := by
    rw [upL]
    refine ⟨Int.ediv_nonneg (by omega) (by omega), ?_⟩
    have := Int.ediv_le_self (a := n + d - 1) d (by omega)
    omega
  generalize upL n d = q at *
  go_enter Tryz.func62, Tryz.ntmps62
  go_wp2
  go_ret
  exact ⟨by first | rfl | rw [e], rfl⟩

theorem implUp_any (n d : Int) (h1 : 0 ≤ n ∧ n ≤ 1000000000) (h2 : 1 ≤ d ∧ d ≤ 1000000) (w : World) :
    Calls Tryz.prog 43 #[.int .i64 n, .int .i64 d] w fun e w' => e = .returned (.int .i64 (upL n d)) ∧ w = w' := by
  have e : (n + d - 1).tdiv d = upL n d := by rw [upL, Int.tdiv_eq_ediv_of_nonneg (by omega)]
  have hd : (d == 0) = false := by simp; omega
  have hd2 : ¬ d = 0 := by omega
  have hd3 : ¬ d = -1 := by omega
  have hb : 0 ≤ upL n d ∧ upL n d ≤ 2000000000 := by
    rw [upL]
    refine ⟨Int.ediv_nonneg (by omega) (by omega), ?_⟩
    have := Int.ediv_le_self (a := n + d - 1) d (by omega)
    omega
  generalize upL n d = q at *
  go_enter Tryz.func43, Tryz.ntmps43
  go_wp2
  go_ret
  exact ⟨by first | rfl | rw [e], rfl⟩

theorem below_drew {B : Nat} {a w : World} (h : Below B a w) : Below B a w.drew := { os := h.os, tape := h.tape, output := h.output, size := h.size, block := h.block }

theorem max_any (a b : Int) (w : World) :
    Calls Tryz.prog 83 #[.int .i64 a, .int .i64 b] w fun e w' => e = .returned (.int .i64 (max a b)) ∧ w = w' := by
  by_cases h : b < a
  · rw [show max a b = a by omega]
    go_enter Tryz.func83, Tryz.ntmps83
    go_wp2
    go_ret
    exact ⟨rfl, rfl⟩
  · rw [show max a b = b by omega]
    go_enter Tryz.func83, Tryz.ntmps83
    go_wp2
    go_ret
    exact ⟨rfl, rfl⟩

/-- The digits of a number, none of 0. -/
def dd (u : Nat) : List UInt8 := if u = 0 then [] else Lib.decDigits u

theorem dd_step (u : Nat) (h : u ≠ 0) : dd u = dd (u / 10) ++ [UInt8.ofNat (48 + u % 10)] := by
  unfold dd
  rw [if_neg h, Lib.decDigits]
  by_cases h1 : u < 10
  · rw [dif_pos h1, if_pos (by omega), Nat.mod_eq_of_lt h1]
    rfl
  · rw [dif_neg h1, if_neg (by omega)]

/-- A byte's cell. -/
def byteV (b : UInt8) : Value := .int .u8 (b.toNat : Int)

theorem info_byte : (Tryz.prog.info? 5).map (fun i => (i.zero, i.size, i.bytes)) = some (some (.int .u8 0), 1, 1) := by kernel_rfl

theorem dd_len (m : Nat) (h : m ≤ 9223372036854775808) : (dd m).length ≤ 20 := by
  unfold dd
  split
  · simp
  · rw [Lib.decDigits_length]
    exact Lib.nDigits_le20 m (by omega)

theorem row_news {w : World} {lo g cap : Nat} {bs : List UInt8} (h : w.ownsRow lo 5 1 (.slice (some ⟨g, 0, none⟩) bs.length cap) bs.length (bs.map byteV)) : ∀ j u, (bs.map byteV)[j]? = some u → w.cell? ((⟨g, 0, none⟩ : Addr).add j) = some u :=
  World.ownsRow.cells h rfl

theorem row_string {w : World} {lo g cap : Nat} {bs : List UInt8} (h : w.ownsRow lo 5 1 (.slice (some ⟨g, 0, none⟩) bs.length cap) bs.length (bs.map byteV)) :
    (convert 22 9 (.slice (some ⟨g, 0, none⟩) bs.length cap)).run Tryz.prog w = .ok (.string ⟨bs.toArray⟩) w :=
  run_convert_bytes_back (P := Tryz.prog) w 22 9 5 ⟨g, 0, none⟩ cap bs Tryz.underlying22 Tryz.underlying5 Tryz.underlying9 (fun j hj => row_news h j _ (by simp [hj, byteV]))

theorem byte_one (bs : List UInt8) : ∀ u ∈ bs.map byteV, u.oneCell' = true := by
  intro u hu
  obtain ⟨b, _, rfl⟩ := List.mem_map.1 hu
  rfl

/-- The loop of digits: what is left of m, and what is written. -/
def DecR (m : Nat) (w wr : World) (o : Value) (u : Nat) : Prop :=
  ∃ (bs : List UInt8) (g cap : Nat), dd m = dd u ++ bs ∧ o = .slice (some ⟨g, 0, none⟩) bs.length cap ∧ wr.ownsRow w.heap.size 5 1 o bs.length (bs.map byteV) ∧ Below w.heap.size w wr ∧ w.heap.size < wr.heap.size

set_option maxRecDepth 100000 in
theorem specDec_pos (m : Nat) (hm : m ≤ 9223372036854775807) (w : World) :
    Calls Tryz.prog 66 #[.int .i64 (m : Int)] w fun e w' => e = .returned (.string ⟨(Lib.itoa (m : Int)).toArray⟩) ∧ Below w.heap.size w w' := by
  obtain ⟨i0, hi, hz0, hz1, hz2⟩ := info_parts info_byte
  have hdl := dd_len m (by omega)
  have hF : Lib.itoa (m : Int) = Lib.decDigits m := by unfold Lib.itoa; rw [if_neg (by omega)]; simp
  rw [hF]
  clear hF
  have HR := Lib.hid (rfl : Lib.decDigits m = Lib.decDigits m)
  have hgen : ∃ F, Lib.decDigits m = F ∧ (m = 0 → F = [48]) ∧ (m ≠ 0 → F = dd m) := ⟨_, rfl, fun h => by rw [h, Lib.decDigits, dif_pos (by omega)]; rfl, fun h => by rw [dd, if_neg h]⟩
  obtain ⟨F, hF, hF0, hF1⟩ := hgen
  rw [hF]
  clear hF HR
  have HF0 := Lib.hid hF0; clear hF0
  have HF1 := Lib.hid hF1; clear hF1
  go_enter Tryz.func66, Tryz.ntmps66
  go_wp2_with fail
  go_loopw [3, 4] (fun o k wr => ∃ u : Nat, u ≤ m ∧ k = .int .i64 (u : Int) ∧ DecR m w wr o u) (fun _ k _ => (intOf k).toNat)
  case atStart => exact ⟨m, Nat.le_refl _, rfl, [], w.heap.size, 0, by simp, rfl, by simpa using World.ownsRow_lit w (e := 5) (size := 1) #[] 0 (Nat.le_refl _) (by decide) (by rfl), by go_grown, by simp⟩
  case round =>
    obtain ⟨u, hu, rfl, bs, g, cap, hdd, rfl, hown, hb, hlw⟩ := hrel
    by_cases h0 : u = 0
    · subst h0
      have hbs : dd m = bs := by simpa [dd] using hdd
      have hcv := row_string hown
      by_cases hm0 : m = 0
      · have hl0 : bs = [] := by rw [← hbs, hm0]; rfl
        subst hl0
        have HO := Lib.hid hown; clear hown
        go_wp2
        go_ret
        exact ⟨by rw [HF0.out hm0]; rfl, hb⟩
      · have hne : ((bs.length : Int) == 0) = false := by
          have : bs ≠ [] := by
            rw [← hbs, dd_step m hm0]
            simp
          have := List.length_pos_iff.2 this
          simp
          omega
        have HO := Lib.hid hown; clear hown
        have HB := Lib.hid hbs; clear hbs hdd
        go_wp2
        go_ret
        exact ⟨by rw [HF1.out hm0, HB.out]; rfl, hb⟩
    · have hst := dd_step u h0
      rw [hst, List.append_assoc] at hdd
      have hlen : bs.length ≤ 20 := by
        have := congrArg List.length hdd
        simp at this
        omega
      have hmod : (u : Int).tmod 10 = ((u % 10 : Nat) : Int) := by rw [Int.tmod_eq_emod_of_nonneg (by omega)]; omega
      have hdiv : (u : Int).tdiv 10 = ((u / 10 : Nat) : Int) := by rw [Int.tdiv_eq_ediv_of_nonneg (by omega)]; omega
      have hd10 : u % 10 < 10 := Nat.mod_lt _ (by omega)
      have hbyte : byteV (UInt8.ofNat (48 + u % 10)) = .int .u8 ((48 : Int) + ((u % 10 : Nat) : Int)) := by
        simp only [byteV]
        rw [UInt8.toNat_ofNat_of_lt' (by have : UInt8.size = 256 := rfl; omega)]
        push_cast
        rfl
      have hsz := hb.size
      have hlt10 : u / 10 < u := Nat.div_lt_self (by omega) (by omega)
      have HD := Lib.hid hdd; clear hdd hst
      have HBY := Lib.hid hbyte; clear hbyte
      generalize u / 10 = q at *
      generalize u % 10 = d at *
      have hw8 : IntKind.u8.wrap ((48 : Int) + (d : Int)) = 48 + (d : Int) := IntWalk.u8_in _ (by omega)
      have HO := Lib.hid hown; clear hown
      have hlit := World.ownsRow_lit wr (base := w.heap.size) (e := 5) (size := 1) #[.int .u8 ((48 : Int) + (d : Int))] 1 hsz (by decide) (by rfl)
      have HL := Lib.hid hlit; clear hlit
      have hone := byte_one bs
      have HONE := Lib.hid hone; clear hone
      go_wp2_with (at_builtin; refine wpList_append_own _ rfl (.tmp 21) (.tmp 22) _ rfl w.heap.size 5 i0 (.int .u8 0) 1 1 Tryz.underlying22 hi hz0 hz1 hz2 rfl (by decide) (.slice (some ⟨wr.heap.size, 0, none⟩) 1 1) 1 [.int .u8 ((48 : Int) + (d : Int))] rfl HL.out ⟨g, 0, none⟩ bs.length cap (bs.map byteV) rfl (by simp) (row_news (HO.out.alloc _)) HONE.out (by unfold maxLen; omega) (by omega) (by simp; omega) ?_; intro v2 w2 hown2 hg2 _)
      go_roundw
      case rel =>
        have hrow2 : RowF 5 1 w2 w.heap.size w2.heap.size v2 (1 + bs.length) ([.int .u8 ((48 : Int) + (d : Int))] ++ bs.map byteV) := ⟨hown2, hown2.lt⟩
        have hb2 : Below w.heap.size w w2 := grown_below (kept_trans hb (by go_grown)) hg2 (fun x hx => by simp [Value.ownBlock] at hx; omega)
        rcases RowF_form hrow2 with ⟨hz, _⟩ | ⟨g2, cap2, hv, _, _, hlt2, _, _⟩
        · omega
        · refine ⟨q, by omega, by go_num, UInt8.ofNat (48 + d) :: bs, g2, cap2, by simpa using HD.out, by rw [hv, List.length_cons, Nat.add_comm], ?_, hb2, ?_⟩
          · rw [List.map_cons, HBY.out, List.length_cons, Nat.add_comm bs.length 1]
            exact hown2
          · have := hg2.size
            simp at this
            omega
      case measure => simp [intOf]; omega

set_option maxRecDepth 100000 in
theorem specDec_neg (m : Nat) (h1m : 1 ≤ m) (hm : m ≤ 9223372036854775808) (w : World) :
    Calls Tryz.prog 66 #[.int .i64 (-(m : Int))] w fun e w' => e = .returned (.string ⟨(Lib.itoa (-(m : Int))).toArray⟩) ∧ Below w.heap.size w w' := by
  obtain ⟨i0, hi, hz0, hz1, hz2⟩ := info_parts info_byte
  have hdl := dd_len m (by omega)
  have hF : Lib.itoa (-(m : Int)) = 45 :: dd m := by unfold Lib.itoa dd; rw [if_pos (by omega), if_neg (by omega)]; simp
  rw [hF]
  clear hF
  go_enter Tryz.func66, Tryz.ntmps66
  go_wp2_with fail
  go_loopw [3, 4] (fun o k wr => ∃ u : Nat, u ≤ m ∧ k = .int .i64 (-(u : Int)) ∧ DecR m w wr o u) (fun _ k _ => (-(intOf k)).toNat)
  case atStart => exact ⟨m, Nat.le_refl _, rfl, [], w.heap.size, 0, by simp, rfl, by simpa using World.ownsRow_lit w (e := 5) (size := 1) #[] 0 (Nat.le_refl _) (by decide) (by rfl), by go_grown, by simp⟩
  case round =>
    obtain ⟨u, hu, rfl, bs, g, cap, hdd, rfl, hown, hb, hlw⟩ := hrel
    by_cases h0 : u = 0
    · subst h0
      have hbs : dd m = bs := by simpa [dd] using hdd
      have hcv := row_string hown
      have hne : ((bs.length : Int) == 0) = false := by
        have : bs ≠ [] := by
          rw [← hbs, dd_step m (by omega)]
          simp
        have := List.length_pos_iff.2 this
        simp
        omega
      have hcat : (ByteArray.mk #[45]) ++ (ByteArray.mk bs.toArray) = ByteArray.mk (45 :: bs).toArray := by
        apply ByteArray.ext
        simp [ByteArray.data_append]
      have hbl : bs.length ≤ 20 := by rw [← hbs]; exact hdl
      have HO := Lib.hid hown; clear hown
      have HB := Lib.hid hbs; clear hbs hdd
      go_wp2
      go_ret
      exact ⟨by rw [HB.out]; rfl, hb⟩
    · have hst := dd_step u h0
      rw [hst, List.append_assoc] at hdd
      have hlen : bs.length ≤ 20 := by
        have := congrArg List.length hdd
        simp at this
        omega
      have hmod : (-(u : Int)).tmod 10 = -((u % 10 : Nat) : Int) := by rw [Int.neg_tmod, Int.tmod_eq_emod_of_nonneg (by omega)]; omega
      have hdiv : (-(u : Int)).tdiv 10 = -((u / 10 : Nat) : Int) := by rw [Int.neg_tdiv, Int.tdiv_eq_ediv_of_nonneg (by omega)]; omega
      have hd10 : u % 10 < 10 := Nat.mod_lt _ (by omega)
      have hbyte : byteV (UInt8.ofNat (48 + u % 10)) = .int .u8 ((48 : Int) + ((u % 10 : Nat) : Int)) := by
        simp only [byteV]
        rw [UInt8.toNat_ofNat_of_lt' (by have : UInt8.size = 256 := rfl; omega)]
        push_cast
        rfl
      have hsz := hb.size
      have hlt10 : u / 10 < u := Nat.div_lt_self (by omega) (by omega)
      have HD := Lib.hid hdd; clear hdd hst
      have HBY := Lib.hid hbyte; clear hbyte
      generalize u / 10 = q at *
      generalize u % 10 = d at *
      have hw8 : IntKind.u8.wrap ((48 : Int) + (d : Int)) = 48 + (d : Int) := IntWalk.u8_in _ (by omega)
      have HO := Lib.hid hown; clear hown
      have hlit := World.ownsRow_lit wr (base := w.heap.size) (e := 5) (size := 1) #[.int .u8 ((48 : Int) + (d : Int))] 1 hsz (by decide) (by rfl)
      have HL := Lib.hid hlit; clear hlit
      have hone := byte_one bs
      have HONE := Lib.hid hone; clear hone
      by_cases hd0 : d = 0
      · subst hd0
        go_wp2_with (at_builtin; refine wpList_append_own _ rfl (.tmp 21) (.tmp 22) _ rfl w.heap.size 5 i0 (.int .u8 0) 1 1 Tryz.underlying22 hi hz0 hz1 hz2 rfl (by decide) (.slice (some ⟨wr.heap.size, 0, none⟩) 1 1) 1 [.int .u8 48] rfl HL.out ⟨g, 0, none⟩ bs.length cap (bs.map byteV) rfl (by simp) (row_news (HO.out.alloc _)) HONE.out (by unfold maxLen; omega) (by omega) (by simp; omega) ?_; intro v2 w2 hown2 hg2 _)
        go_roundw
        case rel =>
          have hrow2 : RowF 5 1 w2 w.heap.size w2.heap.size v2 (1 + bs.length) ([.int .u8 48] ++ bs.map byteV) := ⟨hown2, hown2.lt⟩
          have hb2 : Below w.heap.size w w2 := grown_below (kept_trans hb (by go_grown)) hg2 (fun x hx => by simp [Value.ownBlock] at hx; omega)
          rcases RowF_form hrow2 with ⟨hz, _⟩ | ⟨g2, cap2, hv, _, _, hlt2, _, _⟩
          · omega
          · refine ⟨q, by omega, by go_num, UInt8.ofNat 48 :: bs, g2, cap2, by simpa using HD.out, by rw [hv, List.length_cons, Nat.add_comm], ?_, hb2, ?_⟩
            · rw [List.map_cons, show byteV (UInt8.ofNat 48) = .int .u8 48 from rfl, List.length_cons, Nat.add_comm bs.length 1]
              exact hown2
            · have := hg2.size
              simp at this
              omega
        case measure => simp [intOf]; omega
      · have hdn : decide (-(d : Int) < 0) = true := by simp; omega
        go_wp2_with (at_builtin; refine wpList_append_own _ rfl (.tmp 21) (.tmp 22) _ rfl w.heap.size 5 i0 (.int .u8 0) 1 1 Tryz.underlying22 hi hz0 hz1 hz2 rfl (by decide) (.slice (some ⟨wr.heap.size, 0, none⟩) 1 1) 1 [.int .u8 ((48 : Int) + (d : Int))] rfl HL.out ⟨g, 0, none⟩ bs.length cap (bs.map byteV) rfl (by simp) (row_news (HO.out.alloc _)) HONE.out (by unfold maxLen; omega) (by omega) (by simp; omega) ?_; intro v2 w2 hown2 hg2 _)
        go_roundw
        case rel =>
          have hrow2 : RowF 5 1 w2 w.heap.size w2.heap.size v2 (1 + bs.length) ([.int .u8 ((48 : Int) + (d : Int))] ++ bs.map byteV) := ⟨hown2, hown2.lt⟩
          have hb2 : Below w.heap.size w w2 := grown_below (kept_trans hb (by go_grown)) hg2 (fun x hx => by simp [Value.ownBlock] at hx; omega)
          rcases RowF_form hrow2 with ⟨hz, _⟩ | ⟨g2, cap2, hv, _, _, hlt2, _, _⟩
          · omega
          · refine ⟨q, by omega, by go_num, UInt8.ofNat (48 + d) :: bs, g2, cap2, by simpa using HD.out, by rw [hv, List.length_cons, Nat.add_comm], ?_, hb2, ?_⟩
            · rw [List.map_cons, HBY.out, List.length_cons, Nat.add_comm bs.length 1]
              exact hown2
            · have := hg2.size
              simp at this
              omega
        case measure => simp [intOf]; omega

theorem specDec_any (n : Int) (h : -9223372036854775808 ≤ n ∧ n ≤ 9223372036854775807) (w : World) :
    Calls Tryz.prog 66 #[.int .i64 n] w fun e w' => e = .returned (.string ⟨(Lib.itoa n).toArray⟩) ∧ Below w.heap.size w w' := by
  rcases Int.lt_or_le n 0 with h0 | h0
  · obtain ⟨m, rfl⟩ : ∃ m : Nat, n = -(m : Int) := ⟨n.natAbs, by omega⟩
    exact specDec_neg m (by omega) (by omega) w
  · obtain ⟨m, rfl⟩ : ∃ m : Nat, n = (m : Int) := ⟨n.toNat, by omega⟩
    exact specDec_pos m (by omega) w

/-- New blocks behind the heap alone. -/
theorem below_ext {w w1 : World} (os : Array Obj) (h1 : w1.heap = w.heap ++ os) (h2 : w1.os = w.os) (h3 : w1.tape = w.tape) (h4 : w1.output = w.output) : Below w.heap.size w w1 where
  os := h2
  tape := h3
  output := h4
  size := by rw [h1]; simp
  block := fun i hi => by rw [h1]; simp [Array.getElem?_append, hi]

/-- The table of the powers of ten. -/
def PowTab (w : World) : Prop := Lib.TabIs Tryz.prog w "internal/strconv.uint64pow10" .u64 Lib.pow10Tab

theorem tab_kept {W w1 : World} {name : String} {k : IntKind} {zs : List Int} (h : Lib.TabIs Tryz.prog W name k zs) (hb : Below W.heap.size W w1) : Lib.TabIs Tryz.prog w1 name k zs := by
  unfold Lib.TabIs World.var? at *
  cases hg : (Tryz.prog).globalNamed name with
  | none => simp [hg] at h
  | some g =>
    simp only [hg, Option.bind_some] at h ⊢
    rcases Nat.lt_or_ge g W.heap.size with hlt | hge
    · rw [hb.block g hlt]
      exact h
    · rw [Array.getElem?_eq_none hge] at h
      simp at h

theorem tabIs_of_reads {P : Program} {W : World} {name : String} {k : IntKind} {zs : List Int} {g : Nat} {t e : TypeId} {n : Nat}
    (hg : P.globalNamed name = some g) (hty : (P.globals[g]?).map (·.type) = some t) (ht : P.underlying t = some (.array n e)) (he : P.underlying e = some (.int k)) (hce : P.cellsOf e = 1) (hct : P.cellsOf t = n)
    (h : Lib.VarReads P W name (Lib.tabData k zs)) : Lib.TabIs P W name k zs := by
  obtain ⟨g', t', cs, fuel, p, hg', ht', hvar, hd⟩ := h
  obtain rfl := Option.some.inj (hg.symm.trans hg')
  obtain rfl := Option.some.inj (hty.symm.trans ht')
  unfold Lib.TabIs
  rw [hvar, ← Lib.cells_of_tab ht he hce hct hd]

theorem powTab_of {W : World} (h : Lib.VarReads Tryz.prog W "internal/strconv.uint64pow10" Rows.laid_internal_strconv_uint64pow10) : PowTab W :=
  tabIs_of_reads (g := 0) (t := 121) (e := 81) (n := 20) (by kernel_rfl) (by kernel_rfl) Tryz.underlying121 Tryz.underlying81 (by kernel_rfl) (by kernel_rfl) h

theorem implDecimal_any (n : Int) (h : -9223372036854775808 ≤ n ∧ n ≤ 9223372036854775807) (w : World) (ht : PowTab w) :
    Calls Tryz.prog 46 #[.int .i64 n] w fun e w' => e = .returned (.string ⟨(Lib.itoa n).toArray⟩) ∧ Below w.heap.size w w' := by
  have H := Lib.hid (Tryz.strconv_FormatInt_10 n h.1 h.2 w ht)
  generalize Lib.itoa n = F at *
  go_enter Tryz.func46, Tryz.ntmps46
  go_wp2_with fail
  refine H.out.mono ?_
  rintro e w1 ⟨rfl, k, os, hw⟩
  have hb : Below w.heap.size w w1 := below_ext os (by rw [hw]; rfl) (by rw [hw]; rfl) (by rw [hw]; rfl) (by rw [hw]; rfl)
  clear hw
  go_wp2
  go_ret
  exact ⟨rfl, hb⟩

/-- A byte is a digit. -/
def digB (c : UInt8) : Bool := decide (48 ≤ c.toNat) && decide (c.toNat ≤ 57)

/-- What digits spell behind a number. -/
def valB (l : List UInt8) (a : Nat) : Nat := l.foldl (fun a c => a * 10 + (c.toNat - 48)) a

theorem digits_ok (u : Nat) : (Lib.decDigits u).all digB = true ∧ valB (Lib.decDigits u) 0 = u ∧ 1 ≤ (Lib.decDigits u).length ∧ (Lib.decDigits u).head? ≠ some 45 := by
  induction u using Nat.strongRecOn with
  | _ u ih =>
    rw [Lib.decDigits]
    have hb : ∀ d : Nat, d < 10 → (UInt8.ofNat (48 + d)).toNat = 48 + d := fun d hd => UInt8.toNat_ofNat_of_lt' (by have : UInt8.size = 256 := rfl; omega)
    by_cases h1 : u < 10
    · rw [dif_pos h1]
      have := hb u h1
      refine ⟨by simp [digB, this]; omega, by simp only [valB, List.foldl_cons, List.foldl_nil, this]; omega, by simp, ?_⟩
      intro he
      simp only [List.head?_cons, Option.some.injEq] at he
      rw [he] at this
      have e45 : (45 : UInt8).toNat = 45 := rfl
      omega
    · rw [dif_neg h1]
      obtain ⟨i1, i2, i3, i4⟩ := ih (u / 10) (by omega)
      have := hb (u % 10) (by omega)
      refine ⟨?_, ?_, by simp, ?_⟩
      · rw [List.all_append, i1]
        simp [digB, this]
        omega
      · simp only [valB, List.foldl_append, List.foldl_cons, List.foldl_nil, this] at i2 ⊢
        rw [i2]
        omega
      · rw [List.head?_append]
        cases hd : Lib.decDigits (u / 10) with
        | nil => rw [hd] at i3; simp at i3
        | cons c r => rw [hd] at i4; simpa using i4

theorem parse_ok (l : List UInt8) : ∀ (acc k : Nat), l.all digB = true → acc < 10 ^ k → k + l.length ≤ 18 → Lib.parseUintM (2 ^ 64 - 1) acc l = .ok (valB l acc) ∧ valB l acc < 10 ^ (k + l.length) := by
  induction l with
  | nil => intro acc k _ ha _; exact ⟨rfl, by simpa [valB] using ha⟩
  | cons c r ih =>
    intro acc k hall ha hk
    simp only [List.all_cons, Bool.and_eq_true, digB, decide_eq_true_eq] at hall
    simp only [List.length_cons] at hk ⊢
    have hp : (10 : Nat) ^ (k + 1) = 10 ^ k * 10 := Nat.pow_succ ..
    have hnext : acc * 10 + (c.toNat - 48) < 10 ^ (k + 1) := by omega
    have hle : (10 : Nat) ^ (k + 1) ≤ 10 ^ 18 := Nat.pow_le_pow_right (by omega) (by omega)
    have h18 : (10 : Nat) ^ 18 = 1000000000000000000 := by decide
    obtain ⟨j1, j2⟩ := ih (acc * 10 + (c.toNat - 48)) (k + 1) (by simpa [digB] using hall.2) hnext (by omega)
    rw [Lib.parseUintM, if_pos hall.1, if_neg (by omega), if_neg (by omega)]
    refine ⟨by rw [j1]; rfl, ?_⟩
    have : k + (r.length + 1) = k + 1 + r.length := by omega
    rw [this]
    exact j2

/-- What stands behind the sign. -/
def readT (l : List UInt8) : List UInt8 := if l.head? = some 45 then l.tail else l

def readN (l : List UInt8) : Int := if l.head? = some 45 then -(valB (readT l) 0 : Int) else (valB (readT l) 0 : Int)

def ReadP (l : List UInt8) : Prop := 1 ≤ (readT l).length ∧ (readT l).length ≤ 18 ∧ (readT l).all digB = true ∧ Lib.itoa (readN l) = l

open Classical in
/-- The number with this decimal form, and whether there is one. -/
noncomputable def readL (l : List UInt8) : Int × Bool := if ReadP l then (readN l, true) else (0, false)

theorem parse_int (l : List UInt8) (h1 : 1 ≤ (readT l).length) (h2 : (readT l).length ≤ 18) (h3 : (readT l).all digB = true) : Lib.parseIntB 64 l = .ok (readN l) := by
  obtain ⟨j1, j2⟩ := parse_ok (readT l) 0 0 h3 (by simp) (by omega)
  have hle : (10 : Nat) ^ (0 + (readT l).length) ≤ 10 ^ 18 := Nat.pow_le_pow_right (by omega) (by omega)
  have h18 : (10 : Nat) ^ 18 = 1000000000000000000 := by decide
  have hne : readT l ≠ [] := fun h => by rw [h] at h1; simp at h1
  have hu : Lib.parseUintB 64 (readT l) = .ok (valB (readT l) 0) := by rw [Lib.parseUintB, if_neg hne, j1]
  cases l with
  | nil => simp [readT] at h1
  | cons c r =>
    by_cases hc : c = 45
    · subst hc
      have ht : readT (45 :: r) = r := by simp [readT]
      have hn : readN (45 :: r) = -(valB r 0 : Int) := by simp [readN, ht]
      rw [ht] at hu j2 hle
      rw [hn, Lib.parseIntB]
      simp only [show (45 : UInt8).toNat = 45 from rfl, or_true, if_true, hu, not_true_eq_false, false_and, if_false, true_and]
      rw [if_neg (by omega)]
    · have ht : readT (c :: r) = c :: r := by simp [readT, hc]
      have hn : readN (c :: r) = (valB (c :: r) 0 : Int) := by simp [readN, ht, hc]
      rw [ht] at hu j2 hle h3
      simp only [List.all_cons, Bool.and_eq_true, digB, decide_eq_true_eq] at h3
      have h45 : ¬ c.toNat = 45 := by omega
      have h43 : ¬ c.toNat = 43 := by omega
      rw [hn, Lib.parseIntB]
      simp only [h45, h43, or_self, if_false, hu, not_false_eq_true, true_and, false_and]
      rw [if_neg (by omega)]

theorem itoa_read (v : Int) (l : List UInt8) (h : Lib.itoa v = l) : 1 ≤ (readT l).length ∧ (readT l).all digB = true ∧ readN l = v := by
  subst h
  unfold Lib.itoa
  by_cases h0 : v < 0
  · obtain ⟨i1, i2, i3, i4⟩ := digits_ok v.natAbs
    rw [if_pos h0]
    have ht : readT (45 :: Lib.decDigits v.natAbs) = Lib.decDigits v.natAbs := by simp [readT]
    refine ⟨by rw [ht]; exact i3, by rw [ht]; exact i1, ?_⟩
    rw [readN, ht, if_pos (by simp), i2]
    omega
  · obtain ⟨i1, i2, i3, i4⟩ := digits_ok v.toNat
    rw [if_neg h0]
    have ht : readT (Lib.decDigits v.toNat) = Lib.decDigits v.toNat := by simp [readT, i4]
    refine ⟨by rw [ht]; exact i3, by rw [ht]; exact i1, ?_⟩
    rw [readN, ht, if_neg i4, i2]
    omega

theorem readL_yes {l : List UInt8} {v : Int} (h : Lib.itoa v = l) (ht : (readT l).length ≤ 18) : readL l = (v, true) := by
  obtain ⟨h1, h2, h3⟩ := itoa_read v l h
  rw [readL, if_pos ⟨h1, ht, h2, by rw [h3]; exact h⟩, h3]

theorem readL_no {l : List UInt8} (h : ¬ ReadP l) : readL l = (0, false) := by rw [readL, if_neg h]

theorem trim_is (l : List UInt8) : Lib.trimPrefix l [45] = readT l := by
  cases l with
  | nil => rfl
  | cons c r =>
    by_cases hc : c = 45
    · subst hc
      simp [Lib.trimPrefix, Lib.hasPrefix, readT]
    · have : ¬ (45 : UInt8) = c := fun h => hc h.symm
      simp [Lib.trimPrefix, Lib.hasPrefix, readT, hc, this]

theorem parse_bd {l : List UInt8} {v : Int} (h : Lib.parseIntB 64 l = .ok v) : -9223372036854775808 ≤ v ∧ v ≤ 9223372036854775807 := by
  cases l with
  | nil => simp [Lib.parseIntB] at h
  | cons c r =>
    simp only [Lib.parseIntB] at h
    split at h
    · cases h
    · cases h
    · split at h
      · cases h
      · split at h
        · cases h
        · next u _ h1 h2 =>
          injection h with h
          split at h <;> omega

/-- The variable holds an error. -/
def ErrVar (w : World) (g : Nat) : Prop := g < w.heap.size ∧ ∃ te pe, w.cell? ⟨g, 0, none⟩ = some (.iface te pe)

theorem ErrVar_kept {W w1 : World} {g : Nat} (h : ErrVar W g) (hb : Below W.heap.size W w1) : ErrVar w1 g := by
  obtain ⟨hg, te, pe, hc⟩ := h
  exact ⟨Nat.lt_of_lt_of_le hg hb.size, te, pe, by rw [kept_cell hb g 0 hg]; exact hc⟩

theorem errVar_of {P : Program} {W : World} {name s : String} {d : DataW Unit} {g t : Nat} {ms : Array (String × TypeId)} (hg : P.globalNamed name = some g) (hty : (P.globals[g]?).map (·.type) = some t) (ht : P.underlying t = some (.interface ms)) (hct : P.cellsOf t = 1)
    (h : Lib.VarReads P W name (.iface s d)) : ErrVar W g := by
  obtain ⟨g', t', cs, fuel, p, hg', ht', hvar, hd⟩ := h
  obtain rfl := Option.some.inj (hg.symm.trans hg')
  obtain rfl := Option.some.inj (hty.symm.trans ht')
  have hlt : g < W.heap.size := by
    simp only [World.var?, hg, Option.bind_some] at hvar
    rcases Nat.lt_or_ge g W.heap.size with hlt | hge
    · exact hlt
    · rw [Array.getElem?_eq_none hge] at hvar; simp at hvar
  refine ⟨hlt, ?_⟩
  have hcell := World.var?_cell hg hvar 0
  cases fuel with
  | zero => simp [DataW.trod] at hd
  | succ fuel =>
    cases hl : cs.toList with
    | nil => simp [DataW.trod, ht, hl] at hd
    | cons v r =>
      cases r with
      | cons _ _ => simp [DataW.trod, ht, hl] at hd
      | nil =>
        cases v <;> simp [DataW.trod, ht, hl] at hd
        next te pe =>
          refine ⟨te, pe, ?_⟩
          rw [hcell, ← Array.getElem?_toList, hl]
          rfl

theorem parse64_any (s : ByteArray) (hs : s.size ≤ 1000000) (w : World) (h1 : ErrVar w 1) (h2 : ErrVar w 2) :
    Calls Tryz.prog 69 #[.string s, .int .i64 10, .int .i64 64] w fun e w' => ((∃ v, Lib.parseIntB 64 s.data.toList = .ok v ∧ e = .returned (.tuple #[.int .i64 v, .nilIface])) ∨ ((∀ v, Lib.parseIntB 64 s.data.toList ≠ .ok v) ∧ ∃ x t p, e = .returned (.tuple #[.int .i64 x, .iface t p]))) ∧ Below w.heap.size w w' := by
  obtain ⟨_, te1, pe1, c1⟩ := h1
  obtain ⟨_, te2, pe2, c2⟩ := h2
  rcases hp : Lib.parseIntB 64 s.data.toList with v | _ | _
  · refine (Any.strconv_ParseInt_10_at64_ok Tryz.laysC174 s (by omega) v hp w).mono ?_
    rintro e w' ⟨rfl, hw⟩
    refine ⟨Or.inl ⟨v, rfl, rfl⟩, ?_⟩
    rcases hw with rfl | ⟨t, rfl⟩
    · exact Below.refl _ _
    · exact Joins.below_bytesWorld _ _ _ _ (Nat.le_refl _)
  · refine (Any.strconv_ParseInt_10_at64_syntax Tryz.laysC174 s (by omega) hp _ w c1 (Or.inr ⟨_, _, rfl⟩)).mono ?_
    rintro e w' ⟨N, rfl, _, _, hb⟩
    exact ⟨Or.inr ⟨fun v => by simp, _, _, _, rfl⟩, hb⟩
  · refine (Any.strconv_ParseInt_10_at64_range Tryz.laysC174 s (by omega) hp _ w c2 (Or.inr ⟨_, _, rfl⟩)).mono ?_
    rintro e w' ⟨N, rfl, _, _, hb⟩
    exact ⟨Or.inr ⟨fun v => by simp, _, _, _, rfl⟩, hb⟩

/-- What reading and writing numbers wants of the world. -/
def TextW (w : World) : Prop := PowTab w ∧ ErrVar w 1 ∧ ErrVar w 2

theorem TextW_kept {W w1 : World} (h : TextW W) (hb : Below W.heap.size W w1) : TextW w1 := ⟨tab_kept h.1 hb, ErrVar_kept h.2.1 hb, ErrVar_kept h.2.2 hb⟩

theorem str_ne {a b : ByteArray} (h : ¬ a = b) : (a.toList == b.toList) = false := by
  rw [ByteArray.toList_eq, ByteArray.toList_eq, beq_eq_false_iff_ne]
  intro he
  apply h
  cases a
  cases b
  simpa [Array.toList_inj] using he

set_option maxRecDepth 100000 in
theorem implReadDec_any (s : ByteArray) (hs : s.size ≤ 1000000) (w : World) (ht : TextW w) :
    Calls Tryz.prog 50 #[.string s] w fun e w' => e = .returned (.tuple #[.int .i64 (readL s.data.toList).1, .bool (readL s.data.toList).2]) ∧ Below w.heap.size w w' := by
  have HT := Lib.hid (Tryz.strings_TrimPrefix s ⟨#[45]⟩ w)
  rw [show (ByteArray.mk #[45]).data.toList = [45] from rfl, trim_is] at HT
  have hsl : s.data.toList.length = s.size := Array.length_toList
  by_cases h18 : (readT s.data.toList).length ≤ 18
  · have HP := Lib.hid (parse64_any s hs w ht.2.1 ht.2.2)
    have hsz : (ByteArray.mk (readT s.data.toList).toArray).size = (readT s.data.toList).length := by simp [ByteArray.size]
    generalize hT : ByteArray.mk (readT s.data.toList).toArray = T at *
    have hTs : T.size ≤ 18 := by omega
    clear hsz
    have hdec : decide ((18 : Int) < (T.size : Int)) = false := by simp; omega
    have HW := Lib.hid ht; clear ht
    have H18 := Lib.hid h18; clear h18
    have HTT := Lib.hid hT; clear hT
    go_enter Tryz.func50, Tryz.ntmps50
    go_wp2_with fail
    refine HT.out.mono ?_
    rintro e w1 ⟨rfl, rfl⟩
    go_wp2_with fail
    refine HP.out.mono ?_
    rintro e w2 ⟨(⟨v, hp, rfl⟩ | ⟨hno, x, t, p, rfl⟩), hb⟩
    · have hvb := parse_bd hp
      have HD := Lib.hid (implDecimal_any v hvb w2 (tab_kept HW.out.1 hb))
      by_cases he : Lib.itoa v = s.data.toList
      · have hL := readL_yes he H18.out
        rw [he] at HD
        have hss : ByteArray.mk s.data.toList.toArray = s := by cases s; simp
        rw [hss] at HD
        have HL := Lib.hid hL; clear hL he hp
        go_wp2_with fail
        refine HD.out.mono ?_
        rintro e w3 ⟨rfl, hb3⟩
        go_wp2
        go_ret2
        exact ⟨by rw [HL.out]; rfl, kept_trans hb hb3⟩
      · have hL : readL s.data.toList = (0, false) := readL_no (fun h => by
          have h2 := parse_int _ h.1 h.2.1 h.2.2.1
          rw [hp] at h2
          injection h2 with h2
          rw [h2] at he
          exact he h.2.2.2)
        have hne : ¬ ByteArray.mk (Lib.itoa v).toArray = s := fun h => he (by rw [← h])
        generalize ByteArray.mk (Lib.itoa v).toArray = G at *
        have hne1 := str_ne hne
        have HL := Lib.hid hL; clear hL he hp
        go_wp2_with fail
        refine HD.out.mono ?_
        rintro e w3 ⟨rfl, hb3⟩
        go_wp2
        go_ret2
        exact ⟨by rw [HL.out]; rfl, kept_trans hb hb3⟩
    · have hL : readL s.data.toList = (0, false) := readL_no (fun h => hno _ (parse_int _ h.1 h.2.1 h.2.2.1))
      have HL := Lib.hid hL; clear hL
      have HN := Lib.hid hno; clear hno
      go_wp2
      go_ret2
      exact ⟨by rw [HL.out]; rfl, hb⟩
  · have hL : readL s.data.toList = (0, false) := readL_no (fun h => h18 h.2.1)
    have hsz : (ByteArray.mk (readT s.data.toList).toArray).size = (readT s.data.toList).length := by simp [ByteArray.size]
    generalize hT : ByteArray.mk (readT s.data.toList).toArray = T at *
    have hTs : 18 < T.size := by omega
    clear hsz h18 hT ht
    have HL := Lib.hid hL; clear hL
    go_enter Tryz.func50, Tryz.ntmps50
    go_wp2_with fail
    refine HT.out.mono ?_
    rintro e w1 ⟨rfl, rfl⟩
    go_wp2
    go_ret2
    exact ⟨by rw [HL.out]; rfl, Below.refl _ _⟩

theorem valB_take (l : List UInt8) (k : Nat) (h : k < l.length) : valB (l.take (k + 1)) 0 = valB (l.take k) 0 * 10 + (l[k].toNat - 48) := by
  rw [← List.take_append_getElem h, valB, valB, List.foldl_append]
  rfl

theorem num_bd {l : List UInt8} {k : Nat} (h : (l.take k).all digB = true) (hk : k ≤ 18) : valB (l.take k) 0 < 10 ^ k := by
  have hlen : (l.take k).length ≤ k := by rw [List.length_take]; omega
  have h1 := (parse_ok (l.take k) 0 0 h (by simp) (by omega)).2
  exact Nat.lt_of_lt_of_le h1 (Nat.pow_le_pow_right (by omega) (by omega))

theorem digI_B (c : UInt8) : digitI (c.toNat : Nat) = digB c := by
  simp only [digitI, digB]
  congr 1
  · by_cases h : 48 ≤ c.toNat
    · simp [h]; omega
    · simp [h]; omega
  · by_cases h : c.toNat ≤ 57
    · simp [h]; omega
    · simp [h]; omega

set_option maxRecDepth 100000 in
set_option maxHeartbeats 1600000 in
theorem specNum_any (s : ByteArray) (hs : s.size ≤ 1000000) (w : World) :
    Calls Tryz.prog 55 #[.string s] w fun e w' => e = .returned (.tuple #[.int .i64 (readL s.data.toList).1, .bool (readL s.data.toList).2]) ∧ Below w.heap.size w w' := by
  have hsl : s.data.toList.length = s.size := Array.length_toList
  by_cases h0 : s.size = 0
  · have hl0 : s.data.toList = [] := List.eq_nil_of_length_eq_zero (by omega)
    have hL : readL s.data.toList = (0, false) := readL_no (fun h => by have := h.1; rw [hl0] at this; simp [readT] at this)
    have HL := Lib.hid hL; clear hL
    have hs0 : s = ByteArray.empty := by cases s with | mk d => simp [ByteArray.size] at h0; subst h0; rfl
    generalize hF : readL s.data.toList = F at *
    clear hF hl0 hsl
    subst hs0
    go_enter Tryz.func55, Tryz.ntmps55
    go_wp2
    go_ret2
    exact ⟨by rw [HL.out]; rfl, Below.refl _ _⟩
  · have hne : s.toList.isEmpty = false := by
      rw [ByteArray.toList_eq]
      cases hl : s.data.toList with
      | nil => rw [hl] at hsl; simp at hsl; omega
      | cons a l => rfl
    have h0' : 0 < s.size := by omega
    have hhead : s.data.toList.head? = some (s[0]'h0') := by
      cases hl : s.data.toList with
      | nil => rw [hl] at hsl; simp at hsl; omega
      | cons a l =>
        have : s.data.toList[0]'(by omega) = s[0]'h0' := by simp [ByteArray.getElem_eq_getElem_data]
        simp only [hl, List.getElem_cons_zero] at this
        simp [this]
    by_cases hc : s[0]'h0' = 45
    · have hcn : (((s[0]'h0').toNat : Nat) : Int) = 45 := by rw [hc]; rfl
      have hrt : readT s.data.toList = s.data.toList.tail := by rw [readT, hhead, hc, if_pos rfl]
      have hrn : readN s.data.toList = -(valB (readT s.data.toList) 0 : Int) := by rw [readN, hhead, hc, if_pos rfl]
      have hext : (s.extract 1 s.size).data.toList = s.data.toList.tail := by
        rw [ByteArray.data_extract, Array.toList_extract, List.extract, List.take_of_length_le (by rw [List.length_drop]; omega), List.drop_one]
      have hlt : (readT s.data.toList).length = s.size - 1 := by rw [hrt, List.length_tail]; omega
      by_cases h1 : s.size - 1 < 1
      · have hL : readL s.data.toList = (0, false) := readL_no (fun h => by have := h.1; omega)
        have HL := Lib.hid hL; clear hL hrt hrn hext hlt hhead
        go_enter Tryz.func55, Tryz.ntmps55
        go_wp2
        go_ret2
        exact ⟨by rw [HL.out]; rfl, Below.refl _ _⟩
      · by_cases h2 : 18 < s.size - 1
        · have hL : readL s.data.toList = (0, false) := readL_no (fun h => by have := h.2.1; omega)
          have HL := Lib.hid hL; clear hL hrt hrn hext hlt hhead
          go_enter Tryz.func55, Tryz.ntmps55
          go_wp2
          go_ret2
          exact ⟨by rw [HL.out]; rfl, Below.refl _ _⟩
        · have hT : readT s.data.toList = (s.extract 1 s.size).data.toList := by rw [hrt, hext]
          have hTz : (s.extract 1 s.size).size = s.size - 1 := by simp
          have HT := Lib.hid hT; clear hT
          have HN := Lib.hid (hrn.trans (by rw [HT.out] : _ = -(valB (s.extract 1 s.size).data.toList 0 : Int)))
          have hTl := Lib.hid (show (s.extract 1 s.size).data.toList.length = (s.extract 1 s.size).size from Array.length_toList)
          clear hrt hrn hext hlt hhead
          go_enter Tryz.func55, Tryz.ntmps55
          go_wp2_with fail
          generalize s.extract 1 s.size = T at *
          go_loopw [5, 6] (fun n i wr => ∃ k : Nat, k ≤ T.size ∧ i = .int .i64 k ∧ n = .int .i64 ((valB (T.data.toList.take k) 0 : Nat) : Int) ∧ (T.data.toList.take k).all digB = true ∧ Below w.heap.size w wr) (fun _ i _ => T.size - (intOf i).toNat)
          case atStart => exact ⟨0, by omega, rfl, rfl, rfl, Below.refl _ _⟩
          case round =>
            obtain ⟨k, hk, rfl, rfl, hall, hb⟩ := hrel
            by_cases hlt : k < T.size
            · have hkl : k < T.data.toList.length := by rw [hTl.out]; exact hlt
              have hgk : T.data.toList[k]'hkl = T[k]'hlt := by simp [ByteArray.getElem_eq_getElem_data]
              have hbd := num_bd hall (by omega)
              have hp17 : (10 : Nat) ^ k ≤ 10 ^ 17 := Nat.pow_le_pow_right (by omega) (by omega)
              have h17 : (10 : Nat) ^ 17 = 100000000000000000 := by decide
              have hstep := valB_take T.data.toList k hkl
              have hsall : digB (T.data.toList[k]'hkl) = true → (T.data.toList.take (k + 1)).all digB = true := fun h => by
                rw [← List.take_append_getElem hkl, List.all_append, hall, Bool.true_and, List.all_cons, h]
                rfl
              have hnall : digB (T.data.toList[k]'hkl) = false → readL s.data.toList = (0, false) := fun h => readL_no (fun hp => by
                have h2 := hp.2.2.1
                rw [HT.out] at h2
                have := List.all_eq_true.1 h2 _ (List.getElem_mem hkl)
                rw [h] at this
                cases this)
              rw [hgk] at hstep hsall hnall
              rw [← digI_B] at hsall hnall
              generalize valB (T.data.toList.take k) 0 = V at *
              have HALL := Lib.hid hall; clear hall
              have HST := Lib.hid hstep; clear hstep
              have HSA := Lib.hid hsall; clear hsall
              have HNA := Lib.hid hnall; clear hnall
              clear hgk
              have hV : V < 100000000000000000 := by omega
              clear hbd hp17 h17
              cases hd : digitI ((T[k]'hlt).toNat : Nat)
              · have HD := Lib.hid hd; clear hd
                go_wp2_with (go_at_call 71; refine (digit_any _ _).mono ?_; rw [HD.out]; rintro e w' ⟨rfl, rfl⟩)
                go_ret2
                exact ⟨by rw [HNA.out HD.out]; rfl, hb⟩
              · have hdd := hd
                simp only [digitI, Bool.and_eq_true, decide_eq_true_eq] at hdd
                have HD := Lib.hid hd; clear hd
                go_wp2_with (go_at_call 71; refine (digit_any _ _).mono ?_; rw [HD.out]; rintro e w' ⟨rfl, rfl⟩)
                go_roundw
                case rel => exact ⟨k + 1, by omega, by go_num, by rw [HST.out]; congr 1; omega, HSA.out HD.out, hb⟩
                case measure => simp [intOf]; omega
            · have hkk : k = T.size := by omega
              subst hkk
              rw [List.take_of_length_le (by rw [hTl.out]; exact Nat.le_refl _)] at hall ⊢
              have hbd := num_bd (l := T.data.toList) (k := T.size) (by rw [List.take_of_length_le (by rw [hTl.out]; exact Nat.le_refl _)]; exact hall) (by omega)
              rw [List.take_of_length_le (by rw [hTl.out]; exact Nat.le_refl _)] at hbd
              have hp18 : (10 : Nat) ^ T.size ≤ 10 ^ 18 := Nat.pow_le_pow_right (by omega) (by omega)
              have h18 : (10 : Nat) ^ 18 = 1000000000000000000 := by decide
              have hRN := HN.out
              have hno : ¬ Lib.itoa (-(valB T.data.toList 0 : Int)) = s.data.toList → readL s.data.toList = (0, false) := fun h => readL_no (fun hp => h (by rw [← hRN]; exact hp.2.2.2))
              have hyes : Lib.itoa (-(valB T.data.toList 0 : Int)) = s.data.toList → readL s.data.toList = (-(valB T.data.toList 0 : Int), true) := fun h => readL_yes h (by rw [HT.out, hTl.out]; omega)
              generalize valB T.data.toList 0 = V at *
              have hV : V < 1000000000000000000 := by omega
              clear hbd hp18 h18 hall hRN
              have HD := Lib.hid (specDec_any (-(V : Int)) (by omega))
              by_cases he : Lib.itoa (-(V : Int)) = s.data.toList
              · have hL := hyes he
                rw [he] at HD
                have hss : ByteArray.mk s.data.toList.toArray = s := by cases s; simp
                rw [hss] at HD
                have HL := Lib.hid hL; clear hL he hyes hno
                go_wp2_with fail
                refine (HD.out _).mono ?_
                rintro e w3 ⟨rfl, hb3⟩
                go_wp2
                go_ret2
                exact ⟨by rw [HL.out]; rfl, kept_trans hb hb3⟩
              · have hL := hno he
                have hne2 : ¬ ByteArray.mk (Lib.itoa (-(V : Int))).toArray = s := fun h => he (by rw [← h])
                generalize ByteArray.mk (Lib.itoa (-(V : Int))).toArray = G at *
                have hne3 := str_ne hne2
                have HL := Lib.hid hL; clear hL he hyes hno
                go_wp2_with fail
                refine (HD.out _).mono ?_
                rintro e w3 ⟨rfl, hb3⟩
                go_wp2
                go_ret2
                exact ⟨by rw [HL.out]; rfl, kept_trans hb hb3⟩
    · have hcn : ((((s[0]'h0').toNat : Nat) : Int) == 45) = false := by
        have : ¬ (s[0]'h0').toNat = 45 := fun h => hc (UInt8.toNat_inj.1 (by rw [h]; rfl))
        simp
        omega
      have hne45 : ¬ s.data.toList.head? = some 45 := by rw [hhead]; simpa using hc
      have hrt : readT s.data.toList = s.data.toList := by rw [readT, if_neg hne45]
      have hrn : readN s.data.toList = (valB (readT s.data.toList) 0 : Int) := by rw [readN, if_neg hne45]
      have hlt : (readT s.data.toList).length = s.size := by rw [hrt]; exact hsl
      by_cases h2 : 18 < s.size
      · have hL : readL s.data.toList = (0, false) := readL_no (fun h => by have := h.2.1; omega)
        have HL := Lib.hid hL; clear hL hrt hrn hlt hhead hne45
        go_enter Tryz.func55, Tryz.ntmps55
        go_wp2
        go_ret2
        exact ⟨by rw [HL.out]; rfl, Below.refl _ _⟩
      · have HT := Lib.hid hrt
        have HN := Lib.hid (hrn.trans (by rw [hrt] : _ = (valB s.data.toList 0 : Int)))
        have hTl := Lib.hid hsl
        clear hrt hrn hlt hhead hne45
        have hse : s = s := rfl
        go_enter Tryz.func55, Tryz.ntmps55
        go_wp2_with fail
        go_loopw [5, 6] (fun n i wr => ∃ k : Nat, k ≤ s.size ∧ i = .int .i64 k ∧ n = .int .i64 ((valB (s.data.toList.take k) 0 : Nat) : Int) ∧ (s.data.toList.take k).all digB = true ∧ Below w.heap.size w wr) (fun _ i _ => s.size - (intOf i).toNat)
        case atStart => exact ⟨0, by omega, rfl, rfl, rfl, Below.refl _ _⟩
        case round =>
          obtain ⟨k, hk, rfl, rfl, hall, hb⟩ := hrel
          by_cases hlt : k < s.size
          · have hkl : k < s.data.toList.length := by rw [hTl.out]; exact hlt
            have hgk : s.data.toList[k]'hkl = s[k]'hlt := by simp [ByteArray.getElem_eq_getElem_data]
            have hbd := num_bd hall (by omega)
            have hp17 : (10 : Nat) ^ k ≤ 10 ^ 17 := Nat.pow_le_pow_right (by omega) (by omega)
            have h17 : (10 : Nat) ^ 17 = 100000000000000000 := by decide
            have hstep := valB_take s.data.toList k hkl
            have hsall : digB (s.data.toList[k]'hkl) = true → (s.data.toList.take (k + 1)).all digB = true := fun h => by
              rw [← List.take_append_getElem hkl, List.all_append, hall, Bool.true_and, List.all_cons, h]
              rfl
            have hnall : digB (s.data.toList[k]'hkl) = false → readL s.data.toList = (0, false) := fun h => readL_no (fun hp => by
              have h2 := hp.2.2.1
              rw [HT.out] at h2
              have := List.all_eq_true.1 h2 _ (List.getElem_mem hkl)
              rw [h] at this
              cases this)
            rw [hgk] at hstep hsall hnall
            rw [← digI_B] at hsall hnall
            generalize valB (s.data.toList.take k) 0 = V at *
            have HALL := Lib.hid hall; clear hall
            have HST := Lib.hid hstep; clear hstep
            have HSA := Lib.hid hsall; clear hsall
            have HNA := Lib.hid hnall; clear hnall
            clear hgk
            have hV : V < 100000000000000000 := by omega
            clear hbd hp17 h17
            cases hd : digitI ((s[k]'hlt).toNat : Nat)
            · have HD := Lib.hid hd; clear hd
              go_wp2_with (go_at_call 71; refine (digit_any _ _).mono ?_; rw [HD.out]; rintro e w' ⟨rfl, rfl⟩)
              go_ret2
              exact ⟨by rw [HNA.out HD.out]; rfl, hb⟩
            · have hdd := hd
              simp only [digitI, Bool.and_eq_true, decide_eq_true_eq] at hdd
              have HD := Lib.hid hd; clear hd
              go_wp2_with (go_at_call 71; refine (digit_any _ _).mono ?_; rw [HD.out]; rintro e w' ⟨rfl, rfl⟩)
              go_roundw
              case rel => exact ⟨k + 1, by omega, by go_num, by rw [HST.out]; congr 1; omega, HSA.out HD.out, hb⟩
              case measure => simp [intOf]; omega
          · have hkk : k = s.size := by omega
            subst hkk
            rw [List.take_of_length_le (by rw [hTl.out]; exact Nat.le_refl _)] at hall ⊢
            have hbd := num_bd (l := s.data.toList) (k := s.size) (by rw [List.take_of_length_le (by rw [hTl.out]; exact Nat.le_refl _)]; exact hall) (by omega)
            rw [List.take_of_length_le (by rw [hTl.out]; exact Nat.le_refl _)] at hbd
            have hp18 : (10 : Nat) ^ s.size ≤ 10 ^ 18 := Nat.pow_le_pow_right (by omega) (by omega)
            have h18 : (10 : Nat) ^ 18 = 1000000000000000000 := by decide
            have hRN := HN.out
            have hno : ¬ Lib.itoa ((valB s.data.toList 0 : Int)) = s.data.toList → readL s.data.toList = (0, false) := fun h => readL_no (fun hp => h (by rw [← hRN]; exact hp.2.2.2))
            have hyes : Lib.itoa ((valB s.data.toList 0 : Int)) = s.data.toList → readL s.data.toList = ((valB s.data.toList 0 : Int), true) := fun h => readL_yes h (by rw [HT.out, hTl.out]; omega)
            generalize valB s.data.toList 0 = V at *
            have hV : V < 1000000000000000000 := by omega
            clear hbd hp18 h18 hall hRN
            have HD := Lib.hid (specDec_any ((V : Int)) (by omega))
            by_cases he : Lib.itoa ((V : Int)) = s.data.toList
            · have hL := hyes he
              rw [he] at HD
              have hss : ByteArray.mk s.data.toList.toArray = s := by cases s; simp
              rw [hss] at HD
              have HL := Lib.hid hL; clear hL he hyes hno
              go_wp2_with fail
              refine (HD.out _).mono ?_
              rintro e w3 ⟨rfl, hb3⟩
              go_wp2
              go_ret2
              exact ⟨by rw [HL.out]; rfl, kept_trans hb hb3⟩
            · have hL := hno he
              have hne2 : ¬ ByteArray.mk (Lib.itoa ((V : Int))).toArray = s := fun h => he (by rw [← h])
              generalize ByteArray.mk (Lib.itoa ((V : Int))).toArray = G at *
              have hne3 := str_ne hne2
              have HL := Lib.hid hL; clear hL he hyes hno
              go_wp2_with fail
              refine (HD.out _).mono ?_
              rintro e w3 ⟨rfl, hb3⟩
              go_wp2
              go_ret2
              exact ⟨by rw [HL.out]; rfl, kept_trans hb hb3⟩

theorem cat_size (l : List UInt8) : (ByteArray.mk l.toArray).size = l.length := by simp [ByteArray.size]

/-- The cells of a list of strings. -/
def strV (ss : List ByteArray) : List Value := ss.map Value.string

theorem strV_at (ss : List ByteArray) (k : Nat) (h : k < ss.length) : (strV ss)[k]? = some (.string ss[k]) := by simp [strV, h]

/-- The slice value reads as a list of strings. -/
def RdS (w : World) (v : Value) (ss : List ByteArray) : Prop := RdF w v ss.length 1 (strV ss)

theorem RdS_at {w : World} {v : Value} {ss : List ByteArray} (h : RdS w v ss) : ∃ A c, v = .slice A ss.length c ∧ ss.length ≤ 9223372036854775807 ∧
    ∀ k, (hk : k < ss.length) → ∃ b off, A = some ⟨b, off, none⟩ ∧ b < w.heap.size ∧ w.cell? ⟨b, off + k, none⟩ = some (.string ss[k]) := by
  obtain ⟨hl, hx, A, c, rfl, hr⟩ := h
  refine ⟨A, c, rfl, hl, fun k hk => ?_⟩
  obtain ⟨b, off, rfl, hlt, h0⟩ := hr k (by omega)
  rw [strV_at ss k hk] at h0
  exact ⟨b, off, rfl, hlt, h0⟩

/-- The pieces of a text between bytes c, from a byte on; the open one began at 'from'. -/
def restW (s : ByteArray) (c : UInt8) (pos beg : Nat) : List ByteArray :=
  if h : pos < s.size then (if s.data.toList.getD pos 0 = c then s.extract beg pos :: restW s c (pos + 1) (pos + 1) else restW s c (pos + 1) beg) else [s.extract beg s.size]
termination_by s.size - pos

def blankP (x : Nat) : Bool := decide (x = 32)

def neB (x : ByteArray) : Bool := decide (x.size ≠ 0)

theorem restW_no {s : ByteArray} {c : UInt8} {pos beg : Nat} (h : pos < s.size) (hc : s.data.toList.getD pos 0 ≠ c) : restW s c pos beg = restW s c (pos + 1) beg := by rw [restW, dif_pos h, if_neg hc]

theorem restW_yes {s : ByteArray} {c : UInt8} {pos beg : Nat} (h : pos < s.size) (hc : s.data.toList.getD pos 0 = c) : restW s c pos beg = s.extract beg pos :: restW s c (pos + 1) (pos + 1) := by rw [restW, dif_pos h, if_pos hc]

theorem restW_end (s : ByteArray) (c : UInt8) (beg : Nat) : restW s c s.size beg = [s.extract beg s.size] := by rw [restW, dif_neg (by omega)]

theorem restW_len (s : ByteArray) (c : UInt8) : ∀ n pos beg, s.size - pos = n → (restW s c pos beg).length ≤ n + 1 := by
  intro n
  induction n with
  | zero => intro pos beg h; rw [restW, dif_neg (by omega)]; simp
  | succ n ih =>
    intro pos beg h
    rw [restW, dif_pos (by omega)]
    split
    · have := ih (pos + 1) (pos + 1) (by omega)
      simp only [List.length_cons]
      omega
    · have := ih (pos + 1) beg (by omega)
      omega

theorem info_str : (Tryz.prog.info? 9).map (fun i => (i.zero, i.size, i.bytes)) = some (some (.string ⟨#[]⟩), 1, 16) := by kernel_rfl

/-- append of one string to a row of the call's own. -/
theorem wp_appendS {ops : Array Oper} {rest : List Oper} {o : Oper} {a : Act} {Q : Exit → Act → World → Prop} {W wr : World} (hgd : o.guard = none) (s x : Operand)
    (ho : o.op = .call { callee := .builtin .append, args := #[s, x], argTypes := #[69, 69] })
    (lo : Nat) (v : Value) (ss : List ByteArray) (z : ByteArray) (hs : a.eval s = v) (hrow : RowF 9 1 wr lo wr.heap.size v ss.length (strV ss)) (hx : a.eval x = .slice (some ⟨wr.heap.size, 0, none⟩) 1 1)
    (hW : Below W.heap.size W wr) (hlo : W.heap.size ≤ lo) (hlo2 : lo ≤ wr.heap.size) (hn : ss.length < 1000000000)
    (h : ∀ v' w', RowF 9 1 w' lo w'.heap.size v' (ss ++ [z]).length (strV (ss ++ [z])) → Below W.heap.size W w' → wr.heap.size ≤ w'.heap.size → wpList Tryz.prog ops Q rest (a.put o.dst v') w') :
    wpList Tryz.prog ops Q (o :: rest) a (wr.alloc (.cells #[.string z] 9)) := by
  obtain ⟨i0, hi, hz0, hz1, hz2⟩ := info_parts info_str
  refine wpList_append_own _ hgd s x _ ho lo 9 i0 (.string ⟨#[]⟩) 1 16 Tryz.underlying69 hi hz0 hz1 hz2 rfl (by decide) v ss.length _ hs (hrow.1.alloc _) ⟨wr.heap.size, 0, none⟩ 1 1 [.string z] hx rfl ?_ ?_ ?_ ?_ ?_ ?_
  · intro j u hj
    match j with
    | 0 => simp at hj; subst hj; simp [Addr.add]
    | j + 1 => simp at hj
  · intro u hu; simp at hu; subst hu; rfl
  · unfold maxLen; omega
  · omega
  · simp; omega
  · intro v' w' hown hg _
    rw [show strV ss ++ [Value.string z] = strV (ss ++ [z]) by simp [strV]] at hown
    have hrow' : RowF 9 1 w' lo w'.heap.size v' (ss ++ [z]).length (strV (ss ++ [z])) := ⟨by simpa using hown, hown.lt⟩
    refine h v' w' hrow' ?_ (Nat.le_trans (by simp) hg.size)
    refine grown_below (hW.alloc hW.size _) hg (fun g hg2 => ?_)
    have := (hrow.2 g hg2).1
    omega

set_option maxRecDepth 100000 in
theorem specSplit_any (s : ByteArray) (c : UInt8) (hs : s.size ≤ 1000000) (w : World) :
    Calls Tryz.prog 54 #[.string s, .int .u8 (c.toNat : Int)] w fun e w' => ∃ v, e = .returned v ∧ RowF 9 1 w' w.heap.size w'.heap.size v (restW s c 0 0).length (strV (restW s c 0 0)) ∧ Below w.heap.size w w' := by
  have hsl : s.data.toList.length = s.size := Array.length_toList
  have hlenW := restW_len s c s.size 0 0 rfl
  go_enter Tryz.func54, Tryz.ntmps54
  go_wp2_with fail
  go_loopw [5, 6, 7] (fun o b i wr => ∃ (k beg : Nat) (ps : List ByteArray) (ov : Value), k ≤ s.size ∧ beg ≤ k ∧ ov = o ∧ b = .int .i64 beg ∧ i = .int .i64 k ∧ RowF 9 1 wr w.heap.size wr.heap.size ov ps.length (strV ps) ∧ ps ++ restW s c k beg = restW s c 0 0 ∧ Below w.heap.size w wr) (fun _ _ i _ => s.size - (intOf i).toNat)
  case atStart => exact ⟨0, 0, [], _, by omega, by omega, rfl, rfl, rfl, ⟨World.ownsRow_lit w #[] 0 (Nat.le_refl _) (by decide) (by rfl), fun g hg => by simp [Value.ownBlock] at hg; subst hg; simp⟩, rfl, by go_grown⟩
  case round =>
    obtain ⟨k, beg, ps, ov, hk, hbk, ho, rfl, rfl, hrow, hps, hb⟩ := hrel
    subst ho
    have hsz := hb.size
    have hpl : ps.length ≤ 1000001 := by
      have := congrArg List.length hps
      simp only [List.length_append] at this
      omega
    by_cases hlt : k < s.size
    · have hgk : s.data.toList.getD k 0 = s[k]'hlt := by
        rw [List.getD_eq_getElem?_getD, List.getElem?_eq_getElem (by omega)]
        simp [ByteArray.getElem_eq_getElem_data]
      by_cases hc : s[k]'hlt = c
      · have hcn : ((((s[k]'hlt).toNat : Nat) : Int) == ((c.toNat : Nat) : Int)) = true := by rw [hc]; simp
        have hnx : ps ++ [s.extract beg k] ++ restW s c (k + 1) (k + 1) = restW s c 0 0 := by
          rw [← hps, restW_yes hlt (by rw [hgk]; exact hc)]
          simp
        have HR := Lib.hid hrow; clear hrow
        have HN := Lib.hid hnx; clear hnx hps hgk
        have HC := Lib.hid hc; clear hc
        go_wp2_with (at_builtin; refine wp_appendS rfl (.tmp 20) (.tmp 25) rfl w.heap.size _ ps (s.extract beg k) rfl HR.out rfl hb (Nat.le_refl _) hsz (by omega) ?_; intro v' w' hrow' hb' _)
        go_roundw
        case rel => exact ⟨k + 1, k + 1, ps ++ [s.extract beg k], v', by omega, by omega, rfl, by go_num, by go_num, hrow', HN.out, hb'⟩
        case measure => simp [intOf]; omega
      · have hcn : ((((s[k]'hlt).toNat : Nat) : Int) == ((c.toNat : Nat) : Int)) = false := by
          have : ¬ (s[k]'hlt).toNat = c.toNat := fun h => hc (UInt8.toNat_inj.1 h)
          simp
          omega
        have hnx : ps ++ restW s c (k + 1) beg = restW s c 0 0 := by rw [← hps, restW_no hlt (by rw [hgk]; exact hc)]
        have HR := Lib.hid hrow; clear hrow
        have HN := Lib.hid hnx; clear hnx hps hgk
        have HC := Lib.hid hc; clear hc
        go_wp2
        go_roundw
        case rel => exact ⟨k + 1, beg, ps, ov, by omega, by omega, rfl, rfl, by go_num, HR.out, HN.out, hb⟩
        case measure => simp [intOf]; omega
    · have hkk : k = s.size := by omega
      subst hkk
      rw [restW_end] at hps
      have HR := Lib.hid hrow; clear hrow
      have HN := Lib.hid hps; clear hps
      go_wp2_with (at_builtin; refine wp_appendS rfl (.tmp 29) (.tmp 33) rfl w.heap.size _ ps (s.extract beg s.size) rfl HR.out rfl hb (Nat.le_refl _) hsz (by omega) ?_; intro v' w' hrow' hb' _)
      go_ret
      exact ⟨_, rfl, by rw [← HN.out]; exact hrow', hb'⟩

theorem neB_str (x : ByteArray) : x.toList.isEmpty = !neB x := by
  rw [ByteArray.toList_eq]
  have : x.data.toList.length = x.size := Array.length_toList
  cases hl : x.data.toList with
  | nil =>
    rw [hl] at this
    have h0 : x.size = 0 := by simpa using this.symm
    simp [neB, h0]
  | cons a l =>
    rw [hl] at this
    have h0 : x.size ≠ 0 := by simp at this; omega
    simp [neB, h0]

theorem isBlank_any (x : Nat) (hx : x ≤ 1114111) (w : World) :
    Calls Tryz.prog 49 #[.int .i32 (x : Int)] w fun e w' => e = .returned (.bool (blankP x)) ∧ ∃ q, w' = w.drewN q := by
  unfold blankP
  by_cases h : x = 32
  · subst h
    go_enter Tryz.func49, Tryz.ntmps49
    go_wp2
    go_ret
    exact ⟨rfl, 0, rfl⟩
  · have h2 : ¬ ((x : Int) = 32) := by omega
    have h3 : ((x : Int) == 32) = false := by simpa using h2
    rw [decide_eq_false h]
    go_enter Tryz.func49, Tryz.ntmps49
    go_wp2
    go_ret
    exact ⟨rfl, 0, rfl⟩

theorem join2 (x y : List UInt8) (r : List (List UInt8)) (c : UInt8) : Lib.join (x :: y :: r) [c] = x ++ c :: Lib.join (y :: r) [c] := by
  rw [Lib.join_cons, Lib.join_cons]
  simp [Lib.joinTail]

theorem head_uniq (c : UInt8) : ∀ (x y A B : List UInt8), c ∉ x → c ∉ y → (A = [] ∨ ∃ r, A = c :: r) → (B = [] ∨ ∃ r, B = c :: r) → x ++ A = y ++ B → x = y ∧ A = B := by
  intro x
  induction x with
  | nil =>
    intro y A B hx hy hA hB h
    cases y with
    | nil => exact ⟨rfl, h⟩
    | cons b y =>
      rcases hA with rfl | ⟨r, rfl⟩
      · simp at h
      · simp at h
        exact absurd (by rw [h.1]; simp) hy
  | cons a x ih =>
    intro y A B hx hy hA hB h
    cases y with
    | nil =>
      rcases hB with rfl | ⟨r, rfl⟩
      · simp at h
      · simp at h
        exact absurd (by rw [h.1]; simp) hx
    | cons b y =>
      simp only [List.cons_append, List.cons.injEq] at h
      simp only [List.mem_cons, not_or] at hx hy
      obtain ⟨h1, h2⟩ := ih y A B hx.2 hy.2 hA hB h.2
      exact ⟨by rw [h.1, h1], h2⟩

theorem split_uniq (c : UInt8) : ∀ (ps qs : List (List UInt8)), ps ≠ [] → qs ≠ [] → (∀ x ∈ ps, c ∉ x) → (∀ x ∈ qs, c ∉ x) → Lib.join ps [c] = Lib.join qs [c] → ps = qs := by
  intro ps
  induction ps with
  | nil => intro qs h; exact absurd rfl h
  | cons x ps ih =>
    intro qs _ hq hp1 hq1 h
    cases qs with
    | nil => exact absurd rfl hq
    | cons y qs =>
      cases ps with
      | nil =>
        cases qs with
        | nil => simpa [Lib.join_one] using h
        | cons y2 qs =>
          rw [Lib.join_one, join2] at h
          have := hp1 x (by simp)
          rw [h] at this
          simp at this
      | cons x2 ps =>
        cases qs with
        | nil =>
          rw [Lib.join_one, join2] at h
          have := hq1 y (by simp)
          rw [← h] at this
          simp at this
        | cons y2 qs =>
          rw [join2, join2] at h
          obtain ⟨h1, h2⟩ := head_uniq c x y _ _ (hp1 x (by simp)) (hq1 y (by simp)) (Or.inr ⟨_, rfl⟩) (Or.inr ⟨_, rfl⟩) h
          rw [h1, ih (y2 :: qs) (by simp) (by simp) (fun z hz => hp1 z (by simp [List.mem_cons] at hz ⊢; exact Or.inr hz)) (fun z hz => hq1 z (by simp [List.mem_cons] at hz ⊢; exact Or.inr hz)) (by simpa using h2)]

theorem restW_ne (s : ByteArray) (c : UInt8) : ∀ n pos beg, s.size - pos = n → restW s c pos beg ≠ [] := by
  intro n
  induction n with
  | zero => intro pos beg h; rw [restW, dif_neg (by omega)]; simp
  | succ n ih =>
    intro pos beg h
    rw [restW, dif_pos (by omega)]
    split
    · simp
    · exact ih (pos + 1) beg (by omega)

theorem restW_join (s : ByteArray) (c : UInt8) : ∀ n pos beg, s.size - pos = n → beg ≤ pos → pos ≤ s.size → Lib.join ((restW s c pos beg).map fun x => x.data.toList) [c] = s.data.toList.drop beg := by
  have hl : s.data.toList.length = s.size := Array.length_toList
  intro n
  induction n with
  | zero =>
    intro pos beg h h1 h2
    obtain rfl : pos = s.size := by omega
    rw [restW_end, List.map_cons, List.map_nil, Lib.join_one, Lib.extract_eq]
    simp only []
    rw [List.take_of_length_le (by rw [List.length_drop, hl]; exact Nat.le_refl _)]
  | succ n ih =>
    intro pos beg h h1 h2
    by_cases hc : s.data.toList.getD pos 0 = c
    · rw [restW_yes (by omega) hc]
      have hih := ih (pos + 1) (pos + 1) (by omega) (Nat.le_refl _) (by omega)
      have hne := restW_ne s c n (pos + 1) (pos + 1) (by omega)
      generalize restW s c (pos + 1) (pos + 1) = R at *
      cases R with
      | nil => exact absurd rfl hne
      | cons y r =>
        rw [List.map_cons, List.map_cons, join2, ← List.map_cons (f := fun x : ByteArray => x.data.toList), hih, Lib.extract_eq]
        simp only []
        have hg : s.data.toList[pos]'(by omega) = c := by
          rw [← hc]
          simp [List.getD, List.getElem?_eq_getElem (show pos < s.data.toList.length by omega)]
        have hd : s.data.toList.drop pos = c :: s.data.toList.drop (pos + 1) := by
          rw [List.drop_eq_getElem_cons (by omega), hg]
        rw [← hd]
        have := List.take_append_drop (pos - beg) (s.data.toList.drop beg)
        rw [List.drop_drop, show beg + (pos - beg) = pos by omega] at this
        exact this
    · rw [restW_no (by omega) hc]
      exact ih (pos + 1) beg (by omega) (by omega) (by omega)

theorem restW_free (s : ByteArray) (c : UInt8) : ∀ n pos beg, s.size - pos = n → beg ≤ pos → pos ≤ s.size → (∀ j, beg ≤ j → j < pos → s.data.toList.getD j 0 ≠ c) → ∀ x ∈ restW s c pos beg, c ∉ x.data.toList := by
  have hl : s.data.toList.length = s.size := Array.length_toList
  have hex : ∀ beg pos, beg ≤ pos → pos ≤ s.size → (∀ j, beg ≤ j → j < pos → s.data.toList.getD j 0 ≠ c) → c ∉ (s.extract beg pos).data.toList := by
    intro beg pos h1 h2 h3 hm
    rw [Lib.extract_eq] at hm
    simp only [] at hm
    obtain ⟨j, hj, hv⟩ := List.mem_iff_getElem.1 hm
    simp only [List.length_take, List.length_drop] at hj
    rw [List.getElem_take, List.getElem_drop] at hv
    refine h3 (beg + j) (by omega) (by omega) ?_
    rw [← hv]
    simp [List.getD, List.getElem?_eq_getElem (show beg + j < s.data.toList.length by omega)]
  intro n
  induction n with
  | zero =>
    intro pos beg h h1 h2 h3 x hx
    obtain rfl : pos = s.size := by omega
    rw [restW_end] at hx
    simp at hx
    subst hx
    exact hex _ _ h1 h2 h3
  | succ n ih =>
    intro pos beg h h1 h2 h3 x hx
    by_cases hc : s.data.toList.getD pos 0 = c
    · rw [restW_yes (by omega) hc] at hx
      rcases List.mem_cons.1 hx with rfl | hx
      · exact hex _ _ h1 h2 h3
      · exact ih (pos + 1) (pos + 1) (by omega) (Nat.le_refl _) (by omega) (fun j h4 h5 => by omega) x hx
    · rw [restW_no (by omega) hc] at hx
      refine ih (pos + 1) beg (by omega) (by omega) (by omega) (fun j h4 h5 => ?_) x hx
      by_cases he : j = pos
      · subst he; exact hc
      · exact h3 j h4 (by omega)

theorem readL_back {l : List UInt8} (h : (readL l).2 = true) : Lib.itoa (readL l).1 = l := by
  by_cases hp : ReadP l
  · rw [readL, if_pos hp]
    exact hp.2.2.2
  · rw [readL_no hp] at h
    cases h

theorem restW_sz (s : ByteArray) (c : UInt8) : ∀ n pos beg, s.size - pos = n → ∀ x ∈ restW s c pos beg, x.size ≤ s.size := by
  have hex : ∀ a b, (s.extract a b).size ≤ s.size := fun a b => by rw [ByteArray.size_extract]; omega
  intro n
  induction n with
  | zero =>
    intro pos beg h x hx
    rw [restW, dif_neg (by omega)] at hx
    simp at hx
    subst hx
    exact hex _ _
  | succ n ih =>
    intro pos beg h x hx
    rw [restW, dif_pos (by omega)] at hx
    split at hx
    · rcases List.mem_cons.1 hx with rfl | hx
      · exact hex _ _
      · exact ih (pos + 1) (pos + 1) (by omega) x hx
    · exact ih (pos + 1) beg (by omega) x hx

theorem min_any (x y : Int) (w : World) :
    Calls Tryz.prog 77 #[.int .i64 x, .int .i64 y] w fun e w' => e = .returned (.int .i64 (min x y)) ∧ w = w' := by
  by_cases h : x < y
  · rw [show min x y = x by omega]
    go_enter Tryz.func77, Tryz.ntmps77
    go_wp2
    go_ret
    exact ⟨rfl, rfl⟩
  · rw [show min x y = y by omega]
    go_enter Tryz.func77, Tryz.ntmps77
    go_wp2
    go_ret
    exact ⟨rfl, rfl⟩

/-- The first place at which p holds; -1 if there is none. -/
def idxL {α : Type} (p : α → Bool) (zs : List α) : Int := if zs.findIdx p < zs.length then (zs.findIdx p : Int) else -1

theorem idxL_is {α : Type} {p : α → Bool} {zs : List α} {k : Nat} (h : k < zs.length) (hk : p zs[k] = true) (hb : ∀ j (hj : j < zs.length), j < k → p zs[j] = false) : idxL p zs = (k : Int) := by
  unfold idxL
  have e : zs.findIdx p = k := by
    rw [List.findIdx_eq h]
    exact ⟨hk, fun j hj => hb j (by omega) hj⟩
  rw [e, if_pos h]

theorem idxL_none {α : Type} {p : α → Bool} {zs : List α} (hb : ∀ j (hj : j < zs.length), p zs[j] = false) : idxL p zs = -1 := by
  unfold idxL
  have e : zs.findIdx p = zs.length := by
    rw [List.findIdx_eq_length]
    intro x hx
    obtain ⟨i, hi, rfl⟩ := List.mem_iff_getElem.1 hx
    exact hb i hi
  rw [e, if_neg (by omega)]

theorem idxL_any {α : Type} (p : α → Bool) (zs : List α) : decide (0 ≤ idxL p zs) = zs.any p := by
  unfold idxL
  by_cases h : zs.findIdx p < zs.length
  · rw [if_pos h]
    have := List.findIdx_lt_length.1 h
    simp
    obtain ⟨x, hx, hp⟩ := this
    exact ⟨x, hx, hp⟩
  · rw [if_neg h]
    have : ¬ ∃ x ∈ zs, p x = true := fun hx => h (List.findIdx_lt_length.2 hx)
    simp at this ⊢
    exact this

theorem idxL_bd {α : Type} (p : α → Bool) (zs : List α) : -1 ≤ idxL p zs ∧ idxL p zs ≤ zs.length := by
  unfold idxL
  split <;> omega

/-- A moment without its sign. -/
def tiltL (n : Int) : Int := max n (-n)

theorem three (p0 p1 p2 : Bool) : p0 = false ∨ (p0 = true ∧ p1 = false) ∨ (p0 = true ∧ p1 = true ∧ p2 = false) ∨ (p0 = true ∧ p1 = true ∧ p2 = true) := by
  cases p0 <;> cases p1 <;> cases p2 <;> simp

/-- The code of a base and of what is told about the other arguments. -/
def codeL3 (B : Bool) (bs : List Bool) : Int := if B then (if bs.all id then 0 else 2) else 1

theorem codeL3_ok {B : Bool} {bs : List Bool} (h : codeL3 B bs = 0) : B = true ∧ ∀ x ∈ bs, x = true := by
  unfold codeL3 at h
  cases B
  · simp at h
  · cases hb : bs.all id
    · rw [hb] at h; simp at h
    · exact ⟨rfl, fun x hx => by have := List.all_eq_true.1 hb x hx; simpa using this⟩

theorem specSize_any (n : Int) (h : -1000000000000000000 ≤ n ∧ n ≤ 1000000000000000000) (w : World) :
    Calls Tryz.prog 76 #[.int .i64 n] w fun e w' => e = .returned (.int .i64 (tiltL n)) ∧ w = w' := by
  unfold tiltL
  go_enter Tryz.func76, Tryz.ntmps76
  go_wp2_with (go_at_call 83; refine (max_any _ _ _).mono ?_; rintro e w1 ⟨rfl, rfl⟩)
  go_ret
  exact ⟨rfl, rfl⟩

theorem tilt_abs (n : Int) : tiltL n = (n.natAbs : Int) := by unfold tiltL; omega

/-- A fraction in lowest terms. -/
def lowL (n d : Int) : Int × Int := (n.tdiv (Nat.gcd n.natAbs d.natAbs : Nat), d.tdiv (Nat.gcd n.natAbs d.natAbs : Nat))

theorem tdiv_bd (n : Int) (g : Nat) (k : Int) (h : -k ≤ n ∧ n ≤ k) : -k ≤ n.tdiv g ∧ n.tdiv g ≤ k := by
  have := Int.natAbs_tdiv n g
  have h2 := Nat.div_le_self n.natAbs (g : Int).natAbs
  have h3 : (n.tdiv g).natAbs ≤ n.natAbs := by rw [this]; exact h2
  omega

theorem gcd_pos' (n d : Int) (hd : 0 < d) : 0 < Nat.gcd n.natAbs d.natAbs := Nat.gcd_pos_of_pos_right _ (by omega)

theorem gcd_step (x y : Nat) : Nat.gcd y (x % y) = Nat.gcd x y := by rw [Nat.gcd_comm x y, Nat.gcd_rec y x, Nat.gcd_comm]

theorem specGcd_any (x y : Nat) (hx : x ≤ 9000000000000000000) (hy : y ≤ 9000000000000000000) (w : World) :
    Calls Tryz.prog 75 #[.int .i64 x, .int .i64 y] w fun e w' => e = .returned (.int .i64 (Nat.gcd x y : Nat)) ∧ Below w.heap.size w w' := by
  have HE := Lib.hid (rfl : Nat.gcd x y = Nat.gcd x y)
  generalize hG : Nat.gcd x y = G at *
  have HG := Lib.hid hG; clear hG HE
  go_enter Tryz.func75, Tryz.ntmps75
  go_wp2_with fail
  go_loopw [0, 1] (fun u v wr => ∃ a b : Nat, a ≤ 9000000000000000000 ∧ b ≤ 9000000000000000000 ∧ u = .int .i64 a ∧ v = .int .i64 b ∧ Nat.gcd a b = G ∧ Below w.heap.size w wr) (fun _ v _ => (intOf v).toNat)
  case atStart => exact ⟨x, y, hx, hy, rfl, rfl, HG.out, Below.refl _ _⟩
  case round =>
    obtain ⟨a, b, ha, hb0, rfl, rfl, hgab, hb⟩ := hrel
    by_cases hz : b = 0
    · subst hz
      rw [Nat.gcd_zero_right] at hgab
      subst hgab
      go_wp2
      go_ret
      exact ⟨rfl, hb⟩
    · have b0 : ((b : Int) == 0) = false := by simp; omega
      have b1 : ¬ (b : Int) = 0 := by omega
      have b2 : ¬ (b : Int) = -1 := by omega
      have b3 : ((b : Int) != 0) = true := by simp; omega
      have b4 : decide (0 < b) = true := by simp; omega
      have e1 : (a : Int).tmod (b : Int) = ((a % b : Nat) : Int) := by rw [Int.tmod_eq_emod_of_nonneg (by omega)]; rfl
      have hlt := Nat.mod_lt a (show 0 < b by omega)
      have hgs := gcd_step a b
      rw [hgab] at hgs
      have HGS := Lib.hid hgs; clear hgs
      have hw1 : IntKind.i64.wrap ((a % b : Nat) : Int) = ((a % b : Nat) : Int) := IntWalk.i64_in _ (by omega)
      generalize a % b = t at *
      go_wp2_with fail
      go_quiet (fail)
      go_wp2
      go_roundw
      case rel => exact ⟨b, t, hb0, by omega, by go_num, by simp [e1], HGS.out, kept_drewN hb _⟩
      case measure => simp [intOf, e1]; omega

theorem implGcd_any (x y : Nat) (hx : x ≤ 9000000000000000000) (hy : y ≤ 9000000000000000000) (w : World) :
    Calls Tryz.prog 65 #[.int .i64 x, .int .i64 y] w fun e w' => e = .returned (.int .i64 (Nat.gcd x y : Nat)) ∧ Below w.heap.size w w' := by
  have HE := Lib.hid (rfl : Nat.gcd x y = Nat.gcd x y)
  generalize hG : Nat.gcd x y = G at *
  have HG := Lib.hid hG; clear hG HE
  go_enter Tryz.func65, Tryz.ntmps65
  go_wp2_with fail
  go_loopw [0, 1] (fun u v wr => ∃ a b : Nat, a ≤ 9000000000000000000 ∧ b ≤ 9000000000000000000 ∧ u = .int .i64 a ∧ v = .int .i64 b ∧ Nat.gcd a b = G ∧ Below w.heap.size w wr) (fun _ v _ => (intOf v).toNat)
  case atStart => exact ⟨x, y, hx, hy, rfl, rfl, HG.out, Below.refl _ _⟩
  case round =>
    obtain ⟨a, b, ha, hb0, rfl, rfl, hgab, hb⟩ := hrel
    by_cases hz : b = 0
    · subst hz
      rw [Nat.gcd_zero_right] at hgab
      subst hgab
      go_wp2
      go_ret
      exact ⟨rfl, hb⟩
    · have b0 : ((b : Int) == 0) = false := by simp; omega
      have b1 : ¬ (b : Int) = 0 := by omega
      have b2 : ¬ (b : Int) = -1 := by omega
      have b3 : ((b : Int) != 0) = true := by simp; omega
      have b4 : decide (0 < b) = true := by simp; omega
      have e1 : (a : Int).tmod (b : Int) = ((a % b : Nat) : Int) := by rw [Int.tmod_eq_emod_of_nonneg (by omega)]; rfl
      have hlt := Nat.mod_lt a (show 0 < b by omega)
      have hgs := gcd_step a b
      rw [hgab] at hgs
      have HGS := Lib.hid hgs; clear hgs
      have hw1 : IntKind.i64.wrap ((a % b : Nat) : Int) = ((a % b : Nat) : Int) := IntWalk.i64_in _ (by omega)
      generalize a % b = t at *
      go_wp2_with fail
      go_quiet (fail)
      go_wp2
      go_roundw
      case rel => exact ⟨b, t, hb0, by omega, by go_num, by simp [e1], HGS.out, kept_drewN hb _⟩
      case measure => simp [intOf, e1]; omega

theorem RdI_of (w : World) (g c : Nat) (zs : List Int) (hl : zs.length ≤ 9223372036854775807) (hg : g < w.heap.size) (hc : ∀ k, (hk : k < zs.length) → w.cell? ⟨g, k, none⟩ = some (.int .i64 zs[k])) : RdI w (.slice (some ⟨g, 0, none⟩) zs.length c) zs :=
  ⟨hl, _, _, rfl, fun k hk => ⟨g, 0, rfl, hg, by rw [Nat.zero_add]; exact hc k hk⟩⟩

theorem rdI1 {w : World} {g c : Nat} {x : Int} (hg : g < w.heap.size) (h0 : w.cell? ⟨g, 0, none⟩ = some (.int .i64 x)) : RdI w (.slice (some ⟨g, 0, none⟩) 1 c) [x] :=
  RdI_of w g c [x] (by simp) hg (fun k hk => by simp at hk; subst hk; exact h0)

theorem rdI2 {w : World} {g c : Nat} {x y : Int} (hg : g < w.heap.size) (h0 : w.cell? ⟨g, 0, none⟩ = some (.int .i64 x)) (h1 : w.cell? ⟨g, 1, none⟩ = some (.int .i64 y)) : RdI w (.slice (some ⟨g, 0, none⟩) 2 c) [x, y] :=
  RdI_of w g c [x, y] (by simp) hg (fun k hk => by
    match k, hk with
    | 0, _ => exact h0
    | 1, _ => exact h1)

set_option maxRecDepth 100000 in
theorem indexFuncI_any (v : Value) (zs : List Int) (g : FuncId) (he : Enters Tryz.prog g) (cap : Array Value) (p : Int → Bool) (w : World) (h : RdI w v zs)
    (hf : ∀ k (hk : k < zs.length) w1, Below w.heap.size w w1 → Calls Tryz.prog g (#[.int .i64 zs[k]] ++ cap) w1 fun e w2 => e = .returned (.bool (p zs[k])) ∧ Below w1.heap.size w1 w2) :
    Calls Tryz.prog 82 #[v, .func (.func g) #[] cap] w fun e w' => e = .returned (.int .i64 (idxL p zs)) ∧ Below w.heap.size w w' := by
  obtain ⟨hl, A, c, rfl, r1⟩ := h
  have R := Lib.hid r1; clear r1
  have Hf := Lib.hid hf; clear hf
  have HIS := Lib.hid (fun k (h : k < zs.length) => @idxL_is _ p zs k h)
  have HNO := Lib.hid (@idxL_none _ p zs)
  generalize idxL p zs = G at *
  go_enter Tryz.func82, Tryz.ntmps82
  go_wp2_with fail
  go_loopw [8] (fun i wr => ∃ k : Nat, k ≤ zs.length ∧ i = .int .i64 k ∧ (∀ j (hj : j < zs.length), j < k → p zs[j] = false) ∧ Below w.heap.size w wr) (fun i _ => zs.length - (intOf i).toNat)
  case atStart => exact ⟨0, by omega, rfl, fun j _ h => by omega, Below.refl _ _⟩
  case round =>
    obtain ⟨k, hk, rfl, hall, hb⟩ := hrel
    by_cases hlt : k < zs.length
    · obtain ⟨b, off, rfl, hbl, hc0⟩ := R.out k hlt
      rw [← kept_cell hb b _ hbl] at hc0
      have hc := Hf.out k hlt wr hb
      cases hp : p zs[k]
      · have hnx : ∀ j (hj : j < zs.length), j < k + 1 → p zs[j] = false := fun j hj hjk => by
          rcases Nat.lt_or_ge j k with h1 | h1
          · exact hall j hj h1
          · obtain rfl : j = k := by omega
            exact hp
        rw [hp] at hc
        have HNX := Lib.hid hnx; clear hnx hall hp
        have Hc := Lib.hid hc; clear hc
        generalize zs[k] = x at *
        go_wp2_with fail
        rw [he, Oper.upon_enter]
        refine Hc.out.mono ?_
        rintro e w1 ⟨rfl, hb1⟩
        go_wp2
        go_roundw
        case rel => exact ⟨k + 1, by omega, by go_num, HNX.out, kept_trans hb hb1⟩
        case measure => simp [intOf]; omega
      · have hE := HIS.out k hlt hp hall
        subst hE
        rw [hp] at hc
        have Hc := Lib.hid hc; clear hc hall hp
        generalize zs[k] = x at *
        go_wp2_with fail
        rw [he, Oper.upon_enter]
        refine Hc.out.mono ?_
        rintro e w1 ⟨rfl, hb1⟩
        go_wp2
        go_ret
        exact ⟨rfl, kept_trans hb hb1⟩
    · have : k = zs.length := by omega
      subst this
      have hE := HNO.out (fun j hj => hall j hj hj)
      clear hall
      subst hE
      go_wp2
      go_ret
      exact ⟨rfl, hb⟩

theorem containsFuncI_any (v : Value) (zs : List Int) (g : FuncId) (he : Enters Tryz.prog g) (cap : Array Value) (p : Int → Bool) (w : World) (h : RdI w v zs)
    (hf : ∀ k (hk : k < zs.length) w1, Below w.heap.size w w1 → Calls Tryz.prog g (#[.int .i64 zs[k]] ++ cap) w1 fun e w2 => e = .returned (.bool (p zs[k])) ∧ Below w1.heap.size w1 w2) :
    Calls Tryz.prog 72 #[v, .func (.func g) #[] cap] w fun e w' => e = .returned (.bool (zs.any p)) ∧ Below w.heap.size w w' := by
  have H := Lib.hid (indexFuncI_any v zs g he cap p w h hf)
  obtain ⟨hl, A, c, rfl, r1⟩ := h
  clear hf r1
  have hbd := idxL_bd p zs
  rw [← idxL_any]
  generalize idxL p zs = G at *
  go_enter Tryz.func72, Tryz.ntmps72
  go_wp2_with fail
  refine H.out.mono ?_
  rintro e w1 ⟨rfl, hb1⟩
  go_wp2
  go_ret
  exact ⟨rfl, hb1⟩

theorem outside_any (n lo hi : Int) (b1 b2 : Nat) (w : World) (h1 : w.cell? ⟨b1, 0, none⟩ = some (.int .i64 lo)) (h2 : w.cell? ⟨b2, 0, none⟩ = some (.int .i64 hi)) :
    Calls Tryz.prog 73 #[.int .i64 n, .pointer (some ⟨b1, 0, none⟩), .pointer (some ⟨b2, 0, none⟩)] w fun e w' => e = .returned (.bool (!inB n lo hi)) ∧ Below w.heap.size w w' := by
  unfold inB
  by_cases g1 : lo ≤ n <;> by_cases g2 : n ≤ hi
  all_goals
    go_enter Tryz.func73, Tryz.ntmps73
    go_wp2
    go_ret
    exact ⟨by simp [*], Below.refl _ _⟩

theorem within_any (lo hi : Int) (v : Value) (zs : List Int) (w : World) (h : RdI w v zs) :
    Calls Tryz.prog 57 #[.int .i64 lo, .int .i64 hi, v] w fun e w' => e = .returned (.bool (zs.all fun n => inB n lo hi)) ∧ Below w.heap.size w w' := by
  have hall : (zs.all fun n => inB n lo hi) = !(zs.any fun n => !inB n lo hi) := by simp [List.any_eq_not_all_not]
  rw [hall]
  clear hall
  have HC := Lib.hid (fun u (q : RdI u v zs) b1 b2 (l1 : b1 < u.heap.size) (l2 : b2 < u.heap.size) (c1 : u.cell? ⟨b1, 0, none⟩ = some (.int .i64 lo)) (c2 : u.cell? ⟨b2, 0, none⟩ = some (.int .i64 hi)) =>
    containsFuncI_any v zs 73 (enters_of Tryz.func73 (by kernel_rfl) rfl) #[.pointer (some ⟨b1, 0, none⟩), .pointer (some ⟨b2, 0, none⟩)] (fun n => !inB n lo hi) u q
      (fun k hk w1 hb => outside_any zs[k] lo hi b1 b2 w1 (by rw [kept_cell hb b1 0 l1]; exact c1) (by rw [kept_cell hb b2 0 l2]; exact c2)))
  obtain ⟨hl, A, c, rfl, r1⟩ := h
  have H := Lib.hid (show RdI w (.slice A zs.length c) zs from ⟨hl, A, c, rfl, r1⟩); clear r1
  generalize (zs.any fun n => !inB n lo hi) = X at *
  have hmf : ∀ (fn : Fn) (first cap : Array Value) (w : World), (Instr.makeFunc fn first cap).run Tryz.prog w = .ok (.func fn first cap) w := fun _ _ _ _ => rfl
  go_enter Tryz.func57, Tryz.ntmps57
  go_wp2_with fail
  refine (HC.out _ (RdI_kept H.out (by go_grown)) w.heap.size (w.heap.size + 1) (by simp; try omega) (by simp) (by simp) (by simp)).mono ?_
  rintro e w1 ⟨rfl, hb1⟩
  have b1 := kept_trans (a := w) (by go_grown) hb1
  go_wp2
  go_ret
  exact ⟨rfl, b1⟩

theorem specMake_any (n d : Int) (hn : -1000000000000000000 ≤ n ∧ n ≤ 1000000000000000000) (hd : 1 ≤ d ∧ d ≤ 1000000000000000000) (w : World) :
    Calls Tryz.prog 63 #[.int .i64 n, .int .i64 d] w fun e w' => e = .returned (.agg #[.int .i64 (lowL n d).1, .int .i64 (lowL n d).2]) ∧ Below w.heap.size w w' := by
  have hp := gcd_pos' n d (by omega)
  have hle := Nat.gcd_le_right n.natAbs (show 0 < d.natAbs by omega)
  have hq1 := tdiv_bd n (Nat.gcd n.natAbs d.natAbs) 1000000000000000000 hn
  have hq2 := tdiv_bd d (Nat.gcd n.natAbs d.natAbs) 1000000000000000000 (by omega)
  have HA := Lib.hid (fun u => specSize_any n (by omega) u)
  have HG := specGcd_any n.natAbs d.natAbs (by omega) (by omega)
  rw [tilt_abs, show ((d.natAbs : Nat) : Int) = d by omega] at *
  unfold lowL
  generalize Nat.gcd n.natAbs d.natAbs = g at *
  have HG := Lib.hid HG
  have g0 : ((g : Int) == 0) = false := by simp; omega
  have g1 : ¬ (g : Int) = 0 := by omega
  have g2 : ¬ (g : Int) = -1 := by omega
  have w1 : IntKind.i64.wrap (n.tdiv g) = n.tdiv g := IntWalk.i64_in _ (by omega)
  have w2 : IntKind.i64.wrap (d.tdiv g) = d.tdiv g := IntWalk.i64_in _ (by omega)
  generalize hX : n.tdiv g = X at *
  generalize hY : d.tdiv g = Y at *
  have HX := Lib.hid hX; clear hX
  have HY := Lib.hid (show d / (g : Int) = Y by rw [← hY, Int.tdiv_eq_ediv_of_nonneg (by omega)]); clear hY
  go_enter Tryz.func63, Tryz.ntmps63
  go_wp2_with fail
  refine (HA.out _).mono ?_
  rintro e w1 ⟨rfl, rfl⟩
  go_wp2_with fail
  refine (HG.out _).mono ?_
  rintro e w2 ⟨rfl, hb2⟩
  refine kept_at hb2 w.heap.size (by go_size) fun c2_0 z2_0 s2_0 => ?_
  have b2 := kept_trans (a := w) (by go_grown) hb2
  go_wp2_with fail
  go_region
  all_goals
    go_wp2
    (try simp only [Exit.inBlock, Exit.then])
    refine bodyPost_ret (v := .agg #[.int .i64 X, .int .i64 Y]) ?_ rfl ⟨rfl, ?_⟩
    · rw [results_cell1 rfl]
      go_simp
      exact ⟨HX.out, HY.out⟩
    · go_grown

theorem mul_ge (a b p q : Int) (h1 : 0 ≤ p ∧ p ≤ a) (h2 : 0 ≤ q ∧ q ≤ b) : p * q ≤ a * b := Int.mul_le_mul h1.2 h2.2 h2.1 (by omega)

theorem four (p0 p1 p2 p3 : Bool) : p0 = false ∨ (p0 = true ∧ p1 = false) ∨ (p0 = true ∧ p1 = true ∧ p2 = false) ∨ (p0 = true ∧ p1 = true ∧ p2 = true ∧ p3 = false) ∨ (p0 = true ∧ p1 = true ∧ p2 = true ∧ p3 = true) := by
  cases p0 <;> cases p1 <;> cases p2 <;> cases p3 <;> simp

set_option maxHeartbeats 2000000 in
theorem lowest_any (n d : Int) (hn : -1000000000000000000 ≤ n ∧ n ≤ 1000000000000000000) (hd : 1 ≤ d ∧ d ≤ 1000000000000000000) (w : World) :
    Calls Tryz.prog 41 #[.agg #[.int .i64 n, .int .i64 d]] w fun e w' => e = .returned (.agg #[.int .i64 (lowL n d).1, .int .i64 (lowL n d).2]) ∧ Below w.heap.size w w' := by
  have hp := gcd_pos' n d (by omega)
  have hle := Nat.gcd_le_right n.natAbs (show 0 < d.natAbs by omega)
  have hq1 := tdiv_bd n (Nat.gcd n.natAbs d.natAbs) 1000000000000000000 hn
  have hq2 := tdiv_bd d (Nat.gcd n.natAbs d.natAbs) 1000000000000000000 (by omega)
  have HG := implGcd_any n.natAbs d.natAbs (by omega) (by omega)
  rw [← tilt_abs, show ((d.natAbs : Nat) : Int) = d by omega] at HG
  have HM : tiltL n = n ∨ tiltL n = -n := by unfold tiltL; omega
  unfold lowL
  generalize Nat.gcd n.natAbs d.natAbs = g at *
  have HG1 := Lib.hid (fun (h : ¬ n < -n) => show _ from by rw [show tiltL n = n by unfold tiltL; omega] at HG; exact HG)
  have HG2 := Lib.hid (fun (h : n < -n) => show _ from by rw [show tiltL n = -n by unfold tiltL; omega] at HG; exact HG)
  have HG3 := Lib.hid (show _ from by rw [show tiltL n = max n (-n) by unfold tiltL; omega] at HG; exact HG)
  clear HG HM
  have g0 : ((g : Int) == 0) = false := by simp; omega
  have g1 : ¬ (g : Int) = 0 := by omega
  have g2 : ¬ (g : Int) = -1 := by omega
  have w1 : IntKind.i64.wrap (n.tdiv g) = n.tdiv g := IntWalk.i64_in _ (by omega)
  have w2 : IntKind.i64.wrap (d.tdiv g) = d.tdiv g := IntWalk.i64_in _ (by omega)
  generalize hX : n.tdiv g = X at *
  generalize hY : d.tdiv g = Y at *
  have HX := Lib.hid hX; clear hX
  have HY := Lib.hid (show d / (g : Int) = Y by rw [← hY, Int.tdiv_eq_ediv_of_nonneg (by omega)]); clear hY
  go_enter Tryz.func41, Tryz.ntmps41
  go_wp2_with fail
  first
    | (case' inl =>
        refine (HG2.out (by omega) _).mono ?_
        rintro e w2 ⟨rfl, hb2⟩
        refine kept_at hb2 w.heap.size (by go_size) fun c2_0 z2_0 s2_0 => ?_
        refine kept_at hb2 (w.heap.size + 1) (by go_size) fun c2_1 z2_1 s2_1 => ?_
        have b2 := kept_trans (a := w) (by go_grown) hb2
        go_wp2_with fail
        go_region
        all_goals
          go_wp2
          (try simp only [Exit.inBlock, Exit.then])
          refine bodyPost_ret (v := .agg #[.int .i64 X, .int .i64 Y]) ?_ rfl ⟨rfl, ?_⟩
          · rw [results_cell1 rfl]
            go_simp
            first
              | exact ⟨HX.out, HY.out⟩
              | exact ⟨by rw [← HX.out, Int.tdiv_eq_ediv_of_nonneg (by omega)], HY.out⟩
          · go_grown
       all_goals
        refine (HG1.out (by omega) _).mono ?_
        rintro e w2 ⟨rfl, hb2⟩
        refine kept_at hb2 w.heap.size (by go_size) fun c2_0 z2_0 s2_0 => ?_
        refine kept_at hb2 (w.heap.size + 1) (by go_size) fun c2_1 z2_1 s2_1 => ?_
        have b2 := kept_trans (a := w) (by go_grown) hb2
        go_wp2_with fail
        go_region
        all_goals
          go_wp2
          (try simp only [Exit.inBlock, Exit.then])
          refine bodyPost_ret (v := .agg #[.int .i64 X, .int .i64 Y]) ?_ rfl ⟨rfl, ?_⟩
          · rw [results_cell1 rfl]
            go_simp
            first
              | exact ⟨HX.out, HY.out⟩
              | exact ⟨by rw [← HX.out, Int.tdiv_eq_ediv_of_nonneg (by omega)], HY.out⟩
          · go_grown)
    | (
       refine (HG3.out _).mono ?_
       rintro e w2 ⟨rfl, hb2⟩
       refine kept_at hb2 w.heap.size (by go_size) fun c2_0 z2_0 s2_0 => ?_
       refine kept_at hb2 (w.heap.size + 1) (by go_size) fun c2_1 z2_1 s2_1 => ?_
       have b2 := kept_trans (a := w) (by go_grown) hb2
       go_wp2_with fail
       go_region
       all_goals
         go_wp2
         (try simp only [Exit.inBlock, Exit.then])
         refine bodyPost_ret (v := .agg #[.int .i64 X, .int .i64 Y]) ?_ rfl ⟨rfl, ?_⟩
         · rw [results_cell1 rfl]
           go_simp
           first
             | exact ⟨HX.out, HY.out⟩
             | exact ⟨by rw [← HX.out, Int.tdiv_eq_ediv_of_nonneg (by omega)], HY.out⟩
         · go_grown)

theorem below_grown {u v : World} (h : Below u.heap.size u v) (row : Option Nat) : u.grownBy v row := ⟨h.os, h.tape, h.output, h.size, fun i hi _ => h.block i hi⟩

/-- A source of choices in block B, its bytes in a block before L, at most N bytes on. -/
def Src (w : World) (L B N : Nat) : Prop := L ≤ B ∧ ∃ A n c, (∀ k, k < n → ∃ b off z, A = some ⟨b, off, none⟩ ∧ b < L ∧ b < w.heap.size ∧ w.cell? ⟨b, off + k, none⟩ = some (.int .u8 z) ∧ 0 ≤ z ∧ z ≤ 255) ∧ n ≤ 1000000 ∧ ∃ M, M ≤ N ∧ SrcAt w B (.slice A n c) M

theorem Src_lt {w : World} {L B N : Nat} (h : Src w L B N) : B < w.heap.size := by
  obtain ⟨_, A, n, c, _, _, M, _, s, _, _, hb⟩ := h
  exact World.block_lt_of_cell? _ _ (cell_of_row w B 1 _ _ _ hb)

theorem Src_grown {w w1 : World} {L B N : Nat} {row : Option Nat} (h : Src w L B N) (hg : w.grownBy w1 row) (hr : ∀ g, row = some g → L ≤ g ∧ g ≠ B) : Src w1 L B N := by
  have hB := Src_lt h
  obtain ⟨hL, A, n, c, hr0, hn, M, hM, s, s0, s1, hb⟩ := h
  refine ⟨hL, A, n, c, fun k hk => ?_, hn, M, hM, s, s0, s1, ?_⟩
  · obtain ⟨b, off, z, e, hlt, hlw, hc, z0, z1⟩ := hr0 k hk
    exact ⟨b, off, z, e, hlt, Nat.lt_of_lt_of_le hlw hg.size, hg.cell hc (fun e => by have := hr b e.symm; omega), z0, z1⟩
  · rw [hg.block B hB (fun e => (hr B e.symm).2 rfl)]
    exact hb

theorem Src_below {w w1 : World} {L B N : Nat} (h : Src w L B N) (hb : Below w.heap.size w w1) : Src w1 L B N := Src_grown h (below_grown hb none) (fun g hg => by cases hg)

theorem Src_set {w : World} {L B N p o : Nat} {v : Value} (h : Src w L B N) (h1 : L ≤ p) (h2 : p ≠ B) : Src (w.setCell ⟨p, o, none⟩ v) L B N := Src_grown h (grown_set _ _ _) (fun g hg => by injection hg with hg; subst hg; exact ⟨h1, h2⟩)

theorem Src_more {w : World} {L B N K : Nat} (h : Src w L B N) (hk : N ≤ K) : Src w L B K := by
  obtain ⟨hL, A, n, c, hr0, hn, M, hM, r⟩ := h
  exact ⟨hL, A, n, c, hr0, hn, M, by omega, r⟩

theorem nextS_any (L B N : Nat) (w : World) (h : Src w L B N) (hN : N < 900000000) :
    Calls Tryz.prog 74 #[.pointer (some ⟨B, 0, none⟩)] w fun e w' => ∃ x : Int, (0 ≤ x ∧ x ≤ 255) ∧ e = .returned (.int .i64 x) ∧ Src w' L B (N + 1) ∧ w.grownBy w' (some B) := by
  obtain ⟨hL, A, n, c, hr0, hn, M, hM, hs⟩ := h
  have hrb : RdB w A n B := fun k hk => by
    obtain ⟨b, off, z, e, hlt, hlw, hc, z0, z1⟩ := hr0 k hk
    exact ⟨b, off, z, e, hlw, by omega, hc, z0, z1⟩
  refine (next_any B A n c M w hs hrb (by omega) hn).mono ?_
  rintro e w' ⟨x, x0, x1, rfl, hs', hg⟩
  refine ⟨x, ⟨x0, x1⟩, rfl, ⟨hL, A, n, c, fun k hk => ?_, hn, M + 1, by omega, hs'⟩, hg⟩
  obtain ⟨b, off, z, e, hlt, hlw, hc, z0, z1⟩ := hr0 k hk
  exact ⟨b, off, z, e, hlt, Nat.lt_of_lt_of_le hlw hg.size, hg.cell hc (fun e => (show b ≠ B by omega) (by injection e)), z0, z1⟩

theorem pickS_any (L B N : Nat) (m : Int) (w : World) (h : Src w L B N) (hN : N < 800000000) (hm : -1000000 ≤ m ∧ m ≤ 1000000) :
    Calls Tryz.prog 58 #[.pointer (some ⟨B, 0, none⟩), .int .i64 m] w fun e w' => ∃ x : Int, (0 ≤ x ∧ x ≤ 1000000 ∧ (1 ≤ m → x < m)) ∧ e = .returned (.int .i64 x) ∧ Src w' L B (N + 2) ∧ w.grownBy w' (some B) := by
  by_cases h1 : m ≤ 1
  · go_enter Tryz.func58, Tryz.ntmps58
    go_wp2
    go_ret
    exact ⟨0, by omega, rfl, Src_more h (by omega), World.grownBy.refl _ _⟩
  have hne : (m == 0) = false := by simp; omega
  have hm0 : ¬ m = 0 := by omega
  have hm1 : ¬ m = -1 := by omega
  by_cases h2 : 200 < m
  · have H := Lib.hid h; clear h
    go_enter Tryz.func58, Tryz.ntmps58
    go_wp2_with fail
    refine (nextS_any L B N _ H.out (by omega)).mono ?_
    rintro e w1 ⟨x, hx, rfl, hs1, hg1⟩
    have HS1 := Lib.hid hs1; clear hs1
    go_wp2_with fail
    refine (nextS_any L B (N + 1) _ HS1.out (by omega)).mono ?_
    rintro e w2 ⟨y, hy, rfl, hs2, hg2⟩
    have hrem : (x * 256 + y).tmod m = (x * 256 + y) % m := tmod_pos _ _ (by omega)
    have h0 := Int.emod_nonneg (x * 256 + y) hm0
    have h1' := Int.emod_lt_of_pos (x * 256 + y) (show 0 < m by omega)
    have HREM := Lib.hid hrem; clear hrem
    have HS2 := Lib.hid hs2; clear hs2
    go_wp2
    go_ret
    refine ⟨(x * 256 + y) % m, ⟨h0, by omega, fun _ => h1'⟩, ?_, HS2.out, grown_step hg1 hg2⟩
    first | rfl | (show Ending.returned _ = _; simp [HREM.out])
  · have H := Lib.hid h; clear h
    go_enter Tryz.func58, Tryz.ntmps58
    go_wp2_with fail
    refine (nextS_any L B N _ H.out (by omega)).mono ?_
    rintro e w1 ⟨x, hx, rfl, hs1, hg1⟩
    have hrem : x.tmod m = x % m := tmod_pos _ _ (by omega)
    have h0 := Int.emod_nonneg x hm0
    have h1' := Int.emod_lt_of_pos x (show 0 < m by omega)
    have HREM := Lib.hid hrem; clear hrem
    have HS1 := Lib.hid hs1; clear hs1
    go_wp2
    go_ret
    refine ⟨x % m, ⟨h0, by omega, fun _ => h1'⟩, ?_, Src_more HS1.out (by omega), hg1⟩
    first | rfl | (show Ending.returned _ = _; simp [HREM.out])

theorem oneS_any (L B N : Nat) (m : Int) (w : World) (h : Src w L B N) (hN : N < 800000000) (hm : -1000000 ≤ m ∧ m ≤ 1000000) :
    Calls Tryz.prog 52 #[.pointer (some ⟨B, 0, none⟩), .int .i64 m] w fun e w' => ∃ x : Bool, e = .returned (.bool x) ∧ Src w' L B (N + 2) ∧ w.grownBy w' (some B) := by
  have H := Lib.hid h; clear h
  go_enter Tryz.func52, Tryz.ntmps52
  go_wp2_with fail
  refine (pickS_any L B N m _ H.out (by omega) hm).mono ?_
  rintro e w1 ⟨x, hx, rfl, hs1, hg1⟩
  have HS1 := Lib.hid hs1; clear hs1
  go_wp2
  go_ret
  exact ⟨_, rfl, HS1.out, hg1⟩

theorem amongS_any (L B N : Nat) (v : Value) (zs : List Int) (w : World) (h : Src w L B N) (hN : N < 800000000) (hr : RdI w v zs) (h0 : 1 ≤ zs.length) (h1 : zs.length ≤ 1000) (hv : ∀ A n c, v = .slice A n c → ∀ b off, A = some ⟨b, off, none⟩ → b ≠ B) :
    Calls Tryz.prog 59 #[.pointer (some ⟨B, 0, none⟩), v] w fun e w' => ∃ x : Int, x ∈ zs ∧ e = .returned (.int .i64 x) ∧ Src w' L B (N + 2) ∧ w.grownBy w' (some B) := by
  obtain ⟨hl, A, c, rfl, r1⟩ := hr
  have H := Lib.hid h; clear h
  have R := Lib.hid r1; clear r1
  have HV := Lib.hid (hv A zs.length c rfl); clear hv
  go_enter Tryz.func59, Tryz.ntmps59
  go_wp2_with fail
  refine (pickS_any L B N _ _ H.out (by omega) (by omega)).mono ?_
  rintro e w1 ⟨x, hx, rfl, hs1, hg1⟩
  obtain ⟨k, rfl⟩ : ∃ k : Nat, x = (k : Int) := ⟨x.toNat, by omega⟩
  have hk : k < zs.length := by have := hx.2.2 (by omega); omega
  obtain ⟨b, off, rfl, hbl, hc⟩ := R.out k hk
  have hc1 := hg1.cell hc (fun e => by injection e with e; exact HV.out b off rfl e)
  have HS1 := Lib.hid hs1; clear hs1 hc
  have hmem : zs[k] ∈ zs := List.getElem_mem hk
  generalize zs[k] = z at *
  go_wp2
  go_ret
  exact ⟨z, hmem, rfl, HS1.out, hg1⟩

theorem grown_new {w w1 : World} {row : Option Nat} (hg : w.grownBy w1 row) {p o : Nat} (hp : w.heap.size ≤ p) (v : Value) : w.grownBy (w1.setCell ⟨p, o, none⟩ v) row :=
  ⟨hg.os, hg.tape, hg.output, by simp [World.setCell]; exact hg.size, fun k hk hne => by rw [heap_setCell_other _ _ _ _ (show k ≠ p by omega)]; exact hg.block k hk hne⟩

theorem RdI_lit (u : World) (t : TypeId) (zs : List Int) (hl : zs.length ≤ 9223372036854775807) : RdI (u.alloc (.cells (zs.map (Value.int .i64)).toArray t)) (.slice (some ⟨u.heap.size, 0, none⟩) zs.length zs.length) zs :=
  RdI_of _ _ _ zs hl (by simp) (fun k hk => by
    rw [cell_of_row _ _ k _ _ _ (heap_alloc_new u _)]
    simp [hk])

set_option maxHeartbeats 1000000 in
theorem drawLoad_any (L B N : Nat) (w : World) (h : Src w L B N) (hN : N < 700000000) :
    Calls Tryz.prog 27 #[.pointer (some ⟨B, 0, none⟩)] w fun e w' => ∃ x : Int, e = .returned (.int .i64 x) ∧ Src w' L B (N + 4) ∧ w.grownBy w' (some B) := by
  have H := Lib.hid h; clear h
  go_enter Tryz.func27, Tryz.ntmps27
  go_wp2_with fail
  refine (oneS_any L B N _ _ H.out (by omega) (by omega)).mono ?_
  rintro e w1 ⟨x, rfl, hs1, hg1⟩
  have S1 := Lib.hid hs1; clear hs1
  have hB := Src_lt S1.out
  cases x
  · go_wp2_with fail
    refine (pickS_any L B (N + 2) _ _ S1.out (by omega) (by omega)).mono ?_
    rintro e w2 ⟨y, hy, rfl, hs2, hg2⟩
    have S2 := Lib.hid hs2; clear hs2
    go_wp2
    go_ret
    exact ⟨_, rfl, S2.out, grown_step hg1 hg2⟩
  · have hr : RdI (w1.alloc (.cells #[.int .i64 (-1), .int .i64 0, .int .i64 50000, .int .i64 50001, .int .i64 9223372036854775807] 2)) (.slice (some ⟨w1.heap.size, 0, none⟩) 5 5) [-1, 0, 50000, 50001, 9223372036854775807] := RdI_lit w1 2 [-1, 0, 50000, 50001, 9223372036854775807] (by simp)
    have hb : Below w1.heap.size w1 (w1.alloc (.cells #[.int .i64 (-1), .int .i64 0, .int .i64 50000, .int .i64 50001, .int .i64 9223372036854775807] 2)) := by go_grown
    go_wp2_with fail
    refine (amongS_any L B (N + 2) _ [-1, 0, 50000, 50001, 9223372036854775807] _ (Src_below S1.out hb) (by omega) hr (by simp) (by simp) (fun A n c e b off e2 => by injection e with e; rw [e2] at e; injection e with e; injection e with e; omega)).mono ?_
    rintro e w2 ⟨y, hy, rfl, hs2, hg2⟩
    have S2 := Lib.hid hs2; clear hs2
    go_wp2
    go_ret
    exact ⟨_, rfl, S2.out, grown_step hg1 (grown_step (below_grown hb _) hg2)⟩

theorem Src_from {w : World} {A : Option Addr} {n c : Nat} (h : RdC w A n) (hn : n ≤ 1000000) : Src (w.alloc (.cells #[.slice A n c, .int .i64 0, .int .u64 0] 83)) w.heap.size w.heap.size 0 :=
  ⟨Nat.le_refl _, A, n, c, fun k hk => by
    obtain ⟨b, off, z, e, hlt, hc, z0, z1⟩ := h k hk
    exact ⟨b, off, z, e, hlt, by simp; omega, by rw [World.cell?_alloc_past _ _ _ hlt]; exact hc, z0, z1⟩, hn, 0, Nat.le_refl _, 0, by omega, by omega, heap_alloc_new w _⟩

theorem low_mul (n d : Int) (hd : 0 < d) : ∃ g : Int, 0 < g ∧ n = (lowL n d).1 * g ∧ d = (lowL n d).2 * g := by
  have hp := gcd_pos' n d hd
  refine ⟨(Nat.gcd n.natAbs d.natAbs : Nat), by omega, ?_, ?_⟩
  · unfold lowL
    rw [Int.tdiv_mul_cancel (Int.ofNat_dvd_left.2 (Nat.gcd_dvd_left _ _))]
  · unfold lowL
    rw [Int.tdiv_mul_cancel (Int.ofNat_dvd_left.2 (Nat.gcd_dvd_right _ _))]

/-- A fraction that fills a block. -/
def FrBox (w : World) (p : Nat) (x y : Int) : Prop := w.heap[p]? = some (.cells #[.int .i64 x, .int .i64 y] 35 (0, 0))

theorem FrBox_lt {w : World} {p : Nat} {x y : Int} (h : FrBox w p x y) : p < w.heap.size := World.block_lt_of_cell? _ _ (cell_of_row w p 0 _ _ _ h)

theorem FrBox_kept {W w1 : World} {p : Nat} {x y : Int} (h : FrBox W p x y) (hb : Below W.heap.size W w1) : FrBox w1 p x y := by
  unfold FrBox
  rw [hb.block p (FrBox_lt h)]
  exact h

theorem FrBox_at {w : World} {p : Nat} {x y : Int} (h : FrBox w p x y) : w.cell? ⟨p, 0, none⟩ = some (.int .i64 x) ∧ w.cell? ⟨p, 1, none⟩ = some (.int .i64 y) := ⟨by rw [cell_of_row w p 0 _ _ _ h]; rfl, by rw [cell_of_row w p 1 _ _ _ h]; rfl⟩

theorem f6big_any (A : Option Addr) (n c : Nat) (w : World) : Calls Tryz.prog 4 #[.slice A n c] w fun e w' => e = .returned (.bool (decide (4096 < n))) ∧ w = w' := by
  by_cases h : 4096 < n
  all_goals
    go_enter Tryz.func4, Tryz.ntmps4
    go_wp2
    go_ret
    exact ⟨by simp; omega, rfl⟩

theorem prodN_bd (x y p q : Int) (hx : 0 ≤ x ∧ x ≤ p) (hy : -q ≤ y ∧ y ≤ q) : -(p * q) ≤ x * y ∧ x * y ≤ p * q := by
  have h1 := Int.mul_le_mul_of_nonneg_left hy.2 hx.1
  have h2 := Int.mul_le_mul_of_nonneg_left hy.1 hx.1
  have h3 := Int.mul_le_mul_of_nonneg_right hx.2 (show 0 ≤ q by omega)
  rw [Int.mul_neg] at h2
  omega

/-- A world in which all that was there in W stands as it was. -/
structure BelowBy (W : World) where
  w : World
  h : Below W.heap.size W w
instance belowBy_some (W : World) : Inhabited (BelowBy W) := ⟨⟨W, Below.refl _ _⟩⟩

/-- A region that draws its order, whose operations only read and whose callees only make memory: walked once. -/
theorem wp_region_below {P : Program} {id : Nat} {Q : Exit → Act → World → Prop} {a : Act} {w : World} {l : List Oper} (hm : P.follows .mixedOrders = true) (hB : Region.lexB .any l.toArray = true)
    (h : wpQuiet P l.toArray (fun w' => ∃ p : BelowBy w, w' = p.w) (fun a' => ∀ w', (∃ p : BelowBy w, w' = p.w) → Q .normal a' w') l a) : (Code.region id l.toArray true).wp P Q a w :=
  wp_region_quiet (C := fun w' => ∃ p : BelowBy w, w' = p.w) hm hB ⟨⟨{ w with drawn := w.drawn + 1 }, ⟨rfl, rfl, rfl, Nat.le_refl _, fun _ _ => rfl⟩⟩, rfl⟩ (by simpa using h)

theorem below_call {P : Program} {f : FuncId} {args : Array Value} {W : World} {x : BelowBy W} {v : Value}
    (h : Below W.heap.size W x.w → Calls P f args x.w fun e w' => e = .returned v ∧ Below x.w.heap.size x.w w') : Calls P f args x.w fun e w'' => e = .returned v ∧ ∃ p : BelowBy W, w'' = p.w :=
  (h x.h).mono fun _ w' ⟨he, hb⟩ => ⟨he, ⟨w', kept_trans x.h hb⟩, rfl⟩

/-- The numbers of a sling (legs, span, rise, mass) are as asked. -/
def slB (g p r m : Int) : Bool := inB g 1 4 && inB p 0 400 && inB r 1 400 && inB m 0 1000 && (decide (1 < g) || decide (p = 0))

theorem slB_bd {g p r m : Int} (h : slB g p r m = true) : (1 ≤ g ∧ g ≤ 4) ∧ (0 ≤ p ∧ p ≤ 400) ∧ (1 ≤ r ∧ r ≤ 400) ∧ (0 ≤ m ∧ m ≤ 1000) := by
  simp only [slB, Bool.and_eq_true] at h
  obtain ⟨⟨⟨⟨h0, h1⟩, h2⟩, h3⟩, _⟩ := h
  exact ⟨inB_true h0, inB_true h1, inB_true h2, inB_true h3⟩

def slSq (p r : Int) : Int := p * p + 4 * r * r

/-- Twice the length of a leg, rounded up. -/
noncomputable def slD (p r : Int) : Int := rootL (slSq p r)

theorem root_ex (n : Nat) : ∃ r : Int, IsRoot n r := by
  induction n with
  | zero => exact ⟨0, by omega, by simp, fun q h1 h2 => by omega⟩
  | succ n ih =>
    obtain ⟨r, h1, h2, h3⟩ := ih
    by_cases h : (n : Int) + 1 ≤ r * r
    · exact ⟨r, h1, by omega, fun q a b => by have := h3 q a b; omega⟩
    · have e : (r + 1) * (r + 1) = r * r + 2 * r + 1 := by grind
      refine ⟨r + 1, by omega, by omega, fun q a b => ?_⟩
      have : q * q ≤ r * r := Int.mul_le_mul (by omega) (by omega) a h1
      omega

theorem root_is (n : Int) (h : 0 ≤ n) : IsRoot n (rootL n) := by
  obtain ⟨r, hr⟩ := root_ex n.toNat
  rw [show ((n.toNat : Nat) : Int) = n by omega] at hr
  rw [rootL_eq hr]
  exact hr

theorem slSq_bd (p r : Int) (hp : 0 ≤ p ∧ p ≤ 400) (hr : 1 ≤ r ∧ r ≤ 400) : 4 ≤ slSq p r ∧ slSq p r ≤ 800000 := by
  have h1 := sq_bd p 400 (by omega) (by omega)
  have h2 := sq_bd r 400 (by omega) (by omega)
  have h3 : 1 * 1 ≤ r * r := Int.mul_le_mul hr.1 hr.1 (by omega) (by omega)
  have e : 4 * r * r = 4 * (r * r) := by grind
  unfold slSq
  omega

theorem slD_bd (p r : Int) (hp : 0 ≤ p ∧ p ≤ 400) (hr : 1 ≤ r ∧ r ≤ 400) : 2 ≤ slD p r ∧ slD p r ≤ p + 2 * r := by
  have hb := slSq_bd p r hp hr
  have h := root_is (slSq p r) (by omega)
  unfold slD
  obtain ⟨h1, h2, h3⟩ := h
  generalize hR : rootL (slSq p r) = R at *
  constructor
  · rcases Int.lt_or_le R 2 with h | h
    · have : R = 0 ∨ R = 1 := by omega
      rcases this with rfl | rfl <;> omega
    · exact h
  · rcases Int.lt_or_le (p + 2 * r) R with h | h
    · have h4 := h3 (p + 2 * r) (by omega) h
      have h5 : (p + 2 * r) * (p + 2 * r) = slSq p r + 4 * (p * r) := by unfold slSq; grind
      have h6 := Int.mul_nonneg hp.1 (show 0 ≤ r by omega)
      omega
    · exact h

/-- A step of Newton's never passes the root, rounded down. -/
theorem newton_step (n x : Int) (hn : 0 ≤ n) (hx : 0 < x) : n < ((x + n / x) / 2 + 1) * ((x + n / x) / 2 + 1) := by
  have h1 : n < x * (n / x + 1) := by
    have := Int.lt_ediv_add_one_mul_self n hx
    rw [Int.mul_comm]; exact this
  have h0 : 0 ≤ n / x := Int.ediv_nonneg hn (by omega)
  generalize n / x = q at *
  have h2 : x + q + 1 ≤ 2 * ((x + q) / 2 + 1) := by omega
  generalize (x + q) / 2 + 1 = y at *
  have h3 : (x + q + 1) * (x + q + 1) ≤ (2 * y) * (2 * y) := Int.mul_le_mul h2 h2 (by omega) (by omega)
  have h4 : 0 ≤ (x - (q + 1)) * (x - (q + 1)) := by
    rcases Int.le_total 0 (x - (q + 1)) with h | h
    · exact Int.mul_nonneg h h
    · exact Int.mul_nonneg_of_nonpos_of_nonpos h h
  have e1 : (x + q + 1) * (x + q + 1) = (x - (q + 1)) * (x - (q + 1)) + 4 * (x * (q + 1)) := by grind
  have e2 : (2 * y) * (2 * y) = 4 * (y * y) := by grind
  omega

theorem newton_down (n x : Int) (hn : 0 ≤ n) (hx : 0 < x) (h : n < x * x) : (x + n / x) / 2 < x := by
  have : n / x < x := Int.ediv_lt_of_lt_mul hx h
  omega

/-- Where Newton's steps end, the root is there or one less than it. -/
theorem newton_end (n x : Int) (hx : 0 ≤ x) (h1 : n < (x + 1) * (x + 1)) (h2 : x * x ≤ n) : rootL n = if x * x < n then x + 1 else x := by
  apply rootL_eq
  split
  · refine ⟨by omega, by omega, fun q a b => ?_⟩
    have : q * q ≤ x * x := Int.mul_le_mul (by omega) (by omega) a hx
    omega
  · refine ⟨by omega, by omega, fun q a b => ?_⟩
    have e : x * x = (x - 1) * (x - 1) + 2 * x - 1 := by grind
    have : q * q ≤ (x - 1) * (x - 1) := Int.mul_le_mul (by omega) (by omega) a (by omega)
    omega

/-- The legs that bear. -/
def bearL (g : Int) : Int := if 3 < g then 3 else g

theorem bearL_bd {g : Int} (h : 1 ≤ g ∧ g ≤ 4) : 1 ≤ bearL g ∧ bearL g ≤ 3 := by unfold bearL; split <;> omega

/-- What a force is divided by. -/
def slE (g r : Int) : Int := 2 * bearL g * r

theorem slE_bd (g r : Int) (hg : 1 ≤ g ∧ g ≤ 4) (hr : 1 ≤ r ∧ r ≤ 400) : 2 ≤ slE g r ∧ slE g r ≤ 2400 := by
  have h := bearL_bd hg
  unfold slE
  have h1 := mul_bd (2 * bearL g) r 6 400 (by omega) (by omega)
  have h2 := mul_ge (2 * bearL g) r 2 1 (by omega) (by omega)
  omega

theorem up_iff (n d k : Int) (hd : 0 < d) : upL n d ≤ k ↔ n ≤ k * d := by
  unfold upL
  have e : (k + 1) * d = k * d + d := by grind
  rw [← Int.lt_add_one_iff, Int.ediv_lt_iff_lt_mul hd, e]
  omega

theorem up_scale (c x y : Int) (hc : 0 < c) (hy : 0 < y) : upL (c * x) (c * y) = upL x y := by
  have h : ∀ k, upL (c * x) (c * y) ≤ k ↔ upL x y ≤ k := fun k => by
    rw [up_iff _ _ _ (Int.mul_pos hc hy), up_iff _ _ _ hy, show k * (c * y) = c * (k * y) by grind]
    exact Int.mul_le_mul_left hc
  exact Int.le_antisymm ((h _).2 (Int.le_refl _)) ((h _).1 (Int.le_refl _))

theorem up_low (n d : Int) (hd : 0 < d) : upL (lowL n d).1 (lowL n d).2 = upL n d := by
  have hp := gcd_pos' n d hd
  have d1 : ((Nat.gcd n.natAbs d.natAbs : Nat) : Int) ∣ n := Int.ofNat_dvd_left.2 (Nat.gcd_dvd_left _ _)
  have d2 : ((Nat.gcd n.natAbs d.natAbs : Nat) : Int) ∣ d := Int.ofNat_dvd_left.2 (Nat.gcd_dvd_right _ _)
  unfold lowL
  dsimp only
  generalize Nat.gcd n.natAbs d.natAbs = c at *
  have e1 := Int.mul_tdiv_cancel' d1
  have e2 := Int.mul_tdiv_cancel' d2
  generalize n.tdiv c = x at *
  generalize d.tdiv c = y at *
  rw [← e1, ← e2]
  refine (up_scale _ _ _ (by omega) ?_).symm
  have hc : (0 : Int) < c := by omega
  rcases Int.lt_or_le 0 y with h | h
  · exact h
  · have := Int.mul_nonpos_of_nonneg_of_nonpos (show (0 : Int) ≤ c by omega) h
    omega

/-- The force in a leg, rounded up. -/
noncomputable def slUp (g p r w : Int) : Int := upL (w * slD p r) (slE g r)

/-- How far the legs are spread. -/
def slK (g p r : Int) : Int := if g = 1 then 0 else if p ≤ 2 * r then 1 else if p * p ≤ 12 * r * r then 2 else 3

noncomputable def slHolds (g p r w k : Int) : Bool := decide (slK g p r < 3) && decide (slUp g p r w ≤ k)

/-- The first of the rises 401 - n, .., 400 with which the weight is held, and its code. -/
noncomputable def lrL (g p w q : Int) : Nat → Int × Int
  | 0 => (0, 3)
  | n + 1 => if slHolds g p (400 - n) w q then (400 - (n : Int), 0) else lrL g p w q n

/-- The fields of a sling. -/
structure Sl where
  g : Int
  p : Int
  r : Int
  m : Int

def okSl (z : Sl) : Bool := slB z.g z.p z.r z.m

noncomputable def holdsSl (z : Sl) (w k : Int) : Bool := slHolds z.g z.p z.r w k

def slText (g p r m : Int) : List UInt8 := Lib.itoa g ++ 120 :: (Lib.itoa p ++ 47 :: (Lib.itoa r ++ 32 :: Lib.itoa m))

theorem lrL_ok (g p w q : Int) : ∀ n : Nat, n ≤ 400 → (lrL g p w q n).2 = 0 → (1 ≤ (lrL g p w q n).1 ∧ (lrL g p w q n).1 ≤ 400) ∧ slHolds g p (lrL g p w q n).1 w q = true := by
  intro n
  induction n with
  | zero => intro _ h; simp [lrL] at h
  | succ n ih =>
    intro hn h
    unfold lrL at h ⊢
    cases hh : slHolds g p (400 - n) w q
    · rw [hh] at h
      simp only [Bool.false_eq_true, if_false] at h ⊢
      exact ih (by omega) h
    · simp only [if_true]
      exact ⟨by omega, hh⟩

/-- What LegLength returns. -/
noncomputable def llL (g p r m : Int) : Int × Int := if slB g p r m = true then ((slD p r + 1) / 2, 0) else (0, 1)

/-- What LegForce returns. -/
noncomputable def lfL (g p r m : Int) (k : Int) : (Int × Int) × Int := if codeL3 (slB g p r m) [inB k 0 50000] = 0 then (lowL (k * slD p r) (slE g r), 0) else ((0, 0), codeL3 (slB g p r m) [inB k 0 50000])

/-- What ForceUp returns. -/
noncomputable def fuL (g p r m : Int) (k : Int) : Int × Int := if codeL3 (slB g p r m) [inB k 0 50000] = 0 then (slUp g p r k, 0) else (0, codeL3 (slB g p r m) [inB k 0 50000])

/-- What AngleClass returns. -/
def acL (g p r m : Int) : Int × Int := if slB g p r m = true then (slK g p r, 0) else (0, 1)

/-- What LeastRise returns. -/
noncomputable def lrAll (g p r m : Int) (k q : Int) : Int × Int := if codeL3 (slB g p r m) [inB k 0 50000, inB q 0 50000] = 0 then lrL g p k q 400 else (0, codeL3 (slB g p r m) [inB k 0 50000, inB q 0 50000])

/-- The text of a sling. -/
def slTxL (g p r m : Int) : List UInt8 := if slB g p r m = true then slText g p r m else []

theorem slK_le (g p r : Int) : slK g p r ≤ 3 := by unfold slK; split <;> (try split) <;> (try split) <;> omega

/-- The text of a sling's numbers. -/
def txSl (z : Sl) : List UInt8 := slText z.g z.p z.r z.m

theorem small_len (n : Nat) (h : n < 1001) : (Lib.decDigits n).length ≤ 4 := by
  have : ∀ k : Fin 1001, (Lib.decDigits k.1).length ≤ 4 := by decide +kernel
  exact this ⟨n, h⟩

/-- The decimal form of a small number. -/
theorem small_itoa {n : Int} (h : 0 ≤ n ∧ n ≤ 1000) : (Lib.itoa n).all digB = true ∧ 1 ≤ (Lib.itoa n).length ∧ (Lib.itoa n).length ≤ 4 ∧ readL (Lib.itoa n) = (n, true) := by
  obtain ⟨i1, i2, i3, i4⟩ := digits_ok n.toNat
  have e : Lib.itoa n = Lib.decDigits n.toNat := by unfold Lib.itoa; rw [if_neg (by omega)]
  have hl := small_len n.toNat (by omega)
  have ht : readT (Lib.itoa n) = Lib.itoa n := by rw [e]; simp [readT, i4]
  refine ⟨by rw [e]; exact i1, by rw [e]; exact i3, by rw [e]; exact hl, readL_yes rfl (by rw [ht, e]; omega)⟩

theorem free_itoa {n : Int} (h : 0 ≤ n ∧ n ≤ 1000) (c : UInt8) (hc : digB c = false) : c ∉ Lib.itoa n := fun hm => by
  have := List.all_eq_true.1 (small_itoa h).1 c hm
  rw [hc] at this
  cases this

theorem itoa_inj {n k : Int} (hn : 0 ≤ n ∧ n ≤ 1000) (hk : 0 ≤ k ∧ k ≤ 1000) (h : Lib.itoa n = Lib.itoa k) : n = k := by
  have h1 := (small_itoa hn).2.2.2
  rw [h, (small_itoa hk).2.2.2] at h1
  exact ((Prod.mk.inj h1).1).symm

theorem okSl_bd {z : Sl} (h : okSl z = true) : (0 ≤ z.g ∧ z.g ≤ 1000) ∧ (0 ≤ z.p ∧ z.p ≤ 1000) ∧ (0 ≤ z.r ∧ z.r ≤ 1000) ∧ (0 ≤ z.m ∧ z.m ≤ 1000) := by
  have := slB_bd h
  omega

theorem txSl_inj {y z : Sl} (hy : okSl y = true) (hz : okSl z = true) (h : txSl y = txSl z) : y = z := by
  obtain ⟨a1, a2, a3, a4⟩ := okSl_bd hy
  obtain ⟨b1, b2, b3, b4⟩ := okSl_bd hz
  obtain ⟨g, p, r, m⟩ := y
  obtain ⟨g', p', r', m'⟩ := z
  unfold txSl slText at h
  dsimp only at *
  obtain ⟨h1, h⟩ := head_uniq 120 _ _ _ _ (free_itoa a1 120 rfl) (free_itoa b1 120 rfl) (Or.inr ⟨_, rfl⟩) (Or.inr ⟨_, rfl⟩) h
  obtain ⟨h2, h⟩ := head_uniq 47 _ _ _ _ (free_itoa a2 47 rfl) (free_itoa b2 47 rfl) (Or.inr ⟨_, rfl⟩) (Or.inr ⟨_, rfl⟩) (List.cons.inj h).2
  obtain ⟨h3, h⟩ := head_uniq 32 _ _ _ _ (free_itoa a3 32 rfl) (free_itoa b3 32 rfl) (Or.inr ⟨_, rfl⟩) (Or.inr ⟨_, rfl⟩) (List.cons.inj h).2
  have h4 := (List.cons.inj h).2
  rw [itoa_inj a1 b1 h1, itoa_inj a2 b2 h2, itoa_inj a3 b3 h3, itoa_inj a4 b4 h4]

open Classical in
/-- The sling with a text, and whether there is one. -/
noncomputable def readSl (l : List UInt8) : Sl × Bool := if h : ∃ z : Sl, okSl z = true ∧ txSl z = l then (Classical.choose h, true) else (⟨0, 0, 0, 0⟩, false)

theorem readSl_yes {z : Sl} (h : okSl z = true) : readSl (txSl z) = (z, true) := by
  have hex : ∃ y : Sl, okSl y = true ∧ txSl y = txSl z := ⟨z, h, rfl⟩
  unfold readSl
  rw [dif_pos hex]
  obtain ⟨h1, h2⟩ := Classical.choose_spec hex
  rw [txSl_inj h1 h h2]

theorem readSl_no {l : List UInt8} (h : ¬ ∃ z : Sl, okSl z = true ∧ txSl z = l) : readSl l = (⟨0, 0, 0, 0⟩, false) := by
  unfold readSl
  rw [dif_neg h]

theorem ba_of (x : ByteArray) : x = ⟨x.data.toList.toArray⟩ := by simp

theorem restW_two (x y : List UInt8) (c : UInt8) (hx : c ∉ x) (hy : c ∉ y) : restW ⟨(x ++ c :: y).toArray⟩ c 0 0 = [⟨x.toArray⟩, ⟨y.toArray⟩] := by
  have hj := restW_join ⟨(x ++ c :: y).toArray⟩ c _ 0 0 rfl (Nat.le_refl _) (Nat.zero_le _)
  have hn := restW_ne ⟨(x ++ c :: y).toArray⟩ c _ 0 0 rfl
  have hf := restW_free ⟨(x ++ c :: y).toArray⟩ c _ 0 0 rfl (Nat.le_refl _) (Nat.zero_le _) (fun j _ h => by omega)
  generalize restW ⟨(x ++ c :: y).toArray⟩ c 0 0 = R at *
  have e : Lib.join [x, y] [c] = x ++ c :: y := by rw [join2, Lib.join_one]
  have h := split_uniq c (R.map fun x => x.data.toList) [x, y] (by simpa using hn) (by simp) (fun a ha => by
    obtain ⟨b, hb, rfl⟩ := List.mem_map.1 ha
    exact hf b hb) (by simp [hx, hy]) (by rw [hj, e]; simp)
  match R, h with
  | [a, b], h =>
    simp only [List.map_cons, List.map_nil, List.cons.injEq, and_true] at h
    rw [ba_of a, ba_of b, h.1, h.2]

theorem restW_of {s a b : ByteArray} {c : UInt8} (h : restW s c 0 0 = [a, b]) : s.data.toList = a.data.toList ++ c :: b.data.toList := by
  have hj := restW_join s c _ 0 0 rfl (Nat.le_refl _) (Nat.zero_le _)
  rw [h] at hj
  simp only [List.map_cons, List.map_nil, join2, Lib.join_one, List.drop_zero] at hj
  exact hj.symm

/-- The pieces of a sling's text. -/
theorem slParts {z : Sl} (h : okSl z = true) {s : ByteArray} (hs : txSl z = s.data.toList) : ∃ a d : ByteArray,
    restW s 32 0 0 = [a, ⟨(Lib.itoa z.m).toArray⟩] ∧ restW a 120 0 0 = [⟨(Lib.itoa z.g).toArray⟩, d] ∧ restW d 47 0 0 = [⟨(Lib.itoa z.p).toArray⟩, ⟨(Lib.itoa z.r).toArray⟩] := by
  obtain ⟨a1, a2, a3, a4⟩ := okSl_bd h
  have hf := fun c (hc : digB c = false) => And.intro (free_itoa a1 c hc) (And.intro (free_itoa a2 c hc) (And.intro (free_itoa a3 c hc) (free_itoa a4 c hc)))
  have f1 := hf 32 rfl
  have f2 := hf 120 rfl
  have f3 := hf 47 rfl
  refine ⟨⟨(Lib.itoa z.g ++ 120 :: (Lib.itoa z.p ++ 47 :: Lib.itoa z.r)).toArray⟩, ⟨(Lib.itoa z.p ++ 47 :: Lib.itoa z.r).toArray⟩, ?_, ?_, ?_⟩
  · rw [ba_of s, ← hs, show txSl z = (Lib.itoa z.g ++ 120 :: (Lib.itoa z.p ++ 47 :: Lib.itoa z.r)) ++ 32 :: Lib.itoa z.m by simp [txSl, slText]]
    refine restW_two _ _ 32 ?_ f1.2.2.2
    simp [f1]
  · refine restW_two _ _ 120 f2.1 ?_
    simp [f2]
  · exact restW_two _ _ 47 f3.2.1 f3.2.2.1

/-- What is told by the pieces is the sling with the text. -/
theorem slBack {s a b c d x y : ByteArray} (h1 : restW s 32 0 0 = [a, b]) (h2 : restW a 120 0 0 = [c, d]) (h3 : restW d 47 0 0 = [x, y])
    (k1 : (readL c.data.toList).2 = true) (k2 : (readL x.data.toList).2 = true) (k3 : (readL y.data.toList).2 = true) (k4 : (readL b.data.toList).2 = true) :
    txSl ⟨(readL c.data.toList).1, (readL x.data.toList).1, (readL y.data.toList).1, (readL b.data.toList).1⟩ = s.data.toList := by
  rw [restW_of h1, restW_of h2, restW_of h3]
  simp only [txSl, slText, readL_back k1, readL_back k2, readL_back k3, readL_back k4]
  simp

/-- What stands between the numbers of a sling. -/
def sepP (x : Nat) : Bool := decide (x = 120) || decide (x = 47) || decide (x = 32)

theorem dec_asc (s : ByteArray) (pos : Nat) (x : UInt8) (h : s.data.toList[pos]? = some x) (hx : x.toNat < 128) : pos < s.size ∧ Utf8.decode s pos = (x.toNat, 1) := by
  have hl : s.data.toList.length = s.size := Array.length_toList
  obtain ⟨h1, h2⟩ := List.getElem?_eq_some_iff.1 h
  refine ⟨by omega, ?_⟩
  have e : s.data.toList.getD pos 0 = x := by simp [List.getD, h]
  rw [Lib.decode_N, e]
  exact Lib.decodeN_ascii _ _ _ _ _ hx

/-- Bytes that belong to a piece. -/
theorem span_run (P : Nat → Bool) (s : ByteArray) (beg : Nat) (acc : List (Nat × Nat)) (f : Nat) : ∀ (x : List UInt8) (pos : Nat), (∀ j, (hj : j < x.length) → s.data.toList[pos + j]? = some x[j]) → (∀ c ∈ x, c.toNat < 128 ∧ P c.toNat = false) →
    Lib.spansFromP P s (x.length + f) pos (some beg) acc = Lib.spansFromP P s f (pos + x.length) (some beg) acc := by
  intro x
  induction x with
  | nil => intro pos _ _; simp
  | cons c x ih =>
    intro pos h1 h2
    obtain ⟨hp, hd⟩ := dec_asc s pos c (by have := h1 0 (by simp); simp only [Nat.add_zero, List.getElem_cons_zero] at this; exact this) (h2 c (by simp)).1
    rw [show (c :: x).length + f = (x.length + f) + 1 by simp; omega, Lib.spansFromP.eq_def]
    simp only [hp, if_true, hd, (h2 c (by simp)).2, Bool.false_eq_true, if_false]
    rw [ih (pos + 1) (fun j hj => by have := h1 (j + 1) (by simp; omega); rw [show pos + 1 + j = pos + (j + 1) by omega, this]; simp) (fun d hd => h2 d (List.mem_cons_of_mem _ hd))]
    congr 1
    simp; omega

theorem span_first (P : Nat → Bool) (s : ByteArray) (acc : List (Nat × Nat)) (f : Nat) (x : List UInt8) (pos : Nat) (h0 : x ≠ []) (h1 : ∀ j, (hj : j < x.length) → s.data.toList[pos + j]? = some x[j]) (h2 : ∀ c ∈ x, c.toNat < 128 ∧ P c.toNat = false) :
    Lib.spansFromP P s (x.length + f) pos none acc = Lib.spansFromP P s f (pos + x.length) (some pos) acc := by
  cases x with
  | nil => exact absurd rfl h0
  | cons c x =>
    obtain ⟨hp, hd⟩ := dec_asc s pos c (by have := h1 0 (by simp); simp only [Nat.add_zero, List.getElem_cons_zero] at this; exact this) (h2 c (by simp)).1
    rw [show (c :: x).length + f = (x.length + f) + 1 by simp; omega, Lib.spansFromP.eq_def]
    simp only [hp, if_true, hd, (h2 c (by simp)).2, Bool.false_eq_true, if_false]
    rw [span_run P s pos acc f x (pos + 1) (fun j hj => by have := h1 (j + 1) (by simp; omega); rw [show pos + 1 + j = pos + (j + 1) by omega, this]; simp) (fun d hd => h2 d (List.mem_cons_of_mem _ hd))]
    congr 1
    simp; omega

theorem span_sep (P : Nat → Bool) (s : ByteArray) (acc : List (Nat × Nat)) (f pos beg : Nat) (c : UInt8) (h : s.data.toList[pos]? = some c) (hc : c.toNat < 128) (hP : P c.toNat = true) :
    Lib.spansFromP P s (f + 1) pos (some beg) acc = Lib.spansFromP P s f (pos + 1) none (acc ++ [(beg, pos)]) := by
  obtain ⟨hp, hd⟩ := dec_asc s pos c h hc
  rw [Lib.spansFromP.eq_def]
  simp only [hp, if_true, hd, hP]

theorem app_at {s : ByteArray} {a x b : List UInt8} (h : s.data.toList = a ++ (x ++ b)) (n : Nat) (hn : a.length = n) : ∀ j, (hj : j < x.length) → s.data.toList[n + j]? = some x[j] := fun j hj => by
  subst hn
  rw [h, List.getElem?_append_right (by omega), show a.length + j - a.length = j by omega, List.getElem?_append_left hj]
  simp

theorem app_one {s : ByteArray} {a b : List UInt8} {c : UInt8} (h : s.data.toList = a ++ (c :: b)) (n : Nat) (hn : a.length = n) : s.data.toList[n]? = some c := by
  subst hn
  rw [h, List.getElem?_append_right (by omega)]
  simp

theorem ext_mid {s : ByteArray} {a x b : List UInt8} (h : s.data.toList = a ++ (x ++ b)) (m n : Nat) (hm : a.length = m) (hn : m + x.length = n) : s.extract m n = ⟨x.toArray⟩ := by
  subst hm
  subst hn
  rw [ba_of (s.extract a.length (a.length + x.length)), Lib.extract_eq]
  simp only []
  rw [h]
  simp

/-- Four words with single separators between them. -/
theorem fields_four (P : Nat → Bool) (s : ByteArray) (x1 x2 x3 x4 : List UInt8) (c1 c2 c3 : UInt8) (hs : s.data.toList = x1 ++ c1 :: (x2 ++ c2 :: (x3 ++ c3 :: x4)))
    (n1 : x1 ≠ []) (n2 : x2 ≠ []) (n3 : x3 ≠ []) (n4 : x4 ≠ []) (g1 : ∀ c ∈ x1, c.toNat < 128 ∧ P c.toNat = false) (g2 : ∀ c ∈ x2, c.toNat < 128 ∧ P c.toNat = false) (g3 : ∀ c ∈ x3, c.toNat < 128 ∧ P c.toNat = false) (g4 : ∀ c ∈ x4, c.toNat < 128 ∧ P c.toNat = false)
    (e1 : c1.toNat < 128 ∧ P c1.toNat = true) (e2 : c2.toNat < 128 ∧ P c2.toNat = true) (e3 : c3.toNat < 128 ∧ P c3.toNat = true) :
    Lib.goFieldsP P s = [⟨x1.toArray⟩, ⟨x2.toArray⟩, ⟨x3.toArray⟩, ⟨x4.toArray⟩] := by
  have hl : s.data.toList.length = s.size := Array.length_toList
  have q1 : s.data.toList = [] ++ (x1 ++ c1 :: (x2 ++ c2 :: (x3 ++ c3 :: x4))) := by simpa using hs
  have q1' : s.data.toList = x1 ++ (c1 :: (x2 ++ c2 :: (x3 ++ c3 :: x4))) := by simpa using hs
  have q2 : s.data.toList = (x1 ++ [c1]) ++ (x2 ++ c2 :: (x3 ++ c3 :: x4)) := by simpa using hs
  have q2' : s.data.toList = (x1 ++ [c1] ++ x2) ++ (c2 :: (x3 ++ c3 :: x4)) := by simpa using hs
  have q3 : s.data.toList = (x1 ++ [c1] ++ x2 ++ [c2]) ++ (x3 ++ c3 :: x4) := by simpa using hs
  have q3' : s.data.toList = (x1 ++ [c1] ++ x2 ++ [c2] ++ x3) ++ (c3 :: x4) := by simpa using hs
  have q4 : s.data.toList = (x1 ++ [c1] ++ x2 ++ [c2] ++ x3 ++ [c3]) ++ (x4 ++ []) := by simpa using hs
  obtain ⟨p1, hp1⟩ : ∃ p, x1.length + 1 = p := ⟨_, rfl⟩
  obtain ⟨p2, hp2⟩ : ∃ p, p1 + x2.length + 1 = p := ⟨_, rfl⟩
  obtain ⟨p3, hp3⟩ : ∃ p, p2 + x3.length + 1 = p := ⟨_, rfl⟩
  have hsz : s.size = p3 + x4.length := by
    rw [← hl, hs]; simp; omega
  have r1 := fun f => span_first P s [] f x1 0 n1 (app_at q1 0 rfl) g1
  have t1 := fun f => span_sep P s [] f x1.length 0 c1 (app_one q1' _ rfl) e1.1 e1.2
  have r2 := fun f acc => span_first P s acc f x2 p1 n2 (app_at q2 p1 (by simp; omega)) g2
  have t2 := fun f acc => span_sep P s acc f (p1 + x2.length) p1 c2 (app_one q2' _ (by simp; omega)) e2.1 e2.2
  have r3 := fun f acc => span_first P s acc f x3 p2 n3 (app_at q3 p2 (by simp; omega)) g3
  have t3 := fun f acc => span_sep P s acc f (p2 + x3.length) p2 c3 (app_one q3' _ (by simp; omega)) e3.1 e3.2
  have r4 := fun acc => span_first P s acc 0 x4 p3 n4 (app_at q4 p3 (by simp; omega)) g4
  simp only [Nat.add_zero] at r4
  unfold Lib.goFieldsP Lib.spansOfP
  rw [show s.size = x1.length + ((x2.length + ((x3.length + (x4.length + 1)) + 1)) + 1) by omega, r1, Nat.zero_add, t1, hp1, r2, t2, hp2, r3, t3, hp3, r4, Lib.spansFromP_end _ _ _ _ _ _ (by omega)]
  have m1 := ext_mid q1 0 x1.length rfl (by omega)
  have m2 := ext_mid q2 p1 (p1 + x2.length) (by simp; omega) rfl
  have m3 := ext_mid q3 p2 (p2 + x3.length) (by simp; omega) rfl
  have m4 := ext_mid q4 p3 s.size (by simp; omega) (by omega)
  simp only [Lib.closeSpans, List.map_append, List.map_cons, List.map_nil, List.cons_append, List.nil_append, m1, m2, m3, m4]

theorem slFields {z : Sl} (h : okSl z = true) {s : ByteArray} (hs : txSl z = s.data.toList) :
    Lib.goFieldsP sepP s = [⟨(Lib.itoa z.g).toArray⟩, ⟨(Lib.itoa z.p).toArray⟩, ⟨(Lib.itoa z.r).toArray⟩, ⟨(Lib.itoa z.m).toArray⟩] := by
  obtain ⟨a1, a2, a3, a4⟩ := okSl_bd h
  have hne : ∀ {n : Int}, 0 ≤ n ∧ n ≤ 1000 → Lib.itoa n ≠ [] := fun {n} hn e => by have := (small_itoa hn).2.1; rw [e] at this; simp at this
  have hg : ∀ {n : Int}, 0 ≤ n ∧ n ≤ 1000 → ∀ c ∈ Lib.itoa n, c.toNat < 128 ∧ sepP c.toNat = false := fun {n} hn c hc => by
    have := List.all_eq_true.1 (small_itoa hn).1 c hc
    simp [digB] at this
    simp [sepP]
    omega
  exact fields_four sepP s _ _ _ _ 120 47 32 hs.symm (hne a1) (hne a2) (hne a3) (hne a4) (hg a1) (hg a2) (hg a3) (hg a4) ⟨by decide, rfl⟩ ⟨by decide, rfl⟩ ⟨by decide, rfl⟩

theorem fields_sz (P : Nat → Bool) (s : ByteArray) : ∀ x ∈ Lib.goFieldsP P s, x.size ≤ s.size := fun x hx => by
  unfold Lib.goFieldsP at hx
  obtain ⟨y, _, rfl⟩ := List.mem_map.1 hx
  simp
  omega

theorem fields_none (P : Nat → Bool) (s : ByteArray) (h : s.size = 0) : Lib.goFieldsP P s = [] := by
  unfold Lib.goFieldsP Lib.spansOfP
  rw [h]
  rfl

/-- A sling at a place of a block. -/
def SlAt (w : World) (b o : Nat) (z : Sl) : Prop :=
  b < w.heap.size ∧ w.cell? ⟨b, o, none⟩ = some (.int .i64 z.g) ∧ w.cell? ⟨b, o + 1, none⟩ = some (.int .i64 z.p) ∧ w.cell? ⟨b, o + 2, none⟩ = some (.int .i64 z.r) ∧ w.cell? ⟨b, o + 3, none⟩ = some (.int .i64 z.m)

theorem SlAt_kept {W w1 : World} {b o : Nat} {z : Sl} (h : SlAt W b o z) (hb : Below W.heap.size W w1) : SlAt w1 b o z := by
  obtain ⟨hl, h0, h1, h2, h3⟩ := h
  refine ⟨Nat.lt_of_lt_of_le hl hb.size, ?_, ?_, ?_, ?_⟩ <;> (rw [kept_cell hb b _ hl]; assumption)

/-- A sling that fills a block. -/
def SlBox (w : World) (b : Nat) (g p r m : Int) : Prop := w.heap[b]? = some (.cells #[.int .i64 g, .int .i64 p, .int .i64 r, .int .i64 m] 25 (0, 0))

theorem SlBox_at {w : World} {b : Nat} {g p r m : Int} (h : SlBox w b g p r m) : SlAt w b 0 ⟨g, p, r, m⟩ := by
  have h0 : w.cell? ⟨b, 0, none⟩ = some (.int .i64 g) := by rw [cell_of_row w b 0 _ _ _ h]; rfl
  exact ⟨World.block_lt_of_cell? _ _ h0, h0, by rw [cell_of_row w b 1 _ _ _ h]; rfl, by rw [cell_of_row w b 2 _ _ _ h]; rfl, by rw [cell_of_row w b 3 _ _ _ h]; rfl⟩

theorem SlBox_new (g p r m : Int) (w : World) : SlBox (w.alloc (.cells #[.int .i64 g, .int .i64 p, .int .i64 r, .int .i64 m] 25)) w.heap.size g p r m := heap_alloc_new w _

theorem SlBox_lt {w : World} {b : Nat} {g p r m : Int} (h : SlBox w b g p r m) : b < w.heap.size := (SlBox_at h).1

theorem SlBox_kept {W w1 : World} {b : Nat} {g p r m : Int} (h : SlBox W b g p r m) (hb : Below W.heap.size W w1) : SlBox w1 b g p r m := by
  unfold SlBox
  rw [hb.block b (SlBox_lt h)]
  exact h

theorem SlBox_grown {w w1 : World} {b B : Nat} {g p r m : Int} (h : SlBox w b g p r m) (hg : w.grownBy w1 (some B)) (hne : b ≠ B) : SlBox w1 b g p r m := blk_grown h hg hne

theorem SlBox_far {w : World} {b q o : Nat} {v : Value} {g p r m : Int} (h : SlBox w b g p r m) (hne : b ≠ q) : SlBox (w.setCell ⟨q, o, none⟩ v) b g p r m := SlBox_grown h (grown_set _ _ _) hne

theorem SlBox_frozen {w : World} {b : Nat} {g p r m : Int} (h : SlBox w b g p r m) (o : Nat) : w.frozen? ⟨b, o, none⟩ = false := frozen_of_row w b o _ _ h

/-- One number of a sling is stored. -/
theorem SlBox_put {w : World} {b : Nat} {g p r m : Int} (h : SlBox w b g p r m) (v : Int) : SlBox (w.setCell ⟨b, 0, none⟩ (.int .i64 v)) b v p r m ∧ SlBox (w.setCell ⟨b, 1, none⟩ (.int .i64 v)) b g v r m ∧ SlBox (w.setCell ⟨b, 2, none⟩ (.int .i64 v)) b g p v m ∧ SlBox (w.setCell ⟨b, 3, none⟩ (.int .i64 v)) b g p r v :=
  ⟨heap_setCell_same w b 0 _ _ _ h, heap_setCell_same w b 1 _ _ _ h, heap_setCell_same w b 2 _ _ _ h, heap_setCell_same w b 3 _ _ _ h⟩

theorem SlBox_facts {w : World} {b : Nat} {g p r m : Int} (h : SlBox w b g p r m) : (w.cell? ⟨b, 0, none⟩ = some (.int .i64 g) ∧ w.cell? ⟨b, 1, none⟩ = some (.int .i64 p) ∧ w.cell? ⟨b, 2, none⟩ = some (.int .i64 r) ∧ w.cell? ⟨b, 3, none⟩ = some (.int .i64 m)) ∧ ∀ o, w.frozen? ⟨b, o, none⟩ = false := by
  obtain ⟨_, h0, h1, h2, h3⟩ := SlBox_at h
  exact ⟨⟨h0, h1, h2, h3⟩, SlBox_frozen h⟩

/-- A sling that fills a block. -/
def BxA (w : World) (b : Nat) (g p r m : Int) : Prop := w.heap[b]? = some (.cells #[.int .i64 g, .int .i64 p, .int .i64 r, .int .i64 m] 72 (0, 0))

theorem BxA_at {w : World} {b : Nat} {g p r m : Int} (h : BxA w b g p r m) : SlAt w b 0 ⟨g, p, r, m⟩ := by
  have h0 : w.cell? ⟨b, 0, none⟩ = some (.int .i64 g) := by rw [cell_of_row w b 0 _ _ _ h]; rfl
  exact ⟨World.block_lt_of_cell? _ _ h0, h0, by rw [cell_of_row w b 1 _ _ _ h]; rfl, by rw [cell_of_row w b 2 _ _ _ h]; rfl, by rw [cell_of_row w b 3 _ _ _ h]; rfl⟩

theorem BxA_new (g p r m : Int) (w : World) : BxA (w.alloc (.cells #[.int .i64 g, .int .i64 p, .int .i64 r, .int .i64 m] 72)) w.heap.size g p r m := heap_alloc_new w _

theorem BxA_lt {w : World} {b : Nat} {g p r m : Int} (h : BxA w b g p r m) : b < w.heap.size := (BxA_at h).1

theorem BxA_kept {W w1 : World} {b : Nat} {g p r m : Int} (h : BxA W b g p r m) (hb : Below W.heap.size W w1) : BxA w1 b g p r m := by
  unfold BxA
  rw [hb.block b (BxA_lt h)]
  exact h

theorem BxA_frozen {w : World} {b : Nat} {g p r m : Int} (h : BxA w b g p r m) (o : Nat) : w.frozen? ⟨b, o, none⟩ = false := frozen_of_row w b o _ _ h

/-- One number of a sling is stored. -/
theorem BxA_put {w : World} {b : Nat} {g p r m : Int} (h : BxA w b g p r m) (v : Int) : BxA (w.setCell ⟨b, 0, none⟩ (.int .i64 v)) b v p r m ∧ BxA (w.setCell ⟨b, 1, none⟩ (.int .i64 v)) b g v r m ∧ BxA (w.setCell ⟨b, 2, none⟩ (.int .i64 v)) b g p v m ∧ BxA (w.setCell ⟨b, 3, none⟩ (.int .i64 v)) b g p r v :=
  ⟨heap_setCell_same w b 0 _ _ _ h, heap_setCell_same w b 1 _ _ _ h, heap_setCell_same w b 2 _ _ _ h, heap_setCell_same w b 3 _ _ _ h⟩

theorem BxA_facts {w : World} {b : Nat} {g p r m : Int} (h : BxA w b g p r m) : (w.cell? ⟨b, 0, none⟩ = some (.int .i64 g) ∧ w.cell? ⟨b, 1, none⟩ = some (.int .i64 p) ∧ w.cell? ⟨b, 2, none⟩ = some (.int .i64 r) ∧ w.cell? ⟨b, 3, none⟩ = some (.int .i64 m)) ∧ ∀ o, w.frozen? ⟨b, o, none⟩ = false := by
  obtain ⟨_, h0, h1, h2, h3⟩ := BxA_at h
  exact ⟨⟨h0, h1, h2, h3⟩, BxA_frozen h⟩

theorem src_end4 {u : World} {L B N p : Nat} (h : Src u L B N) (h1 : L ≤ p) (h2 : p ≠ B) (v0 v1 v2 v3 : Value) :
    Src ((((u.setCell ⟨p, 0, none⟩ v0).setCell ⟨p, 1, none⟩ v1).setCell ⟨p, 2, none⟩ v2).setCell ⟨p, 3, none⟩ v3) L B N :=
  Src_set (Src_set (Src_set (Src_set h h1 h2) h1 h2) h1 h2) h1 h2

theorem grown_end4 {w u : World} {row : Option Nat} (hg : w.grownBy u row) {p : Nat} (hp : w.heap.size ≤ p) (v0 v1 v2 v3 : Value) :
    w.grownBy ((((u.setCell ⟨p, 0, none⟩ v0).setCell ⟨p, 1, none⟩ v1).setCell ⟨p, 2, none⟩ v2).setCell ⟨p, 3, none⟩ v3) row :=
  grown_new (grown_new (grown_new (grown_new hg hp _) hp _) hp _) hp _

theorem specSlOk_any (b o : Nat) (z : Sl) (w : World) (h : SlAt w b o z) :
    Calls Tryz.prog 35 #[.pointer (some ⟨b, o, none⟩)] w fun e w' => e = .returned (.bool (okSl z)) ∧ w = w' := by
  obtain ⟨g, p, r, m⟩ := z
  obtain ⟨_, h0, h1, h2, h3⟩ := h
  unfold okSl slB
  dsimp only at *
  rcases four (inB g 1 4) (inB p 0 400) (inB r 1 400) (inB m 0 1000) with e | ⟨e0, e⟩ | ⟨e0, e1, e⟩ | ⟨e0, e1, e2, e⟩ | ⟨e0, e1, e2, e⟩
  case inr.inr.inr.inr =>
    by_cases hg : 1 < g
    · go_enter Tryz.func35, Tryz.ntmps35
      go_wp2_with (go_at_call 32; refine (in_any _ _ _ _).mono ?_; rintro e w1 ⟨rfl, rfl⟩)
      go_ret
      exact ⟨by simp [*], rfl⟩
    · by_cases hp : p = 0
      · go_enter Tryz.func35, Tryz.ntmps35
        go_wp2_with (go_at_call 32; refine (in_any _ _ _ _).mono ?_; rintro e w1 ⟨rfl, rfl⟩)
        go_ret
        exact ⟨by simp [*], rfl⟩
      · have hp1 : (p == 0) = false := by simpa using hp
        go_enter Tryz.func35, Tryz.ntmps35
        go_wp2_with (go_at_call 32; refine (in_any _ _ _ _).mono ?_; rintro e w1 ⟨rfl, rfl⟩)
        go_ret
        exact ⟨by simp [*], rfl⟩
  all_goals
    go_enter Tryz.func35, Tryz.ntmps35
    go_wp2_with (go_at_call 32; refine (in_any _ _ _ _).mono ?_; rintro e w1 ⟨rfl, rfl⟩)
    go_ret
    exact ⟨by simp [*], rfl⟩

theorem SlAt_new (g p r m : Int) (w : World) : SlAt (w.alloc (.cells #[.int .i64 g, .int .i64 p, .int .i64 r, .int .i64 m] 25)) w.heap.size 0 ⟨g, p, r, m⟩ := ⟨by simp, by simp, by simp, by simp, by simp⟩

theorem specSlV_any (g p r m : Int) (w : World) :
    Calls Tryz.prog 24 #[.agg #[.int .i64 g, .int .i64 p, .int .i64 r, .int .i64 m]] w fun e w' => e = .returned (.bool (slB g p r m)) ∧ Below w.heap.size w w' := by
  go_enter Tryz.func24, Tryz.ntmps24
  go_wp2_with (go_at_call 35; refine (specSlOk_any _ 0 ⟨g, p, r, m⟩ _ (SlAt_new _ _ _ _ _)).mono ?_; rintro e w1 ⟨rfl, rfl⟩)
  go_ret
  exact ⟨rfl, by go_grown⟩

theorem specSlSq_any (b o : Nat) (z : Sl) (w : World) (h : SlAt w b o z) (hv : okSl z = true) :
    Calls Tryz.prog 61 #[.pointer (some ⟨b, o, none⟩)] w fun e w' => e = .returned (.int .i64 (slSq z.p z.r)) ∧ ∃ n, w' = w.drewN n := by
  obtain ⟨hg, hp, hr, _⟩ := slB_bd hv
  obtain ⟨g, p, r, m⟩ := z
  obtain ⟨_, h0, h1, h2, h3⟩ := h
  dsimp only at *
  have hb := slSq_bd p r hp hr
  have q1 := mul_bd p p 400 400 hp hp
  have q2 := mul_bd (4 * r) r 1600 400 (by omega) (by omega)
  unfold slSq at *
  have w1 : IntKind.i64.wrap (p * p) = p * p := IntWalk.i64_in _ (by omega)
  have w2 : IntKind.i64.wrap (4 * r) = 4 * r := IntWalk.i64_in _ (by omega)
  have w3 : IntKind.i64.wrap (4 * r * r) = 4 * r * r := IntWalk.i64_in _ (by omega)
  have w4 : IntKind.i64.wrap (p * p + 4 * r * r) = p * p + 4 * r * r := IntWalk.i64_in _ (by omega)
  go_enter Tryz.func61, Tryz.ntmps61
  go_wp2_with fail
  go_quiet (fail)
  go_wp2
  go_ret
  exact ⟨rfl, _, rfl⟩

theorem specSlD_any (b o : Nat) (z : Sl) (w : World) (h : SlAt w b o z) (hv : okSl z = true) :
    Calls Tryz.prog 37 #[.pointer (some ⟨b, o, none⟩)] w fun e w' => e = .returned (.int .i64 (slD z.p z.r)) ∧ Below w.heap.size w w' := by
  have HQ := Lib.hid (specSlSq_any b o z w h hv)
  obtain ⟨hg, hp, hr, _⟩ := slB_bd hv
  have hb := slSq_bd z.p z.r hp hr
  unfold slD
  clear h hv
  generalize slSq z.p z.r = N at *
  have HR := Lib.hid (fun u => l02Root_any N u (by omega) (by omega))
  generalize rootL N = R at *
  go_enter Tryz.func37, Tryz.ntmps37
  go_wp2_with fail
  refine HQ.out.mono ?_
  rintro e w1 ⟨rfl, n1, rfl⟩
  go_wp2_with fail
  refine (HR.out _).mono ?_
  rintro e w2 ⟨rfl, rfl⟩
  go_wp2
  go_ret
  exact ⟨rfl, kept_drewN (Below.refl _ _) _⟩

theorem specBear_any (b o : Nat) (z : Sl) (w : World) (h : SlAt w b o z) :
    Calls Tryz.prog 64 #[.pointer (some ⟨b, o, none⟩)] w fun e w' => e = .returned (.int .i64 (bearL z.g)) ∧ w = w' := by
  obtain ⟨g, p, r, m⟩ := z
  obtain ⟨_, h0, h1, h2, h3⟩ := h
  unfold bearL
  dsimp only at *
  have HM := Lib.hid (fun u => min_any 3 g u)
  by_cases hg : 3 < g
  all_goals
    go_enter Tryz.func64, Tryz.ntmps64
    go_wp2_with fail
    refine (HM.out _).mono ?_
    rintro e w1 ⟨rfl, rfl⟩
    go_wp2
    go_ret
    exact ⟨by simp <;> omega, rfl⟩

set_option maxHeartbeats 1000000 in
theorem specSlF_any (b o : Nat) (z : Sl) (k : Int) (w : World) (h : SlAt w b o z) (hv : okSl z = true) (hk : 0 ≤ k ∧ k ≤ 50000) :
    Calls Tryz.prog 39 #[.pointer (some ⟨b, o, none⟩), .int .i64 k] w fun e w' => e = .returned (.agg #[.int .i64 (lowL (k * slD z.p z.r) (slE z.g z.r)).1, .int .i64 (lowL (k * slD z.p z.r) (slE z.g z.r)).2]) ∧ Below w.heap.size w w' := by
  have HD := Lib.hid (fun u (q : SlAt u b o z) => specSlD_any b o z u q hv)
  have HB := Lib.hid (fun u (q : SlAt u b o z) => specBear_any b o z u q)
  obtain ⟨hg, hp, hr, _⟩ := slB_bd hv
  have hD := slD_bd z.p z.r hp hr
  have hE := slE_bd z.g z.r hg hr
  have hBe := bearL_bd hg
  have hN := mul_bd k (slD z.p z.r) 50000 1200 hk (by omega)
  unfold slE at *
  generalize slD z.p z.r = D at *
  generalize bearL z.g = Be at *
  have HM := Lib.hid (fun u => specMake_any (k * D) (2 * Be * z.r) (by omega) (by omega) u)
  generalize lowL (k * D) (2 * Be * z.r) = Z at *
  obtain ⟨z0, z1⟩ := Z
  have w1 : IntKind.i64.wrap (k * D) = k * D := IntWalk.i64_in _ (by omega)
  have w2 : IntKind.i64.wrap (2 * Be) = 2 * Be := IntWalk.i64_in _ (by omega)
  have w3 : IntKind.i64.wrap (2 * Be * z.r) = 2 * Be * z.r := IntWalk.i64_in _ (by omega)
  have w4 : wrap64 (k * D) = k * D := IntWalk.wrap64_in _ (by omega)
  have w5 : wrap64 (2 * Be) = 2 * Be := IntWalk.wrap64_in _ (by omega)
  have w6 : wrap64 (2 * Be * z.r) = 2 * Be * z.r := IntWalk.wrap64_in _ (by omega)
  have H := Lib.hid h
  obtain ⟨hlt, h0, h1, h2, h3⟩ := h
  have hne : ¬ b = w.heap.size := by omega
  clear hv hp hg hE
  obtain ⟨g, p, r, m⟩ := z
  dsimp only at *
  go_enter Tryz.func39, Tryz.ntmps39
  go_wp2_with fail
  go_region_with (first
        | (go_at_call 37; refine (HD.out _ (SlAt_kept H.out (by first | (go_grown; done) | (refine kept_drewN ?_ _; go_grown; done) | (go_grown; refine kept_drewN ?_ _; go_grown)))).mono ?_; rintro e w1 ⟨rfl, hb1⟩; refine kept_at hb1 (w.heap.size) (by go_size) fun c1_0 z1_0 s1_0 => ?_; have b1 := kept_trans (a := w) (by first | (go_grown; done) | (refine kept_drewN ?_ _; go_grown; done) | (go_grown; refine kept_drewN ?_ _; go_grown)) hb1; have hcl := (kept_cell b1 b (o + 2) hlt).trans h2)
        | (go_at_call 64; refine (HB.out _ (SlAt_kept H.out (by first | (go_grown; done) | (refine kept_drewN ?_ _; go_grown; done) | (go_grown; refine kept_drewN ?_ _; go_grown)))).mono ?_; rintro e w2 ⟨rfl, rfl⟩)
        | (go_at_call 63; refine (HM.out _).mono ?_; rintro e w3 ⟨rfl, hb3⟩; refine kept_at hb3 (w.heap.size) (by go_size) fun c3_0 z3_0 s3_0 => ?_; have b3 := kept_trans (a := w) (by first | (go_grown; done) | (refine kept_drewN ?_ _; go_grown; done) | (go_grown; refine kept_drewN ?_ _; go_grown)) hb3))
  all_goals
    go_wp2
    (try simp only [Exit.inBlock, Exit.then])
    refine bodyPost_ret (v := .agg #[.int .i64 z0, .int .i64 z1]) ?_ rfl ⟨rfl, ?_⟩
    · rw [results_cell1 rfl]
      go_simp
    · exact (by first | (go_grown; done) | (refine kept_drewN ?_ _; go_grown; done) | (go_grown; refine kept_drewN ?_ _; go_grown))

theorem low_fr (n d : Int) (hn : 0 ≤ n ∧ n ≤ 60000000) (hd : 1 ≤ d ∧ d ≤ 2400) : (0 ≤ (lowL n d).1 ∧ (lowL n d).1 ≤ 60000000) ∧ (1 ≤ (lowL n d).2 ∧ (lowL n d).2 ≤ 2400) ∧ upL (lowL n d).1 (lowL n d).2 = upL n d := by
  have hu := up_low n d (by omega)
  have hN1 := tdiv_bd n (Nat.gcd n.natAbs d.natAbs) 60000000 (by omega)
  have hE1 := tdiv_bd d (Nat.gcd n.natAbs d.natAbs) 2400 (by omega)
  obtain ⟨c, hc, e1, e2⟩ := low_mul n d (by omega)
  have hpos : 0 < (lowL n d).2 := by
    rcases Int.lt_or_le 0 (lowL n d).2 with h | h
    · exact h
    · have := Int.mul_nonpos_of_nonpos_of_nonneg h (show (0 : Int) ≤ c by omega)
      omega
  have hnn : 0 ≤ (lowL n d).1 := by
    rcases Int.lt_or_le (lowL n d).1 0 with h | h
    · have := Int.mul_neg_of_neg_of_pos h hc
      omega
    · exact h
  exact ⟨⟨hnn, hN1.2⟩, ⟨by omega, hE1.2⟩, hu⟩

theorem specSlUp_any (b o : Nat) (z : Sl) (k : Int) (w : World) (h : SlAt w b o z) (hv : okSl z = true) (hk : 0 ≤ k ∧ k ≤ 50000) :
    Calls Tryz.prog 38 #[.pointer (some ⟨b, o, none⟩), .int .i64 k] w fun e w' => e = .returned (.int .i64 (slUp z.g z.p z.r k)) ∧ Below w.heap.size w w' := by
  have HF := fun u (q : SlAt u b o z) => specSlF_any b o z k u q hv hk
  obtain ⟨hg, hp, hr, _⟩ := slB_bd hv
  have hD := slD_bd z.p z.r hp hr
  have hE := slE_bd z.g z.r hg hr
  have hN := mul_bd k (slD z.p z.r) 50000 1200 hk (by omega)
  have hl := low_fr (k * slD z.p z.r) (slE z.g z.r) (by omega) (by omega)
  unfold slUp
  generalize upL (k * slD z.p z.r) (slE z.g z.r) = U at *
  generalize lowL (k * slD z.p z.r) (slE z.g z.r) = Z at *
  obtain ⟨z0, z1⟩ := Z
  dsimp only at *
  have HU := Lib.hid (fun u => specUp_any z0 z1 (by omega) (by omega) u)
  rw [hl.2.2] at HU
  have HF := Lib.hid HF
  have H := Lib.hid h; clear h hl hN hE hD hp hg hr hv
  go_enter Tryz.func38, Tryz.ntmps38
  go_wp2_with fail
  refine (HF.out _ (SlAt_kept H.out (by go_grown))).mono ?_
  rintro e w1 ⟨rfl, hb1⟩
  go_wp2_with fail
  refine (HU.out _).mono ?_
  rintro e w2 ⟨rfl, rfl⟩
  go_wp2
  go_ret
  exact ⟨rfl, kept_trans hb1 (by go_grown)⟩

theorem specSlCode_any (b o : Nat) (z : Sl) (k : Int) (w : World) (h : SlAt w b o z) :
    Calls Tryz.prog 31 #[.pointer (some ⟨b, o, none⟩), .int .i64 k] w fun e w' => e = .returned (.int .i64 (codeL3 (okSl z) [inB k 0 50000])) ∧ w = w' := by
  have HO := Lib.hid (specSlOk_any b o z w h); clear h
  generalize okSl z = B at *
  cases B <;> cases hk : inB k 0 50000
  all_goals
    go_enter Tryz.func31, Tryz.ntmps31
    go_wp2_with fail
    refine HO.out.mono ?_
    rintro e w1 ⟨rfl, rfl⟩
    go_wp2_with (go_at_call 32; refine (in_any _ _ _ _).mono ?_; rintro e w1 ⟨rfl, rfl⟩)
    go_ret
    exact ⟨by simp [codeL3], rfl⟩

theorem specSlK_any (b o : Nat) (z : Sl) (w : World) (h : SlAt w b o z) (hv : okSl z = true) :
    Calls Tryz.prog 36 #[.pointer (some ⟨b, o, none⟩)] w fun e w' => e = .returned (.int .i64 (slK z.g z.p z.r)) ∧ Below w.heap.size w w' := by
  obtain ⟨hg, hp, hr, _⟩ := slB_bd hv
  obtain ⟨g, p, r, m⟩ := z
  obtain ⟨_, h0, h1, h2, h3⟩ := h
  dsimp only at *
  clear hv
  have q1 := mul_bd p p 400 400 hp hp
  have q2 := mul_bd (12 * r) r 4800 400 (by omega) (by omega)
  have w1 : IntKind.i64.wrap (p * p) = p * p := IntWalk.i64_in _ (by omega)
  have w2 : IntKind.i64.wrap (12 * r) = 12 * r := IntWalk.i64_in _ (by omega)
  have w3 : IntKind.i64.wrap (12 * r * r) = 12 * r * r := IntWalk.i64_in _ (by omega)
  have w4 : IntKind.i64.wrap (2 * r) = 2 * r := IntWalk.i64_in _ (by omega)
  unfold slK
  by_cases h1g : g = 1
  · subst h1g
    go_enter Tryz.func36, Tryz.ntmps36
    go_wp2
    go_ret
    exact ⟨rfl, Below.refl _ _⟩
  have h1b : (g == 1) = false := by simpa using h1g
  rw [if_neg h1g]
  by_cases h2r : p ≤ 2 * r
  · have d2 : decide (p ≤ 2 * r) = true := by simpa using h2r
    rw [if_pos h2r]
    go_enter Tryz.func36, Tryz.ntmps36
    go_wp2_with fail
    go_quiet (fail)
    go_wp2
    go_ret
    exact ⟨rfl, kept_drewN (Below.refl _ _) _⟩
  have d2 : decide (p ≤ 2 * r) = false := by simpa using h2r
  rw [if_neg h2r]
  by_cases h3r : p * p ≤ 12 * r * r
  · have d3 : decide (p * p ≤ 12 * r * r) = true := by simpa using h3r
    rw [if_pos h3r]
    go_enter Tryz.func36, Tryz.ntmps36
    go_wp2_with fail
    go_quiet (fail)
    go_wp2_with fail
    go_quiet (fail)
    go_wp2
    go_ret
    exact ⟨rfl, kept_drewN (kept_drewN (Below.refl _ _) _) _⟩
  · have d3 : decide (p * p ≤ 12 * r * r) = false := by simpa using h3r
    rw [if_neg h3r]
    go_enter Tryz.func36, Tryz.ntmps36
    go_wp2_with fail
    go_quiet (fail)
    go_wp2_with fail
    go_quiet (fail)
    go_wp2
    go_ret
    exact ⟨rfl, kept_drewN (kept_drewN (Below.refl _ _) _) _⟩

theorem specSlH_any (b o : Nat) (z : Sl) (k q : Int) (w : World) (h : SlAt w b o z) (hv : okSl z = true) (hk : 0 ≤ k ∧ k ≤ 50000) :
    Calls Tryz.prog 33 #[.pointer (some ⟨b, o, none⟩), .int .i64 k, .int .i64 q] w fun e w' => e = .returned (.bool (holdsSl z k q)) ∧ Below w.heap.size w w' := by
  have HK := Lib.hid (specSlK_any b o z w h hv)
  have HU := Lib.hid (fun u (x : SlAt u b o z) => specSlUp_any b o z k u x hv hk)
  have H := Lib.hid h; clear h hv hk
  unfold holdsSl slHolds
  generalize slK z.g z.p z.r = K at *
  generalize slUp z.g z.p z.r k = U at *
  by_cases hK : K < 3
  · have d1 : decide (K < 3) = true := by simpa using hK
    go_enter Tryz.func33, Tryz.ntmps33
    go_wp2_with fail
    refine HK.out.mono ?_
    rintro e w1 ⟨rfl, hb1⟩
    go_wp2_with fail
    refine (HU.out _ (SlAt_kept H.out hb1)).mono ?_
    rintro e w2 ⟨rfl, hb2⟩
    go_wp2
    go_ret
    exact ⟨by simp [d1], kept_trans hb1 hb2⟩
  · have d1 : decide (K < 3) = false := by simpa using hK
    go_enter Tryz.func33, Tryz.ntmps33
    go_wp2_with fail
    refine HK.out.mono ?_
    rintro e w1 ⟨rfl, hb1⟩
    go_wp2
    go_ret
    exact ⟨by simp [d1], hb1⟩

theorem specLL_any (g p r m : Int) (w : World) :
    Calls Tryz.prog 10 #[.agg #[.int .i64 g, .int .i64 p, .int .i64 r, .int .i64 m]] w fun e w' => e = .returned (.tuple #[.int .i64 (llL g p r m).1, .int .i64 (llL g p r m).2]) ∧ Below w.heap.size w w' := by
  have HA := Lib.hid (SlAt_new g p r m w)
  have HO := fun u (x : SlAt u w.heap.size 0 ⟨g, p, r, m⟩) => specSlOk_any w.heap.size 0 ⟨g, p, r, m⟩ u x
  have hE : okSl ⟨g, p, r, m⟩ = slB g p r m := rfl
  rw [hE] at HO
  unfold llL
  cases hv : slB g p r m
  · rw [hv] at HO
    have HO := Lib.hid HO
    go_enter Tryz.func10, Tryz.ntmps10
    go_wp2_with fail
    refine (HO.out _ (SlAt_kept HA.out (by go_grown))).mono ?_
    rintro e w1 ⟨rfl, rfl⟩
    go_wp2
    go_ret2
    exact ⟨rfl, by go_grown⟩
  · rw [hv] at HO
    have HO := Lib.hid HO
    have HD := Lib.hid (fun u (x : SlAt u w.heap.size 0 ⟨g, p, r, m⟩) => specSlD_any w.heap.size 0 ⟨g, p, r, m⟩ u x (by rw [hE]; exact hv))
    obtain ⟨hg, hp, hr, _⟩ := slB_bd hv
    have hD := slD_bd p r hp hr
    dsimp only at HD
    generalize slD p r = D at *
    have e2 : (D + 1).tdiv 2 = (D + 1) / 2 := Int.tdiv_eq_ediv_of_nonneg (by omega)
    go_enter Tryz.func10, Tryz.ntmps10
    go_wp2_with fail
    refine (HO.out _ (SlAt_kept HA.out (by go_grown))).mono ?_
    rintro e w1 ⟨rfl, rfl⟩
    go_wp2_with fail
    refine (HD.out _ (SlAt_kept HA.out (by go_grown))).mono ?_
    rintro e w2 ⟨rfl, hb2⟩
    have b2 := kept_trans (a := w) (by go_grown) hb2
    go_wp2
    go_ret2
    exact ⟨by simp <;> omega, b2⟩

theorem specLF_any (g p r m : Int) (k : Int) (w : World) :
    Calls Tryz.prog 12 #[.agg #[.int .i64 g, .int .i64 p, .int .i64 r, .int .i64 m], .int .i64 k] w fun e w' => e = .returned (.tuple #[.agg #[.int .i64 (lfL g p r m k).1.1, .int .i64 (lfL g p r m k).1.2], .int .i64 (lfL g p r m k).2]) ∧ Below w.heap.size w w' := by
  have HA := Lib.hid (SlAt_new g p r m w)
  have HC := fun u (x : SlAt u w.heap.size 0 ⟨g, p, r, m⟩) => specSlCode_any w.heap.size 0 ⟨g, p, r, m⟩ k u x
  have hE : okSl ⟨g, p, r, m⟩ = slB g p r m := rfl
  rw [hE] at HC
  unfold lfL
  by_cases hK : codeL3 (slB g p r m) [inB k 0 50000] = 0
  · rw [hK] at HC
    rw [if_pos hK]
    obtain ⟨hv, hbs⟩ := codeL3_ok hK
    have hk := inB_true (hbs _ (List.mem_singleton.2 rfl))
    have HC := Lib.hid HC
    have HF := fun u (x : SlAt u w.heap.size 0 ⟨g, p, r, m⟩) => specSlF_any w.heap.size 0 ⟨g, p, r, m⟩ k u x (by rw [hE]; exact hv) hk
    dsimp only at HF
    clear hK hbs
    generalize lowL (k * slD p r) (slE g r) = Z at *
    obtain ⟨z0, z1⟩ := Z
    dsimp only at *
    have HF := Lib.hid HF
    go_enter Tryz.func12, Tryz.ntmps12
    go_wp2_with fail
    refine (HC.out _ (SlAt_kept HA.out (by go_grown))).mono ?_
    rintro e w1 ⟨rfl, rfl⟩
    go_wp2_with fail
    refine (HF.out _ (SlAt_kept HA.out (by go_grown))).mono ?_
    rintro e w2 ⟨rfl, hb2⟩
    refine kept_at hb2 (w.heap.size + 1) (by go_size) fun c2_1 z2_1 s2_1 => ?_
    have b2 := kept_trans (a := w) (by go_grown) hb2
    go_wp2
    (try simp only [Exit.inBlock, Exit.then])
    refine bodyPost_ret (v := .tuple #[.agg #[.int .i64 z0, .int .i64 z1], .int .i64 0]) ?_ rfl ⟨rfl, ?_⟩
    · rw [results_cell_tmp rfl]
      go_simp
    · exact (by first | (go_grown; done) | (refine kept_drewN ?_ _; go_grown; done) | (go_grown; refine kept_drewN ?_ _; go_grown))
  · rw [if_neg hK]
    have hK1 : (codeL3 (slB g p r m) [inB k 0 50000] == 0) = false := by simpa using hK
    have hK2 : (codeL3 (slB g p r m) [inB k 0 50000] != 0) = true := by simpa using hK
    generalize codeL3 (slB g p r m) [inB k 0 50000] = K at *
    have HC := Lib.hid HC
    go_enter Tryz.func12, Tryz.ntmps12
    go_wp2_with fail
    refine (HC.out _ (SlAt_kept HA.out (by go_grown))).mono ?_
    rintro e w1 ⟨rfl, rfl⟩
    go_wp2
    (try simp only [Exit.inBlock, Exit.then])
    refine bodyPost_ret (v := .tuple #[.agg #[.int .i64 0, .int .i64 0], .int .i64 K]) ?_ rfl ⟨rfl, ?_⟩
    · rw [results_cell_tmp rfl]
      go_simp
    · go_grown

end Go.Proofs.YtedmpjgpgbmolaaGreatDoor
