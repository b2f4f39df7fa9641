/- Proved: for every input the law FnExactReadSling returns true, and each argument reads afterwards as it read before; no condition beside those of the given row. -/
import Derived.Test.YtedmpjgpgbmolabDoorRows
import Derived.WalkKit
import Derived.ProofKit
import Derived.OpenShut
import Derived.Lib.Hide
import Derived.Handy
import Derived.BigQuiet
import Derived.Carry
import Derived.Deep.RegionHeld3
import Derived.Laws.ResultCell
import Derived.Lib.CutLaws
import Derived.Lib.FieldsP
import Derived.Lib.ItoaLen
import Derived.Lib.ItoaNum
import Derived.Lib.Join
import Derived.Lib.LaidTab
import Derived.Lib.LaidU8
import Derived.Lib.ParseIntB
import Derived.Lib.SmallJoins
import Derived.Lib.Strings
import Derived.Lib.TrimUEq
import Derived.OwnWalk
import Derived.Shelf.Abstract
import Derived.Shelf.Strings.FieldsFuncAny
import Derived.Shelf.Strings.Builder1
import Derived.Shelf.Strings.Builder2
import Derived.Shelf.Strings.OnBuilder
import Derived.Shelf.Strconv.Itoa0
import Derived.Shelf.Strconv.Itoa1
import Derived.Shelf.LaysM
import Derived.Shelf.Strconv.Itoa2
import Derived.Shelf.Strconv.Itoa3
import Derived.Shelf.Strconv.Itoa4
import Derived.Shelf.Strconv.ParseIntEmpty
import Derived.Shelf.Strconv.Clone
import Derived.Shelf.Strconv.SyntaxError
import Derived.Shelf.LaysC
import Derived.Shelf.Strconv.ToError
import Derived.Shelf.Strconv.Lower
import Derived.Shelf.Strconv.ParseUint10
import Derived.Shelf.Strconv.ParseUint10Empty
import Derived.Shelf.Strconv.ParseUint10Any
import Derived.Shelf.Strconv.ParseInt10
import Derived.Shelf.Strconv.RangeError
import Derived.Shelf.Strconv.ToErrorRange
import Derived.Shelf.Strconv.ParseUintEmpty
import Derived.Shelf.Strconv.ParseUint10b64
import Derived.Shelf.Strconv.ParseUint10b32
import Derived.Shelf.Strconv.ParseUint10b16
import Derived.Shelf.Strconv.ParseUint10b8
import Derived.Shelf.Strconv.ParseUint10At
import Derived.Shelf.Strconv.ParseInt10At64
import Derived.Shelf.Strconv.ParseInt10At32
import Derived.Shelf.Strconv.ParseInt10At16
import Derived.Shelf.Strconv.ParseInt10At8
import Derived.Shelf.Strconv.ParseInt10All
import Derived.Shelf.Strconv.ParseIntPublic10
import Derived.Shelf.Strings.Search1
import Derived.Shelf.Strings.Search2
import Derived.Shelf.Strings.Cut
import Derived.Shelf.Strings.Shaped
import Derived.Shelf.Strings.Prefix
import Derived.Shelf.Strings.FieldsFuncAny
import Derived.Test.YtedmpjgpgbmolabDoorCards
import Derived.Test.YtedmpjgpgbmolabDoorTie
import Derived.Lib.SmallJoins
import Derived.ChangeMaps5
import Derived.Deep.DeepHandedRow
import Derived.Deep.DeepWitnessRowRef
import Derived.Lib.LaidTab
import Derived.SevenTiedAt
namespace Go.Proofs
open Go.Shelf
def Tryd.laysM173_ren : Go.Shelf.Ren := ⟨fun | 173 => 166 | 246 => 215 | 283 => 249 | 284 => 250 | 285 => 251 | 286 => 252 | 129 => 269 | 317 => 268 | 318 => 270 | 319 => 271 | 320 => 272 | 337 => 276 | 338 => 277 | n => n, fun | 2 => 2 | 3 => 3 | 9 => 9 | 4 => 4 | 171 => 275 | 0 => 0 | 53 => 206 | 37 => 28 | 5 => 5 | 173 => 278 | 212 => 304 | 51 => 305 | 20 => 20 | 213 => 306 | 46 => 221 | 232 => 314 | 233 => 315 | n => n, fun | 17 => 8 | 18 => 9 | 19 => 10 | n => n⟩
theorem Tryd.laysM173 : Go.Proofs.LaysM.n173 Tryd.prog Tryd.laysM173_ren := {
  mixed := by kernel_rfl
  f129 := Tryd.func269.trans (congrArg some (by kernel_rfl))
  f173 := Tryd.func166.trans (congrArg some (by kernel_rfl))
  f246 := Tryd.func215.trans (congrArg some (by kernel_rfl))
  f283 := Tryd.func249.trans (congrArg some (by kernel_rfl))
  f284 := Tryd.func250.trans (congrArg some (by kernel_rfl))
  f285 := Tryd.func251.trans (congrArg some (by kernel_rfl))
  f286 := Tryd.func252.trans (congrArg some (by kernel_rfl))
  f317 := Tryd.func268.trans (congrArg some (by kernel_rfl))
  f318 := Tryd.func270.trans (congrArg some (by kernel_rfl))
  f319 := Tryd.func271.trans (congrArg some (by kernel_rfl))
  f320 := Tryd.func272.trans (congrArg some (by kernel_rfl))
  f337 := Tryd.func276.trans (congrArg some (by kernel_rfl))
  f338 := Tryd.func277.trans (congrArg some (by kernel_rfl))
  t0 := Tryd.underlying0
  a0 := Tryd.isAgg0
  z0 := Tryd.sizeOf0
  v0 := Tryd.zeroValue0
  t2 := Tryd.underlying2
  a2 := Tryd.isAgg2
  z2 := Tryd.sizeOf2
  v2 := Tryd.zeroValue2
  t3 := Tryd.underlying3
  a3 := Tryd.isAgg3
  z3 := Tryd.sizeOf3
  v3 := Tryd.zeroValue3
  t4 := Tryd.underlying4
  a4 := Tryd.isAgg4
  z4 := Tryd.sizeOf4
  v4 := Tryd.zeroValue4
  t5 := Tryd.underlying5
  a5 := Tryd.isAgg5
  z5 := Tryd.sizeOf5
  v5 := Tryd.zeroValue5
  t9 := Tryd.underlying9
  a9 := Tryd.isAgg9
  z9 := Tryd.sizeOf9
  v9 := Tryd.zeroValue9
  t20 := Tryd.underlying20
  a20 := Tryd.isAgg20
  z20 := Tryd.sizeOf20
  v20 := Tryd.zeroValue20
  t37 := Tryd.underlying28
  a37 := Tryd.isAgg28
  z37 := Tryd.sizeOf28
  v37 := Tryd.zeroValue28
  t46 := Tryd.underlying221
  a46 := Tryd.isAgg221
  z46 := Tryd.sizeOf221
  v46 := Tryd.zeroValue221
  t51 := Tryd.underlying305
  a51 := Tryd.isAgg305
  z51 := Tryd.sizeOf305
  v51 := Tryd.zeroValue305
  t53 := Tryd.underlying206
  a53 := Tryd.isAgg206
  z53 := Tryd.sizeOf206
  v53 := Tryd.zeroValue206
  t171 := Tryd.underlying275
  a171 := Tryd.isAgg275
  z171 := Tryd.sizeOf275
  v171 := Tryd.zeroValue275
  t173 := Tryd.underlying278
  a173 := Tryd.isAgg278
  z173 := Tryd.sizeOf278
  v173 := Tryd.zeroValue278
  t212 := Tryd.underlying304
  a212 := Tryd.isAgg304
  z212 := Tryd.sizeOf304
  v212 := Tryd.zeroValue304
  t213 := Tryd.underlying306
  a213 := Tryd.isAgg306
  z213 := Tryd.sizeOf306
  t232 := Tryd.underlying314
  a232 := Tryd.isAgg314
  z232 := Tryd.sizeOf314
  v232 := Tryd.zeroValue314
  t233 := Tryd.underlying315
  a233 := Tryd.isAgg315
  z233 := Tryd.sizeOf315
  v233 := Tryd.zeroValue315
  g17 := by kernel_rfl
  g18 := by kernel_rfl
  g19 := by kernel_rfl
  i0 := by kernel_rfl
  i2 := by kernel_rfl
  i3 := by kernel_rfl
  i4 := by kernel_rfl
  i5 := by kernel_rfl
  i9 := by kernel_rfl
  i20 := by kernel_rfl
  i37 := by kernel_rfl
  i46 := by kernel_rfl
  i51 := by kernel_rfl
  i53 := by kernel_rfl
  i171 := by kernel_rfl
  i173 := by kernel_rfl
  i212 := by kernel_rfl
  i232 := by kernel_rfl
  i233 := by kernel_rfl
  m17 := by kernel_rfl
  m18 := by kernel_rfl
  m19 := by kernel_rfl }
open Go.RowKit Go.Sort Go.Lib in
/-- strconv.FormatInt: "FormatInt returns the string representation of i in the given base": AT BASE 10: i's decimal numeral, for every int64. (LAID: no walk: one application.) -/
theorem Tryd.strconv_FormatInt_10 (n : Int) (h0 : -9223372036854775808 ≤ n) (h1 : n ≤ 9223372036854775807) (w : World) (htab : Lib.TabIs Tryd.prog w "internal/strconv.uint64pow10" .u64 Lib.pow10Tab) :
    Calls Tryd.prog 166 #[.int .i64 n, .int .i64 10] w fun e w' => e = .returned (.string ⟨(Lib.itoa n).toArray⟩) ∧ ∃ k os, w' = grow (w.drewN k) os := Any.strconv_FormatInt_10 Tryd.laysM173 n h0 h1 w htab
def Tryd.laysC174_ren : Go.Shelf.Ren := ⟨fun | 174 => 160 | 247 => 210 | 245 => 211 | 287 => 241 | 279 => 242 | 280 => 243 | 281 => 244 | 282 => 245 | 321 => 258 | 322 => 259 | 316 => 260 | 171 => 262 | 205 => 261 | 243 => 273 | 246 => 215 | 283 => 249 | 284 => 250 | 285 => 251 | 286 => 252 | 129 => 269 | 317 => 268 | 318 => 270 | 319 => 271 | 320 => 272 | 337 => 276 | 338 => 277 | n => n, fun | 9 => 9 | 3 => 3 | 2 => 2 | 75 => 134 | 85 => 203 | 4 => 4 | 167 => 267 | 5 => 5 | 53 => 206 | 175 => 268 | 46 => 221 | 168 => 270 | 37 => 28 | 0 => 0 | 210 => 299 | 21 => 21 | 127 => 248 | 145 => 310 | 143 => 308 | 171 => 275 | 173 => 278 | 212 => 304 | 51 => 305 | 20 => 20 | 213 => 306 | 232 => 314 | 233 => 315 | 80 => 220 | n => n, fun | 15 => 5 | 16 => 6 | 17 => 8 | 18 => 9 | 19 => 10 | n => n⟩
theorem Tryd.laysC174 : Go.Proofs.LaysC.n174 Tryd.prog Tryd.laysC174_ren := {
  mixed := by kernel_rfl
  f129 := Tryd.func269.trans (congrArg some (by kernel_rfl))
  f171 := Tryd.func262.trans (congrArg some (by kernel_rfl))
  f174 := Tryd.func160.trans (congrArg some (by kernel_rfl))
  f205 := Tryd.func261.trans (congrArg some (by kernel_rfl))
  f243 := Tryd.func273.trans (congrArg some (by kernel_rfl))
  f245 := Tryd.func211.trans (congrArg some (by kernel_rfl))
  f246 := Tryd.func215.trans (congrArg some (by kernel_rfl))
  f247 := Tryd.func210.trans (congrArg some (by kernel_rfl))
  f279 := Tryd.func242.trans (congrArg some (by kernel_rfl))
  f280 := Tryd.func243.trans (congrArg some (by kernel_rfl))
  f281 := Tryd.func244.trans (congrArg some (by kernel_rfl))
  f282 := Tryd.func245.trans (congrArg some (by kernel_rfl))
  f283 := Tryd.func249.trans (congrArg some (by kernel_rfl))
  f284 := Tryd.func250.trans (congrArg some (by kernel_rfl))
  f285 := Tryd.func251.trans (congrArg some (by kernel_rfl))
  f286 := Tryd.func252.trans (congrArg some (by kernel_rfl))
  f287 := Tryd.func241.trans (congrArg some (by kernel_rfl))
  f316 := Tryd.func260.trans (congrArg some (by kernel_rfl))
  f317 := Tryd.func268.trans (congrArg some (by kernel_rfl))
  f318 := Tryd.func270.trans (congrArg some (by kernel_rfl))
  f319 := Tryd.func271.trans (congrArg some (by kernel_rfl))
  f320 := Tryd.func272.trans (congrArg some (by kernel_rfl))
  f321 := Tryd.func258.trans (congrArg some (by kernel_rfl))
  f322 := Tryd.func259.trans (congrArg some (by kernel_rfl))
  f337 := Tryd.func276.trans (congrArg some (by kernel_rfl))
  f338 := Tryd.func277.trans (congrArg some (by kernel_rfl))
  t0 := Tryd.underlying0
  a0 := Tryd.isAgg0
  z0 := Tryd.sizeOf0
  v0 := Tryd.zeroValue0
  t2 := Tryd.underlying2
  a2 := Tryd.isAgg2
  z2 := Tryd.sizeOf2
  v2 := Tryd.zeroValue2
  t3 := Tryd.underlying3
  a3 := Tryd.isAgg3
  z3 := Tryd.sizeOf3
  v3 := Tryd.zeroValue3
  t4 := Tryd.underlying4
  a4 := Tryd.isAgg4
  z4 := Tryd.sizeOf4
  v4 := Tryd.zeroValue4
  t5 := Tryd.underlying5
  a5 := Tryd.isAgg5
  z5 := Tryd.sizeOf5
  v5 := Tryd.zeroValue5
  t9 := Tryd.underlying9
  a9 := Tryd.isAgg9
  z9 := Tryd.sizeOf9
  v9 := Tryd.zeroValue9
  t20 := Tryd.underlying20
  a20 := Tryd.isAgg20
  z20 := Tryd.sizeOf20
  v20 := Tryd.zeroValue20
  t21 := Tryd.underlying21
  a21 := Tryd.isAgg21
  z21 := Tryd.sizeOf21
  v21 := Tryd.zeroValue21
  t37 := Tryd.underlying28
  a37 := Tryd.isAgg28
  z37 := Tryd.sizeOf28
  v37 := Tryd.zeroValue28
  t46 := Tryd.underlying221
  a46 := Tryd.isAgg221
  z46 := Tryd.sizeOf221
  v46 := Tryd.zeroValue221
  t51 := Tryd.underlying305
  a51 := Tryd.isAgg305
  z51 := Tryd.sizeOf305
  v51 := Tryd.zeroValue305
  t53 := Tryd.underlying206
  a53 := Tryd.isAgg206
  z53 := Tryd.sizeOf206
  v53 := Tryd.zeroValue206
  t75 := Tryd.underlying134
  a75 := Tryd.isAgg134
  z75 := Tryd.sizeOf134
  v75 := Tryd.zeroValue134
  t85 := Tryd.underlying203
  a85 := Tryd.isAgg203
  z85 := Tryd.sizeOf203
  v85 := Tryd.zeroValue203
  t127 := Tryd.underlying248
  a127 := Tryd.isAgg248
  z127 := Tryd.sizeOf248
  v127 := Tryd.zeroValue248
  t143 := Tryd.underlying308
  a143 := Tryd.isAgg308
  z143 := Tryd.sizeOf308
  v143 := Tryd.zeroValue308
  t145 := Tryd.underlying310
  a145 := Tryd.isAgg310
  z145 := Tryd.sizeOf310
  v145 := Tryd.zeroValue310
  t167 := Tryd.underlying267
  a167 := Tryd.isAgg267
  z167 := Tryd.sizeOf267
  v167 := Tryd.zeroValue267
  t168 := Tryd.underlying270
  a168 := Tryd.isAgg270
  z168 := Tryd.sizeOf270
  v168 := Tryd.zeroValue270
  t171 := Tryd.underlying275
  a171 := Tryd.isAgg275
  z171 := Tryd.sizeOf275
  v171 := Tryd.zeroValue275
  t173 := Tryd.underlying278
  a173 := Tryd.isAgg278
  z173 := Tryd.sizeOf278
  v173 := Tryd.zeroValue278
  t175 := Tryd.underlying268
  a175 := Tryd.isAgg268
  z175 := Tryd.sizeOf268
  v175 := Tryd.zeroValue268
  t210 := Tryd.underlying299
  a210 := Tryd.isAgg299
  z210 := Tryd.sizeOf299
  v210 := Tryd.zeroValue299
  t212 := Tryd.underlying304
  a212 := Tryd.isAgg304
  z212 := Tryd.sizeOf304
  v212 := Tryd.zeroValue304
  t213 := Tryd.underlying306
  a213 := Tryd.isAgg306
  z213 := Tryd.sizeOf306
  t232 := Tryd.underlying314
  a232 := Tryd.isAgg314
  z232 := Tryd.sizeOf314
  v232 := Tryd.zeroValue314
  t233 := Tryd.underlying315
  a233 := Tryd.isAgg315
  z233 := Tryd.sizeOf315
  v233 := Tryd.zeroValue315
  g15 := by kernel_rfl
  g16 := by kernel_rfl
  g17 := by kernel_rfl
  g18 := by kernel_rfl
  g19 := by kernel_rfl
  t80 := Tryd.underlying220
  a80 := Tryd.isAgg220
  z80 := Tryd.sizeOf220
  v80 := Tryd.zeroValue220
  i0 := by kernel_rfl
  i2 := by kernel_rfl
  i3 := by kernel_rfl
  i4 := by kernel_rfl
  i5 := by kernel_rfl
  i9 := by kernel_rfl
  i20 := by kernel_rfl
  i21 := by kernel_rfl
  i37 := by kernel_rfl
  i46 := by kernel_rfl
  i51 := by kernel_rfl
  i53 := by kernel_rfl
  i75 := by kernel_rfl
  i80 := by kernel_rfl
  i85 := by kernel_rfl
  i127 := by kernel_rfl
  i143 := by kernel_rfl
  i145 := by kernel_rfl
  i167 := by kernel_rfl
  i168 := by kernel_rfl
  i171 := by kernel_rfl
  i173 := by kernel_rfl
  i175 := by kernel_rfl
  i210 := by kernel_rfl
  i212 := by kernel_rfl
  i232 := by kernel_rfl
  i233 := by kernel_rfl
  m15 := by kernel_rfl
  m16 := by kernel_rfl
  m17 := by kernel_rfl
  m18 := by kernel_rfl
  m19 := by kernel_rfl
  c0 := by kernel_rfl
  c2 := by kernel_rfl
  c3 := by kernel_rfl
  c4 := by kernel_rfl
  c5 := by kernel_rfl
  c9 := by kernel_rfl
  c20 := by kernel_rfl
  c21 := by kernel_rfl
  c37 := by kernel_rfl
  c46 := by kernel_rfl
  c51 := by kernel_rfl
  c53 := by kernel_rfl
  c75 := by kernel_rfl
  c80 := by kernel_rfl
  c85 := by kernel_rfl
  c127 := by kernel_rfl
  c143 := by kernel_rfl
  c145 := by kernel_rfl
  c167 := by kernel_rfl
  c168 := by kernel_rfl
  c171 := by kernel_rfl
  c173 := by kernel_rfl
  c175 := by kernel_rfl
  c210 := by kernel_rfl
  c212 := by kernel_rfl
  c213 := by kernel_rfl
  c232 := by kernel_rfl
  c233 := by kernel_rfl }
def Tryd.lays101_ren : Go.Shelf.Ren := ⟨fun | 101 => 159 | 208 => 209 | 206 => 240 | n => n, fun | 9 => 9 | 4 => 4 | 3 => 3 | n => n, fun | n => n⟩
theorem Tryd.lays101 : Go.Proofs.Lays.n101 Tryd.prog Tryd.lays101_ren := {
  mixed := by kernel_rfl
  f101 := Tryd.func159.trans (congrArg some (by kernel_rfl))
  f206 := Tryd.func240.trans (congrArg some (by kernel_rfl))
  f208 := Tryd.func209.trans (congrArg some (by kernel_rfl))
  t3 := Tryd.underlying3
  a3 := Tryd.isAgg3
  z3 := Tryd.sizeOf3
  v3 := Tryd.zeroValue3
  t4 := Tryd.underlying4
  a4 := Tryd.isAgg4
  z4 := Tryd.sizeOf4
  v4 := Tryd.zeroValue4
  t9 := Tryd.underlying9
  a9 := Tryd.isAgg9
  z9 := Tryd.sizeOf9
  v9 := Tryd.zeroValue9 }
open Go.RowKit Go.Lib in
/-- strings.TrimPrefix: "TrimPrefix returns s without the provided leading prefix string. If s doesn't start with prefix, s is returned unchanged.": IT RETURNS 'Lib.trimPrefix s prefix'; the world is as it was. (LAID: no walk: one application.) -/
theorem Tryd.strings_TrimPrefix (s p : ByteArray) (w : World) :
    Calls Tryd.prog 159 #[.string s, .string p] w fun e w' => e = .returned (.string ⟨(Lib.trimPrefix s.data.toList p.data.toList).toArray⟩) ∧ w' = w := Any.strings_TrimPrefix Tryd.lays101 s p w
def Tryd.lays229_ren : Go.Shelf.Ren := ⟨fun | 229 => 72 | n => n, fun | 9 => 9 | 40 => 114 | 31 => 105 | 152 => 199 | 3 => 3 | 0 => 0 | 4 => 4 | 21 => 21 | 154 => 201 | n => n, fun | n => n⟩
theorem Tryd.lays229 : Go.Proofs.Lays.n229 Tryd.prog Tryd.lays229_ren := {
  mixed := by kernel_rfl
  f229 := Tryd.func72.trans (congrArg some (by kernel_rfl))
  t0 := Tryd.underlying0
  a0 := Tryd.isAgg0
  z0 := Tryd.sizeOf0
  v0 := Tryd.zeroValue0
  t3 := Tryd.underlying3
  a3 := Tryd.isAgg3
  z3 := Tryd.sizeOf3
  v3 := Tryd.zeroValue3
  t4 := Tryd.underlying4
  a4 := Tryd.isAgg4
  z4 := Tryd.sizeOf4
  v4 := Tryd.zeroValue4
  t9 := Tryd.underlying9
  a9 := Tryd.isAgg9
  z9 := Tryd.sizeOf9
  v9 := Tryd.zeroValue9
  t21 := Tryd.underlying21
  a21 := Tryd.isAgg21
  z21 := Tryd.sizeOf21
  v21 := Tryd.zeroValue21
  t31 := Tryd.underlying105
  a31 := Tryd.isAgg105
  z31 := Tryd.sizeOf105
  v31 := Tryd.zeroValue105
  t40 := Tryd.underlying114
  a40 := Tryd.isAgg114
  z40 := Tryd.sizeOf114
  v40 := Tryd.zeroValue114
  t152 := Tryd.underlying199
  a152 := Tryd.isAgg199
  z152 := Tryd.sizeOf199
  v152 := Tryd.zeroValue199
  t154 := Tryd.underlying201
  a154 := Tryd.isAgg201
  z154 := Tryd.sizeOf201
  v154 := Tryd.zeroValue201 }
open Go.RowKit Go.Lib in
theorem Tryd.strings_FieldsFunc_runes (g : Nat) (lb : Array Value) (eg : ∀ args w, (callFunc g args).run Tryd.prog w = .ok (.enter g args) w) (p : Nat → Bool) (s : ByteArray) (w : World) (hs : s.size ≤ 4294967296) (hp : PredAtRunes Tryd.prog g lb p w) :
    Calls Tryd.prog 72 #[.string s, .func (.func g) #[] lb] w fun e w' => ∃ A, e = .returned (.slice (some ⟨A, 0, none⟩) (Lib.goFieldsP p s).length (Lib.goFieldsP p s).length) ∧ w.heap.size ≤ A ∧
      w'.ownsRow w.heap.size 9 1 (.slice (some ⟨A, 0, none⟩) (Lib.goFieldsP p s).length (Lib.goFieldsP p s).length) (Lib.goFieldsP p s).length ((Lib.goFieldsP p s).map Value.string) ∧ Below w.heap.size w w' := Any.strings_FieldsFunc_runes Tryd.lays229 g lb eg p s w hs hp (by kernel_rfl) (by kernel_rfl)
end Go.Proofs
namespace Go.Proofs.YtedmpjgpgbmolabDoor
open Go.ChangeShapes Go.WideShapes Go.ChangeAt Go.RowKit
set_option linter.unusedVariables false
set_option linter.unusedSimpArgs false

theorem trodAll_stay {H : Type} {enc : TypeId × Value → H} {P : Program} (hl : laidOutB P = true) {W W' : World} (hb : Below W.heap.size W W') :
    ∀ (ts : List TypeId) (vs : List Value) (ds : List (DataW H)) (ps : List MemPlace), ts.all (fun t => P.readableRec t && decide (t < P.types.size)) = true →
      DataW.TrodAll enc P W 0 (fun _ => true) true ts vs ds ps → (∀ x ∈ ps, x.block < W.heap.size) →
      DataW.TrodAll enc P W' 0 (fun b => decide (b < W.heap.size)) true ts vs ds ps := by
  intro ts
  induction ts with
  | nil => intro vs ds ps _ h _; obtain ⟨rfl, rfl, rfl⟩ := trodAll_nil h; exact rfl
  | cons t ts ih =>
    intro vs ds ps hr h hlt
    simp only [List.all_cons, Bool.and_eq_true, decide_eq_true_eq] at hr
    obtain ⟨v, vs', d, ds', p, q, rfl, rfl, rfl, h0, h1⟩ := trodAll_cons h
    exact ⟨p, q, Below.trod hl hr.1.1 hr.1.2 h0 hb (fun x hx => hlt x (by simp [hx])), ih _ _ _ hr.2 h1 (fun x hx => hlt x (by simp [hx])), rfl⟩

/-- Each variable's type is one that can be read. -/
def varsOk (P : Program) (ns : List String) : Bool := ns.all fun n => match P.globalNamed n with
  | some g => (match (P.globals[g]?).map (·.type) with | some t => P.readableRec t && decide (t < P.types.size) | none => true)
  | none => true

theorem trodVars_stay {H : Type} {enc : TypeId × Value → H} {P : Program} (hl : laidOutB P = true) {W W' : World} (hb : Below W.heap.size W W') :
    ∀ (ns : List String) (gs : List (DataW H)) (ps : List MemPlace), varsOk P ns = true → DataW.TrodVars enc P W (fun _ => true) ns gs ps → (∀ x ∈ ps, x.block < W.heap.size) →
      DataW.TrodVars enc P W' (fun b => decide (b < W.heap.size)) ns gs ps := by
  intro ns
  induction ns with
  | nil => intro gs ps _ h _; obtain ⟨rfl, rfl⟩ := trodVars_none h; exact rfl
  | cons n ns ih =>
    intro gs ps hv h hlt
    cases gs with
    | nil => exact h.elim
    | cons d gs =>
      obtain ⟨g, t, cs, fuel, p, q, hg, ht, hvar, hd, hr, rfl⟩ := h
      simp only [varsOk, List.all_cons, Bool.and_eq_true] at hv
      have hv1 := hv.1
      rw [hg] at hv1
      simp only [ht, Bool.and_eq_true, decide_eq_true_eq] at hv1
      have hgl : g < W.heap.size := by
        simp only [World.var?, hg, Option.bind_some] at hvar
        rcases Nat.lt_or_ge g W.heap.size with hlt | hge
        · exact hlt
        · rw [Array.getElem?_eq_none hge] at hvar; simp at hvar
      have h0 : DataW.Trod enc P W 0 (fun _ => true) true t (.agg cs) d p := ⟨fuel, by simpa [Value.cells] using hd⟩
      obtain ⟨fuel', hd'⟩ := Below.trod hl hv1.1 hv1.2 h0 hb (fun x hx => hlt x (by simp [hx]))
      refine ⟨g, t, cs, fuel', p, q, hg, ht, ?_, by simpa [Value.cells] using hd', ih _ _ hv.2 hr (fun x hx => hlt x (by simp [hx])), rfl⟩
      simp only [World.var?, hg, Option.bind_some] at hvar ⊢
      rw [hb.block g hgl]
      exact hvar

/-- A law's row at its end, the listed variables too: it returned true, and of what was there nothing has turned. -/
theorem law_postV {H : Type} {enc : TypeId × Value → H} {P : Program} {f : Func} {s : ChangeSpec} {W W' : World} {args : Array Value} {ds gs : List (DataW H)} {before : List MemPlace} {B : TypeId}
    (hl : laidOutB P = true) (hr : f.params.toList.all (fun t => P.readableRec t && decide (t < P.types.size)) = true) (hvs : varsOk P s.vars = true)
    (hres : f.resultTypes = #[B]) (hB : P.underlying B = some .bool)
    (hW : DataW.Whole enc P f.params.toList s.vars false W args.toList ds gs before)
    (hfn : s.fn H (ds ++ gs) = { results := [.lit (.bool true)], args := ds, vars := gs }) (hb : Below W.heap.size W W') :
    s.post enc P f false true false false W args (.bool true) W' := by
  have hlt : ∀ p ∈ before, p.block < W.heap.size := fun p hp => hW.lt p hp
  have hW' := hW
  obtain ⟨p, q, hA, hV, rfl, _, _⟩ := hW'
  refine ⟨ds, gs, p ++ q, [], p, q, hW, ?_, ?_, ?_, hb.frame _, fun h => by cases h⟩
  · rw [hfn, hres]
    exact trodAll_cons_mk (shut_bool hB _) trodAll_mk0
  · rw [hfn]
    exact trodAll_stay hl hb _ _ _ _ hr hA (fun x hx => hlt x (by simp [hx]))
  · rw [hfn]
    exact trodVars_stay hl hb _ _ _ hvs hV (fun x hx => hlt x (by simp [hx]))

theorem vars_one {H : Type} {enc : TypeId × Value → H} {P : Program} {W : World} {sp : Nat → Bool} {n : String} {gs : List (DataW H)} {q : List MemPlace} (h : DataW.TrodVars enc P W sp [n] gs q) : ∃ g1, gs = [g1] := by
  cases gs with
  | nil => exact h.elim
  | cons g gs =>
    obtain ⟨_, _, _, _, _, _, _, _, _, _, hr, _⟩ := h
    obtain ⟨rfl, _⟩ := trodVars_none hr
    exact ⟨_, rfl⟩

theorem vars_len {H : Type} {enc : TypeId × Value → H} {P : Program} {W : World} {sp : Nat → Bool} : ∀ (ns : List String) (gs : List (DataW H)) (q : List MemPlace), DataW.TrodVars enc P W sp ns gs q → gs.length = ns.length := by
  intro ns
  induction ns with
  | nil => intro gs q h; obtain ⟨rfl, _⟩ := trodVars_none h; rfl
  | cons n ns ih =>
    intro gs q h
    cases gs with
    | nil => exact h.elim
    | cons g gs =>
      obtain ⟨_, _, _, _, _, _, _, _, _, _, hr, _⟩ := h
      simp [ih _ _ hr]

theorem vars_three {H : Type} {enc : TypeId × Value → H} {P : Program} {W : World} {sp : Nat → Bool} {n1 n2 n3 : String} {gs : List (DataW H)} {q : List MemPlace} (h : DataW.TrodVars enc P W sp [n1, n2, n3] gs q) : ∃ g1 g2 g3, gs = [g1, g2, g3] := by
  have := vars_len _ _ _ h
  match gs, this with
  | [g1, g2, g3], _ => exact ⟨_, _, _, rfl⟩

theorem vars_two {H : Type} {enc : TypeId × Value → H} {P : Program} {W : World} {sp : Nat → Bool} {n1 n2 : String} {gs : List (DataW H)} {q : List MemPlace} (h : DataW.TrodVars enc P W sp [n1, n2] gs q) : ∃ g1 g2, gs = [g1, g2] := by
  have := vars_len _ _ _ h
  match gs, this with
  | [g1, g2], _ => exact ⟨_, _, rfl⟩

theorem kept_cell {W w1 : World} (hb : Below W.heap.size W w1) (b o : Nat) (h : b < W.heap.size) : w1.cell? ⟨b, o, none⟩ = W.cell? ⟨b, o, none⟩ := hb.cell (p := ⟨b, o, none⟩) h

theorem kept_frozen {W w1 : World} (hb : Below W.heap.size W w1) (b o : Nat) (h : b < W.heap.size) : w1.frozen? ⟨b, o, none⟩ = W.frozen? ⟨b, o, none⟩ := hb.frozen (p := ⟨b, o, none⟩) h

theorem kept_trans {a b c : World} (h : Below a.heap.size a b) (k : Below b.heap.size b c) : Below a.heap.size a c := h.trans (k.mono h.size)

theorem kept_at {W w1 : World} (hb : Below W.heap.size W w1) (b : Nat) {G : Prop} (h : b < W.heap.size)
    (k : (∀ o, w1.cell? ⟨b, o, none⟩ = W.cell? ⟨b, o, none⟩) → (∀ o, w1.frozen? ⟨b, o, none⟩ = W.frozen? ⟨b, o, none⟩) → b < w1.heap.size → G) : G :=
  k (fun o => kept_cell hb b o h) (fun o => kept_frozen hb b o h) (Nat.lt_of_lt_of_le h hb.size)

theorem grown_below {a b c : World} {row : Option Nat} (h : Below a.heap.size a b) (k : b.grownBy c row) (hr : ∀ g, row = some g → a.heap.size ≤ g) : Below a.heap.size a c := h.grown k h.size hr

def inB (n low high : Int) : Bool := decide (low ≤ n) && decide (n ≤ high)

theorem in_any (n low high : Int) (w : World) :
    Calls Tryd.prog 158 #[.int .i64 n, .int .i64 low, .int .i64 high] w fun e w' => e = .returned (.bool (inB n low high)) ∧ w = w' := by
  unfold inB
  by_cases h1 : low ≤ n <;> by_cases h2 : n ≤ high <;>
  · go_enter Tryd.func158, Tryd.ntmps158
    go_wp2
    go_ret
    exact ⟨by simp [*], rfl⟩

theorem inB_true {n a b : Int} (h : inB n a b = true) : a ≤ n ∧ n ≤ b := by simpa [inB] using h

/-- The slice value reads as a list of numbers. -/
def RdI (w : World) (v : Value) (zs : List Int) : Prop :=
  zs.length ≤ 9223372036854775807 ∧ ∃ A c, v = .slice A zs.length c ∧ ∀ k, (hk : k < zs.length) → ∃ b off, A = some ⟨b, off, none⟩ ∧ b < w.heap.size ∧ w.cell? ⟨b, off + k, none⟩ = some (.int .i64 zs[k])

theorem RdI_kept {W w1 : World} {v : Value} {zs : List Int} (h : RdI W v zs) (hb : Below W.heap.size W w1) : RdI w1 v zs := by
  obtain ⟨hl, A, c, rfl, hr⟩ := h
  refine ⟨hl, A, c, rfl, fun k hk => ?_⟩
  obtain ⟨b, off, e, hlt, hc⟩ := hr k hk
  exact ⟨b, off, e, Nat.lt_of_lt_of_le hlt hb.size, by rw [kept_cell hb b _ hlt]; exact hc⟩

def digitI (c : Int) : Bool := decide (48 ≤ c) && decide (c ≤ 57)

theorem digit_any (c : Int) (w : World) :
    Calls Tryd.prog 156 #[.int .u8 c] w fun e w' => e = .returned (.bool (digitI c)) ∧ w = w' := by
  unfold digitI
  rcases (show ¬ 48 ≤ c ∨ (48 ≤ c ∧ ¬ c ≤ 57) ∨ (48 ≤ c ∧ c ≤ 57) from by omega) with h1 | ⟨h1, h2⟩ | ⟨h1, h2⟩
  all_goals
    go_enter Tryd.func156, Tryd.ntmps156
    go_wp2
    go_ret
    exact ⟨by simp [*] <;> omega, rfl⟩

/-- The slice value reads as n elements of sz cells each, cell for cell. -/
def RdF (w : World) (v : Value) (n sz : Nat) (xs : List Value) : Prop :=
  n ≤ 9223372036854775807 ∧ xs.length = n * sz ∧ ∃ A c, v = .slice A n c ∧ ∀ i, i < n * sz → ∃ b off, A = some ⟨b, off, none⟩ ∧ b < w.heap.size ∧ w.cell? ⟨b, off + i, none⟩ = xs[i]?

/-- A row of elements of the call's own (type e, sz cells each), in a block from lo on and below hi. -/
def RowF (e sz : Nat) (w : World) (lo hi : Nat) (v : Value) (n : Nat) (xs : List Value) : Prop :=
  w.ownsRow lo e sz v n xs ∧ ∀ g, v.ownBlock = some g → lo ≤ g ∧ g < hi

theorem RowF_form {e sz : Nat} {w : World} {lo hi : Nat} {v : Value} {n : Nat} {xs : List Value} (h : RowF e sz w lo hi v n xs) :
    (n = 0 ∧ xs = [] ∧ v = .slice none 0 0) ∨ ∃ g cap, v = .slice (some ⟨g, 0, none⟩) n cap ∧ lo ≤ g ∧ g < hi ∧ g < w.heap.size ∧ n ≤ cap ∧ cap ≤ maxLen := by
  rcases h.1.2 with ⟨h1, h2⟩ | ⟨g, cap, cur, rfl, hg, hh, h3, h4, _⟩
  · exact Or.inl ⟨h2, List.eq_nil_of_length_eq_zero (by rw [h.1.1, h2, Nat.zero_mul]), h1⟩
  · exact Or.inr ⟨g, cap, rfl, hg, (h.2 g rfl).2, (h.1.lt g rfl).2, h3, h4⟩

theorem RowF_rd {e sz : Nat} {w : World} {lo hi : Nat} {v : Value} {n : Nat} {xs : List Value} (h : RowF e sz w lo hi v n xs) : RdF w v n sz xs := by
  rcases RowF_form h with ⟨rfl, rfl, rfl⟩ | ⟨g, cap, rfl, _, _, hlt, h3, h4⟩
  · exact ⟨by simp, by simp, none, 0, rfl, fun k hk => by simp at hk⟩
  · unfold maxLen at h4
    refine ⟨by omega, h.1.1, some ⟨g, 0, none⟩, cap, rfl, fun k hk => ⟨g, 0, rfl, hlt, ?_⟩⟩
    rw [Nat.zero_add, h.1.cellAt k hk]

/-- The digits of a number, none of 0. -/
def dd (u : Nat) : List UInt8 := if u = 0 then [] else Lib.decDigits u

theorem dd_step (u : Nat) (h : u ≠ 0) : dd u = dd (u / 10) ++ [UInt8.ofNat (48 + u % 10)] := by
  unfold dd
  rw [if_neg h, Lib.decDigits]
  by_cases h1 : u < 10
  · rw [dif_pos h1, if_pos (by omega), Nat.mod_eq_of_lt h1]
    rfl
  · rw [dif_neg h1, if_neg (by omega)]

/-- A byte's cell. -/
def byteV (b : UInt8) : Value := .int .u8 (b.toNat : Int)

theorem info_byte : (Tryd.prog.info? 5).map (fun i => (i.zero, i.size, i.bytes)) = some (some (.int .u8 0), 1, 1) := by kernel_rfl

theorem dd_len (m : Nat) (h : m ≤ 9223372036854775808) : (dd m).length ≤ 20 := by
  unfold dd
  split
  · simp
  · rw [Lib.decDigits_length]
    exact Lib.nDigits_le20 m (by omega)

theorem row_news {w : World} {lo g cap : Nat} {bs : List UInt8} (h : w.ownsRow lo 5 1 (.slice (some ⟨g, 0, none⟩) bs.length cap) bs.length (bs.map byteV)) : ∀ j u, (bs.map byteV)[j]? = some u → w.cell? ((⟨g, 0, none⟩ : Addr).add j) = some u :=
  World.ownsRow.cells h rfl

theorem row_string {w : World} {lo g cap : Nat} {bs : List UInt8} (h : w.ownsRow lo 5 1 (.slice (some ⟨g, 0, none⟩) bs.length cap) bs.length (bs.map byteV)) :
    (convert 28 9 (.slice (some ⟨g, 0, none⟩) bs.length cap)).run Tryd.prog w = .ok (.string ⟨bs.toArray⟩) w :=
  run_convert_bytes_back (P := Tryd.prog) w 28 9 5 ⟨g, 0, none⟩ cap bs Tryd.underlying28 Tryd.underlying5 Tryd.underlying9 (fun j hj => row_news h j _ (by simp [hj, byteV]))

theorem byte_one (bs : List UInt8) : ∀ u ∈ bs.map byteV, u.oneCell' = true := by
  intro u hu
  obtain ⟨b, _, rfl⟩ := List.mem_map.1 hu
  rfl

/-- The loop of digits: what is left of m, and what is written. -/
def DecR (m : Nat) (w wr : World) (o : Value) (u : Nat) : Prop :=
  ∃ (bs : List UInt8) (g cap : Nat), dd m = dd u ++ bs ∧ o = .slice (some ⟨g, 0, none⟩) bs.length cap ∧ wr.ownsRow w.heap.size 5 1 o bs.length (bs.map byteV) ∧ Below w.heap.size w wr ∧ w.heap.size < wr.heap.size

set_option maxRecDepth 100000 in
theorem specDec_pos (m : Nat) (hm : m ≤ 9223372036854775807) (w : World) :
    Calls Tryd.prog 157 #[.int .i64 (m : Int)] w fun e w' => e = .returned (.string ⟨(Lib.itoa (m : Int)).toArray⟩) ∧ Below w.heap.size w w' := by
  obtain ⟨i0, hi, hz0, hz1, hz2⟩ := info_parts info_byte
  have hdl := dd_len m (by omega)
  have hF : Lib.itoa (m : Int) = Lib.decDigits m := by unfold Lib.itoa; rw [if_neg (by omega)]; simp
  rw [hF]
  clear hF
  have HR := Lib.hid (rfl : Lib.decDigits m = Lib.decDigits m)
  have hgen : ∃ F, Lib.decDigits m = F ∧ (m = 0 → F = [48]) ∧ (m ≠ 0 → F = dd m) := ⟨_, rfl, fun h => by rw [h, Lib.decDigits, dif_pos (by omega)]; rfl, fun h => by rw [dd, if_neg h]⟩
  obtain ⟨F, hF, hF0, hF1⟩ := hgen
  rw [hF]
  clear hF HR
  have HF0 := Lib.hid hF0; clear hF0
  have HF1 := Lib.hid hF1; clear hF1
  go_enter Tryd.func157, Tryd.ntmps157
  go_wp2_with fail
  go_loopw [3, 4] (fun o k wr => ∃ u : Nat, u ≤ m ∧ k = .int .i64 (u : Int) ∧ DecR m w wr o u) (fun _ k _ => (intOf k).toNat)
  case atStart => exact ⟨m, Nat.le_refl _, rfl, [], w.heap.size, 0, by simp, rfl, by simpa using World.ownsRow_lit w (e := 5) (size := 1) #[] 0 (Nat.le_refl _) (by decide) (by rfl), by go_grown, by simp⟩
  case round =>
    obtain ⟨u, hu, rfl, bs, g, cap, hdd, rfl, hown, hb, hlw⟩ := hrel
    by_cases h0 : u = 0
    · subst h0
      have hbs : dd m = bs := by simpa [dd] using hdd
      have hcv := row_string hown
      by_cases hm0 : m = 0
      · have hl0 : bs = [] := by rw [← hbs, hm0]; rfl
        subst hl0
        have HO := Lib.hid hown; clear hown
        go_wp2
        go_ret
        exact ⟨by rw [HF0.out hm0]; rfl, hb⟩
      · have hne : ((bs.length : Int) == 0) = false := by
          have : bs ≠ [] := by
            rw [← hbs, dd_step m hm0]
            simp
          have := List.length_pos_iff.2 this
          simp
          omega
        have HO := Lib.hid hown; clear hown
        have HB := Lib.hid hbs; clear hbs hdd
        go_wp2
        go_ret
        exact ⟨by rw [HF1.out hm0, HB.out]; rfl, hb⟩
    · have hst := dd_step u h0
      rw [hst, List.append_assoc] at hdd
      have hlen : bs.length ≤ 20 := by
        have := congrArg List.length hdd
        simp at this
        omega
      have hmod : (u : Int).tmod 10 = ((u % 10 : Nat) : Int) := by rw [Int.tmod_eq_emod_of_nonneg (by omega)]; omega
      have hdiv : (u : Int).tdiv 10 = ((u / 10 : Nat) : Int) := by rw [Int.tdiv_eq_ediv_of_nonneg (by omega)]; omega
      have hd10 : u % 10 < 10 := Nat.mod_lt _ (by omega)
      have hbyte : byteV (UInt8.ofNat (48 + u % 10)) = .int .u8 ((48 : Int) + ((u % 10 : Nat) : Int)) := by
        simp only [byteV]
        rw [UInt8.toNat_ofNat_of_lt' (by have : UInt8.size = 256 := rfl; omega)]
        push_cast
        rfl
      have hsz := hb.size
      have hlt10 : u / 10 < u := Nat.div_lt_self (by omega) (by omega)
      have HD := Lib.hid hdd; clear hdd hst
      have HBY := Lib.hid hbyte; clear hbyte
      generalize u / 10 = q at *
      generalize u % 10 = d at *
      have hw8 : IntKind.u8.wrap ((48 : Int) + (d : Int)) = 48 + (d : Int) := IntWalk.u8_in _ (by omega)
      have HO := Lib.hid hown; clear hown
      have hlit := World.ownsRow_lit wr (base := w.heap.size) (e := 5) (size := 1) #[.int .u8 ((48 : Int) + (d : Int))] 1 hsz (by decide) (by rfl)
      have HL := Lib.hid hlit; clear hlit
      have hone := byte_one bs
      have HONE := Lib.hid hone; clear hone
      go_wp2_with (at_builtin; refine wpList_append_own _ rfl (.tmp 21) (.tmp 22) _ rfl w.heap.size 5 i0 (.int .u8 0) 1 1 Tryd.underlying28 hi hz0 hz1 hz2 rfl (by decide) (.slice (some ⟨wr.heap.size, 0, none⟩) 1 1) 1 [.int .u8 ((48 : Int) + (d : Int))] rfl HL.out ⟨g, 0, none⟩ bs.length cap (bs.map byteV) rfl (by simp) (row_news (HO.out.alloc _)) HONE.out (by unfold maxLen; omega) (by omega) (by simp; omega) ?_; intro v2 w2 hown2 hg2 _)
      go_roundw
      case rel =>
        have hrow2 : RowF 5 1 w2 w.heap.size w2.heap.size v2 (1 + bs.length) ([.int .u8 ((48 : Int) + (d : Int))] ++ bs.map byteV) := ⟨hown2, hown2.lt⟩
        have hb2 : Below w.heap.size w w2 := grown_below (kept_trans hb (by go_grown)) hg2 (fun x hx => by simp [Value.ownBlock] at hx; omega)
        rcases RowF_form hrow2 with ⟨hz, _⟩ | ⟨g2, cap2, hv, _, _, hlt2, _, _⟩
        · omega
        · refine ⟨q, by omega, by go_num, UInt8.ofNat (48 + d) :: bs, g2, cap2, by simpa using HD.out, by rw [hv, List.length_cons, Nat.add_comm], ?_, hb2, ?_⟩
          · rw [List.map_cons, HBY.out, List.length_cons, Nat.add_comm bs.length 1]
            exact hown2
          · have := hg2.size
            simp at this
            omega
      case measure => simp [intOf]; omega

set_option maxRecDepth 100000 in
theorem specDec_neg (m : Nat) (h1m : 1 ≤ m) (hm : m ≤ 9223372036854775808) (w : World) :
    Calls Tryd.prog 157 #[.int .i64 (-(m : Int))] w fun e w' => e = .returned (.string ⟨(Lib.itoa (-(m : Int))).toArray⟩) ∧ Below w.heap.size w w' := by
  obtain ⟨i0, hi, hz0, hz1, hz2⟩ := info_parts info_byte
  have hdl := dd_len m (by omega)
  have hF : Lib.itoa (-(m : Int)) = 45 :: dd m := by unfold Lib.itoa dd; rw [if_pos (by omega), if_neg (by omega)]; simp
  rw [hF]
  clear hF
  go_enter Tryd.func157, Tryd.ntmps157
  go_wp2_with fail
  go_loopw [3, 4] (fun o k wr => ∃ u : Nat, u ≤ m ∧ k = .int .i64 (-(u : Int)) ∧ DecR m w wr o u) (fun _ k _ => (-(intOf k)).toNat)
  case atStart => exact ⟨m, Nat.le_refl _, rfl, [], w.heap.size, 0, by simp, rfl, by simpa using World.ownsRow_lit w (e := 5) (size := 1) #[] 0 (Nat.le_refl _) (by decide) (by rfl), by go_grown, by simp⟩
  case round =>
    obtain ⟨u, hu, rfl, bs, g, cap, hdd, rfl, hown, hb, hlw⟩ := hrel
    by_cases h0 : u = 0
    · subst h0
      have hbs : dd m = bs := by simpa [dd] using hdd
      have hcv := row_string hown
      have hne : ((bs.length : Int) == 0) = false := by
        have : bs ≠ [] := by
          rw [← hbs, dd_step m (by omega)]
          simp
        have := List.length_pos_iff.2 this
        simp
        omega
      have hcat : (ByteArray.mk #[45]) ++ (ByteArray.mk bs.toArray) = ByteArray.mk (45 :: bs).toArray := by
        apply ByteArray.ext
        simp [ByteArray.data_append]
      have hbl : bs.length ≤ 20 := by rw [← hbs]; exact hdl
      have HO := Lib.hid hown; clear hown
      have HB := Lib.hid hbs; clear hbs hdd
      go_wp2
      go_ret
      exact ⟨by rw [HB.out]; rfl, hb⟩
    · have hst := dd_step u h0
      rw [hst, List.append_assoc] at hdd
      have hlen : bs.length ≤ 20 := by
        have := congrArg List.length hdd
        simp at this
        omega
      have hmod : (-(u : Int)).tmod 10 = -((u % 10 : Nat) : Int) := by rw [Int.neg_tmod, Int.tmod_eq_emod_of_nonneg (by omega)]; omega
      have hdiv : (-(u : Int)).tdiv 10 = -((u / 10 : Nat) : Int) := by rw [Int.neg_tdiv, Int.tdiv_eq_ediv_of_nonneg (by omega)]; omega
      have hd10 : u % 10 < 10 := Nat.mod_lt _ (by omega)
      have hbyte : byteV (UInt8.ofNat (48 + u % 10)) = .int .u8 ((48 : Int) + ((u % 10 : Nat) : Int)) := by
        simp only [byteV]
        rw [UInt8.toNat_ofNat_of_lt' (by have : UInt8.size = 256 := rfl; omega)]
        push_cast
        rfl
      have hsz := hb.size
      have hlt10 : u / 10 < u := Nat.div_lt_self (by omega) (by omega)
      have HD := Lib.hid hdd; clear hdd hst
      have HBY := Lib.hid hbyte; clear hbyte
      generalize u / 10 = q at *
      generalize u % 10 = d at *
      have hw8 : IntKind.u8.wrap ((48 : Int) + (d : Int)) = 48 + (d : Int) := IntWalk.u8_in _ (by omega)
      have HO := Lib.hid hown; clear hown
      have hlit := World.ownsRow_lit wr (base := w.heap.size) (e := 5) (size := 1) #[.int .u8 ((48 : Int) + (d : Int))] 1 hsz (by decide) (by rfl)
      have HL := Lib.hid hlit; clear hlit
      have hone := byte_one bs
      have HONE := Lib.hid hone; clear hone
      by_cases hd0 : d = 0
      · subst hd0
        go_wp2_with (at_builtin; refine wpList_append_own _ rfl (.tmp 21) (.tmp 22) _ rfl w.heap.size 5 i0 (.int .u8 0) 1 1 Tryd.underlying28 hi hz0 hz1 hz2 rfl (by decide) (.slice (some ⟨wr.heap.size, 0, none⟩) 1 1) 1 [.int .u8 48] rfl HL.out ⟨g, 0, none⟩ bs.length cap (bs.map byteV) rfl (by simp) (row_news (HO.out.alloc _)) HONE.out (by unfold maxLen; omega) (by omega) (by simp; omega) ?_; intro v2 w2 hown2 hg2 _)
        go_roundw
        case rel =>
          have hrow2 : RowF 5 1 w2 w.heap.size w2.heap.size v2 (1 + bs.length) ([.int .u8 48] ++ bs.map byteV) := ⟨hown2, hown2.lt⟩
          have hb2 : Below w.heap.size w w2 := grown_below (kept_trans hb (by go_grown)) hg2 (fun x hx => by simp [Value.ownBlock] at hx; omega)
          rcases RowF_form hrow2 with ⟨hz, _⟩ | ⟨g2, cap2, hv, _, _, hlt2, _, _⟩
          · omega
          · refine ⟨q, by omega, by go_num, UInt8.ofNat 48 :: bs, g2, cap2, by simpa using HD.out, by rw [hv, List.length_cons, Nat.add_comm], ?_, hb2, ?_⟩
            · rw [List.map_cons, show byteV (UInt8.ofNat 48) = .int .u8 48 from rfl, List.length_cons, Nat.add_comm bs.length 1]
              exact hown2
            · have := hg2.size
              simp at this
              omega
        case measure => simp [intOf]; omega
      · have hdn : decide (-(d : Int) < 0) = true := by simp; omega
        go_wp2_with (at_builtin; refine wpList_append_own _ rfl (.tmp 21) (.tmp 22) _ rfl w.heap.size 5 i0 (.int .u8 0) 1 1 Tryd.underlying28 hi hz0 hz1 hz2 rfl (by decide) (.slice (some ⟨wr.heap.size, 0, none⟩) 1 1) 1 [.int .u8 ((48 : Int) + (d : Int))] rfl HL.out ⟨g, 0, none⟩ bs.length cap (bs.map byteV) rfl (by simp) (row_news (HO.out.alloc _)) HONE.out (by unfold maxLen; omega) (by omega) (by simp; omega) ?_; intro v2 w2 hown2 hg2 _)
        go_roundw
        case rel =>
          have hrow2 : RowF 5 1 w2 w.heap.size w2.heap.size v2 (1 + bs.length) ([.int .u8 ((48 : Int) + (d : Int))] ++ bs.map byteV) := ⟨hown2, hown2.lt⟩
          have hb2 : Below w.heap.size w w2 := grown_below (kept_trans hb (by go_grown)) hg2 (fun x hx => by simp [Value.ownBlock] at hx; omega)
          rcases RowF_form hrow2 with ⟨hz, _⟩ | ⟨g2, cap2, hv, _, _, hlt2, _, _⟩
          · omega
          · refine ⟨q, by omega, by go_num, UInt8.ofNat (48 + d) :: bs, g2, cap2, by simpa using HD.out, by rw [hv, List.length_cons, Nat.add_comm], ?_, hb2, ?_⟩
            · rw [List.map_cons, HBY.out, List.length_cons, Nat.add_comm bs.length 1]
              exact hown2
            · have := hg2.size
              simp at this
              omega
        case measure => simp [intOf]; omega

theorem specDec_any (n : Int) (h : -9223372036854775808 ≤ n ∧ n ≤ 9223372036854775807) (w : World) :
    Calls Tryd.prog 157 #[.int .i64 n] w fun e w' => e = .returned (.string ⟨(Lib.itoa n).toArray⟩) ∧ Below w.heap.size w w' := by
  rcases Int.lt_or_le n 0 with h0 | h0
  · obtain ⟨m, rfl⟩ : ∃ m : Nat, n = -(m : Int) := ⟨n.natAbs, by omega⟩
    exact specDec_neg m (by omega) (by omega) w
  · obtain ⟨m, rfl⟩ : ∃ m : Nat, n = (m : Int) := ⟨n.toNat, by omega⟩
    exact specDec_pos m (by omega) w

/-- New blocks behind the heap alone. -/
theorem below_ext {w w1 : World} (os : Array Obj) (h1 : w1.heap = w.heap ++ os) (h2 : w1.os = w.os) (h3 : w1.tape = w.tape) (h4 : w1.output = w.output) : Below w.heap.size w w1 where
  os := h2
  tape := h3
  output := h4
  size := by rw [h1]; simp
  block := fun i hi => by rw [h1]; simp [Array.getElem?_append, hi]

/-- The table of the powers of ten. -/
def PowTab (w : World) : Prop := Lib.TabIs Tryd.prog w "internal/strconv.uint64pow10" .u64 Lib.pow10Tab

theorem tab_kept {W w1 : World} {name : String} {k : IntKind} {zs : List Int} (h : Lib.TabIs Tryd.prog W name k zs) (hb : Below W.heap.size W w1) : Lib.TabIs Tryd.prog w1 name k zs := by
  unfold Lib.TabIs World.var? at *
  cases hg : (Tryd.prog).globalNamed name with
  | none => simp [hg] at h
  | some g =>
    simp only [hg, Option.bind_some] at h ⊢
    rcases Nat.lt_or_ge g W.heap.size with hlt | hge
    · rw [hb.block g hlt]
      exact h
    · rw [Array.getElem?_eq_none hge] at h
      simp at h

theorem tabIs_of_reads {P : Program} {W : World} {name : String} {k : IntKind} {zs : List Int} {g : Nat} {t e : TypeId} {n : Nat}
    (hg : P.globalNamed name = some g) (hty : (P.globals[g]?).map (·.type) = some t) (ht : P.underlying t = some (.array n e)) (he : P.underlying e = some (.int k)) (hce : P.cellsOf e = 1) (hct : P.cellsOf t = n)
    (h : Lib.VarReads P W name (Lib.tabData k zs)) : Lib.TabIs P W name k zs := by
  obtain ⟨g', t', cs, fuel, p, hg', ht', hvar, hd⟩ := h
  obtain rfl := Option.some.inj (hg.symm.trans hg')
  obtain rfl := Option.some.inj (hty.symm.trans ht')
  unfold Lib.TabIs
  rw [hvar, ← Lib.cells_of_tab ht he hce hct hd]

theorem powTab_of {W : World} (h : Lib.VarReads Tryd.prog W "internal/strconv.uint64pow10" Rows.laid_internal_strconv_uint64pow10) : PowTab W :=
  tabIs_of_reads (g := 8) (t := 304) (e := 206) (n := 20) (by kernel_rfl) (by kernel_rfl) Tryd.underlying304 Tryd.underlying206 (by kernel_rfl) (by kernel_rfl) h

theorem implDecimal_any (n : Int) (h : -9223372036854775808 ≤ n ∧ n ≤ 9223372036854775807) (w : World) (ht : PowTab w) :
    Calls Tryd.prog 81 #[.int .i64 n] w fun e w' => e = .returned (.string ⟨(Lib.itoa n).toArray⟩) ∧ Below w.heap.size w w' := by
  have H := Lib.hid (Tryd.strconv_FormatInt_10 n h.1 h.2 w ht)
  generalize Lib.itoa n = F at *
  go_enter Tryd.func81, Tryd.ntmps81
  go_wp2_with fail
  refine H.out.mono ?_
  rintro e w1 ⟨rfl, k, os, hw⟩
  have hb : Below w.heap.size w w1 := below_ext os (by rw [hw]; rfl) (by rw [hw]; rfl) (by rw [hw]; rfl) (by rw [hw]; rfl)
  clear hw
  go_wp2
  go_ret
  exact ⟨rfl, hb⟩

/-- A byte is a digit. -/
def digB (c : UInt8) : Bool := decide (48 ≤ c.toNat) && decide (c.toNat ≤ 57)

/-- What digits spell behind a number. -/
def valB (l : List UInt8) (a : Nat) : Nat := l.foldl (fun a c => a * 10 + (c.toNat - 48)) a

theorem digits_ok (u : Nat) : (Lib.decDigits u).all digB = true ∧ valB (Lib.decDigits u) 0 = u ∧ 1 ≤ (Lib.decDigits u).length ∧ (Lib.decDigits u).head? ≠ some 45 := by
  induction u using Nat.strongRecOn with
  | _ u ih =>
    rw [Lib.decDigits]
    have hb : ∀ d : Nat, d < 10 → (UInt8.ofNat (48 + d)).toNat = 48 + d := fun d hd => UInt8.toNat_ofNat_of_lt' (by have : UInt8.size = 256 := rfl; omega)
    by_cases h1 : u < 10
    · rw [dif_pos h1]
      have := hb u h1
      refine ⟨by simp [digB, this]; omega, by simp only [valB, List.foldl_cons, List.foldl_nil, this]; omega, by simp, ?_⟩
      intro he
      simp only [List.head?_cons, Option.some.injEq] at he
      rw [he] at this
      have e45 : (45 : UInt8).toNat = 45 := rfl
      omega
    · rw [dif_neg h1]
      obtain ⟨i1, i2, i3, i4⟩ := ih (u / 10) (by omega)
      have := hb (u % 10) (by omega)
      refine ⟨?_, ?_, by simp, ?_⟩
      · rw [List.all_append, i1]
        simp [digB, this]
        omega
      · simp only [valB, List.foldl_append, List.foldl_cons, List.foldl_nil, this] at i2 ⊢
        rw [i2]
        omega
      · rw [List.head?_append]
        cases hd : Lib.decDigits (u / 10) with
        | nil => rw [hd] at i3; simp at i3
        | cons c r => rw [hd] at i4; simpa using i4

theorem parse_ok (l : List UInt8) : ∀ (acc k : Nat), l.all digB = true → acc < 10 ^ k → k + l.length ≤ 18 → Lib.parseUintM (2 ^ 64 - 1) acc l = .ok (valB l acc) ∧ valB l acc < 10 ^ (k + l.length) := by
  induction l with
  | nil => intro acc k _ ha _; exact ⟨rfl, by simpa [valB] using ha⟩
  | cons c r ih =>
    intro acc k hall ha hk
    simp only [List.all_cons, Bool.and_eq_true, digB, decide_eq_true_eq] at hall
    simp only [List.length_cons] at hk ⊢
    have hp : (10 : Nat) ^ (k + 1) = 10 ^ k * 10 := Nat.pow_succ ..
    have hnext : acc * 10 + (c.toNat - 48) < 10 ^ (k + 1) := by omega
    have hle : (10 : Nat) ^ (k + 1) ≤ 10 ^ 18 := Nat.pow_le_pow_right (by omega) (by omega)
    have h18 : (10 : Nat) ^ 18 = 1000000000000000000 := by decide
    obtain ⟨j1, j2⟩ := ih (acc * 10 + (c.toNat - 48)) (k + 1) (by simpa [digB] using hall.2) hnext (by omega)
    rw [Lib.parseUintM, if_pos hall.1, if_neg (by omega), if_neg (by omega)]
    refine ⟨by rw [j1]; rfl, ?_⟩
    have : k + (r.length + 1) = k + 1 + r.length := by omega
    rw [this]
    exact j2

/-- What stands behind the sign. -/
def readT (l : List UInt8) : List UInt8 := if l.head? = some 45 then l.tail else l

def readN (l : List UInt8) : Int := if l.head? = some 45 then -(valB (readT l) 0 : Int) else (valB (readT l) 0 : Int)

def ReadP (l : List UInt8) : Prop := 1 ≤ (readT l).length ∧ (readT l).length ≤ 18 ∧ (readT l).all digB = true ∧ Lib.itoa (readN l) = l

open Classical in
/-- The number with this decimal form, and whether there is one. -/
noncomputable def readL (l : List UInt8) : Int × Bool := if ReadP l then (readN l, true) else (0, false)

theorem parse_int (l : List UInt8) (h1 : 1 ≤ (readT l).length) (h2 : (readT l).length ≤ 18) (h3 : (readT l).all digB = true) : Lib.parseIntB 64 l = .ok (readN l) := by
  obtain ⟨j1, j2⟩ := parse_ok (readT l) 0 0 h3 (by simp) (by omega)
  have hle : (10 : Nat) ^ (0 + (readT l).length) ≤ 10 ^ 18 := Nat.pow_le_pow_right (by omega) (by omega)
  have h18 : (10 : Nat) ^ 18 = 1000000000000000000 := by decide
  have hne : readT l ≠ [] := fun h => by rw [h] at h1; simp at h1
  have hu : Lib.parseUintB 64 (readT l) = .ok (valB (readT l) 0) := by rw [Lib.parseUintB, if_neg hne, j1]
  cases l with
  | nil => simp [readT] at h1
  | cons c r =>
    by_cases hc : c = 45
    · subst hc
      have ht : readT (45 :: r) = r := by simp [readT]
      have hn : readN (45 :: r) = -(valB r 0 : Int) := by simp [readN, ht]
      rw [ht] at hu j2 hle
      rw [hn, Lib.parseIntB]
      simp only [show (45 : UInt8).toNat = 45 from rfl, or_true, if_true, hu, not_true_eq_false, false_and, if_false, true_and]
      rw [if_neg (by omega)]
    · have ht : readT (c :: r) = c :: r := by simp [readT, hc]
      have hn : readN (c :: r) = (valB (c :: r) 0 : Int) := by simp [readN, ht, hc]
      rw [ht] at hu j2 hle h3
      simp only [List.all_cons, Bool.and_eq_true, digB, decide_eq_true_eq] at h3
      have h45 : ¬ c.toNat = 45 := by omega
      have h43 : ¬ c.toNat = 43 := by omega
      rw [hn, Lib.parseIntB]
      simp only [h45, h43, or_self, if_false, hu, not_false_eq_true, true_and, false_and]
      rw [if_neg (by omega)]

theorem itoa_read (v : Int) (l : List UInt8) (h : Lib.itoa v = l) : 1 ≤ (readT l).length ∧ (readT l).all digB = true ∧ readN l = v := by
  subst h
  unfold Lib.itoa
  by_cases h0 : v < 0
  · obtain ⟨i1, i2, i3, i4⟩ := digits_ok v.natAbs
    rw [if_pos h0]
    have ht : readT (45 :: Lib.decDigits v.natAbs) = Lib.decDigits v.natAbs := by simp [readT]
    refine ⟨by rw [ht]; exact i3, by rw [ht]; exact i1, ?_⟩
    rw [readN, ht, if_pos (by simp), i2]
    omega
  · obtain ⟨i1, i2, i3, i4⟩ := digits_ok v.toNat
    rw [if_neg h0]
    have ht : readT (Lib.decDigits v.toNat) = Lib.decDigits v.toNat := by simp [readT, i4]
    refine ⟨by rw [ht]; exact i3, by rw [ht]; exact i1, ?_⟩
    rw [readN, ht, if_neg i4, i2]
    omega

theorem readL_yes {l : List UInt8} {v : Int} (h : Lib.itoa v = l) (ht : (readT l).length ≤ 18) : readL l = (v, true) := by
  obtain ⟨h1, h2, h3⟩ := itoa_read v l h
  rw [readL, if_pos ⟨h1, ht, h2, by rw [h3]; exact h⟩, h3]

theorem readL_no {l : List UInt8} (h : ¬ ReadP l) : readL l = (0, false) := by rw [readL, if_neg h]

theorem trim_is (l : List UInt8) : Lib.trimPrefix l [45] = readT l := by
  cases l with
  | nil => rfl
  | cons c r =>
    by_cases hc : c = 45
    · subst hc
      simp [Lib.trimPrefix, Lib.hasPrefix, readT]
    · have : ¬ (45 : UInt8) = c := fun h => hc h.symm
      simp [Lib.trimPrefix, Lib.hasPrefix, readT, hc, this]

theorem parse_bd {l : List UInt8} {v : Int} (h : Lib.parseIntB 64 l = .ok v) : -9223372036854775808 ≤ v ∧ v ≤ 9223372036854775807 := by
  cases l with
  | nil => simp [Lib.parseIntB] at h
  | cons c r =>
    simp only [Lib.parseIntB] at h
    split at h
    · cases h
    · cases h
    · split at h
      · cases h
      · split at h
        · cases h
        · next u _ h1 h2 =>
          injection h with h
          split at h <;> omega

/-- The variable holds an error. -/
def ErrVar (w : World) (g : Nat) : Prop := g < w.heap.size ∧ ∃ te pe, w.cell? ⟨g, 0, none⟩ = some (.iface te pe)

theorem ErrVar_kept {W w1 : World} {g : Nat} (h : ErrVar W g) (hb : Below W.heap.size W w1) : ErrVar w1 g := by
  obtain ⟨hg, te, pe, hc⟩ := h
  exact ⟨Nat.lt_of_lt_of_le hg hb.size, te, pe, by rw [kept_cell hb g 0 hg]; exact hc⟩

theorem errVar_of {P : Program} {W : World} {name s : String} {d : DataW Unit} {g t : Nat} {ms : Array (String × TypeId)} (hg : P.globalNamed name = some g) (hty : (P.globals[g]?).map (·.type) = some t) (ht : P.underlying t = some (.interface ms)) (hct : P.cellsOf t = 1)
    (h : Lib.VarReads P W name (.iface s d)) : ErrVar W g := by
  obtain ⟨g', t', cs, fuel, p, hg', ht', hvar, hd⟩ := h
  obtain rfl := Option.some.inj (hg.symm.trans hg')
  obtain rfl := Option.some.inj (hty.symm.trans ht')
  have hlt : g < W.heap.size := by
    simp only [World.var?, hg, Option.bind_some] at hvar
    rcases Nat.lt_or_ge g W.heap.size with hlt | hge
    · exact hlt
    · rw [Array.getElem?_eq_none hge] at hvar; simp at hvar
  refine ⟨hlt, ?_⟩
  have hcell := World.var?_cell hg hvar 0
  cases fuel with
  | zero => simp [DataW.trod] at hd
  | succ fuel =>
    cases hl : cs.toList with
    | nil => simp [DataW.trod, ht, hl] at hd
    | cons v r =>
      cases r with
      | cons _ _ => simp [DataW.trod, ht, hl] at hd
      | nil =>
        cases v <;> simp [DataW.trod, ht, hl] at hd
        next te pe =>
          refine ⟨te, pe, ?_⟩
          rw [hcell, ← Array.getElem?_toList, hl]
          rfl

theorem parse64_any (s : ByteArray) (hs : s.size ≤ 1000000) (w : World) (h1 : ErrVar w 5) (h2 : ErrVar w 6) :
    Calls Tryd.prog 160 #[.string s, .int .i64 10, .int .i64 64] w fun e w' => ((∃ v, Lib.parseIntB 64 s.data.toList = .ok v ∧ e = .returned (.tuple #[.int .i64 v, .nilIface])) ∨ ((∀ v, Lib.parseIntB 64 s.data.toList ≠ .ok v) ∧ ∃ x t p, e = .returned (.tuple #[.int .i64 x, .iface t p]))) ∧ Below w.heap.size w w' := by
  obtain ⟨_, te1, pe1, c1⟩ := h1
  obtain ⟨_, te2, pe2, c2⟩ := h2
  rcases hp : Lib.parseIntB 64 s.data.toList with v | _ | _
  · refine (Any.strconv_ParseInt_10_at64_ok Tryd.laysC174 s (by omega) v hp w).mono ?_
    rintro e w' ⟨rfl, hw⟩
    refine ⟨Or.inl ⟨v, rfl, rfl⟩, ?_⟩
    rcases hw with rfl | ⟨t, rfl⟩
    · exact Below.refl _ _
    · exact Joins.below_bytesWorld _ _ _ _ (Nat.le_refl _)
  · refine (Any.strconv_ParseInt_10_at64_syntax Tryd.laysC174 s (by omega) hp _ w c1 (Or.inr ⟨_, _, rfl⟩)).mono ?_
    rintro e w' ⟨N, rfl, _, _, hb⟩
    exact ⟨Or.inr ⟨fun v => by simp, _, _, _, rfl⟩, hb⟩
  · refine (Any.strconv_ParseInt_10_at64_range Tryd.laysC174 s (by omega) hp _ w c2 (Or.inr ⟨_, _, rfl⟩)).mono ?_
    rintro e w' ⟨N, rfl, _, _, hb⟩
    exact ⟨Or.inr ⟨fun v => by simp, _, _, _, rfl⟩, hb⟩

/-- What reading and writing numbers wants of the world. -/
def TextW (w : World) : Prop := PowTab w ∧ ErrVar w 5 ∧ ErrVar w 6

theorem TextW_kept {W w1 : World} (h : TextW W) (hb : Below W.heap.size W w1) : TextW w1 := ⟨tab_kept h.1 hb, ErrVar_kept h.2.1 hb, ErrVar_kept h.2.2 hb⟩

theorem str_ne {a b : ByteArray} (h : ¬ a = b) : (a.toList == b.toList) = false := by
  rw [ByteArray.toList_eq, ByteArray.toList_eq, beq_eq_false_iff_ne]
  intro he
  apply h
  cases a
  cases b
  simpa [Array.toList_inj] using he

set_option maxRecDepth 100000 in
theorem implReadDec_any (s : ByteArray) (hs : s.size ≤ 1000000) (w : World) (ht : TextW w) :
    Calls Tryd.prog 75 #[.string s] w fun e w' => e = .returned (.tuple #[.int .i64 (readL s.data.toList).1, .bool (readL s.data.toList).2]) ∧ Below w.heap.size w w' := by
  have HT := Lib.hid (Tryd.strings_TrimPrefix s ⟨#[45]⟩ w)
  rw [show (ByteArray.mk #[45]).data.toList = [45] from rfl, trim_is] at HT
  have hsl : s.data.toList.length = s.size := Array.length_toList
  by_cases h18 : (readT s.data.toList).length ≤ 18
  · have HP := Lib.hid (parse64_any s hs w ht.2.1 ht.2.2)
    have hsz : (ByteArray.mk (readT s.data.toList).toArray).size = (readT s.data.toList).length := by simp [ByteArray.size]
    generalize hT : ByteArray.mk (readT s.data.toList).toArray = T at *
    have hTs : T.size ≤ 18 := by omega
    clear hsz
    have hdec : decide ((18 : Int) < (T.size : Int)) = false := by simp; omega
    have HW := Lib.hid ht; clear ht
    have H18 := Lib.hid h18; clear h18
    have HTT := Lib.hid hT; clear hT
    go_enter Tryd.func75, Tryd.ntmps75
    go_wp2_with fail
    refine HT.out.mono ?_
    rintro e w1 ⟨rfl, rfl⟩
    go_wp2_with fail
    refine HP.out.mono ?_
    rintro e w2 ⟨(⟨v, hp, rfl⟩ | ⟨hno, x, t, p, rfl⟩), hb⟩
    · have hvb := parse_bd hp
      have HD := Lib.hid (implDecimal_any v hvb w2 (tab_kept HW.out.1 hb))
      by_cases he : Lib.itoa v = s.data.toList
      · have hL := readL_yes he H18.out
        rw [he] at HD
        have hss : ByteArray.mk s.data.toList.toArray = s := by cases s; simp
        rw [hss] at HD
        have HL := Lib.hid hL; clear hL he hp
        go_wp2_with fail
        refine HD.out.mono ?_
        rintro e w3 ⟨rfl, hb3⟩
        go_wp2
        go_ret2
        exact ⟨by rw [HL.out]; rfl, kept_trans hb hb3⟩
      · have hL : readL s.data.toList = (0, false) := readL_no (fun h => by
          have h2 := parse_int _ h.1 h.2.1 h.2.2.1
          rw [hp] at h2
          injection h2 with h2
          rw [h2] at he
          exact he h.2.2.2)
        have hne : ¬ ByteArray.mk (Lib.itoa v).toArray = s := fun h => he (by rw [← h])
        generalize ByteArray.mk (Lib.itoa v).toArray = G at *
        have hne1 := str_ne hne
        have HL := Lib.hid hL; clear hL he hp
        go_wp2_with fail
        refine HD.out.mono ?_
        rintro e w3 ⟨rfl, hb3⟩
        go_wp2
        go_ret2
        exact ⟨by rw [HL.out]; rfl, kept_trans hb hb3⟩
    · have hL : readL s.data.toList = (0, false) := readL_no (fun h => hno _ (parse_int _ h.1 h.2.1 h.2.2.1))
      have HL := Lib.hid hL; clear hL
      have HN := Lib.hid hno; clear hno
      go_wp2
      go_ret2
      exact ⟨by rw [HL.out]; rfl, hb⟩
  · have hL : readL s.data.toList = (0, false) := readL_no (fun h => h18 h.2.1)
    have hsz : (ByteArray.mk (readT s.data.toList).toArray).size = (readT s.data.toList).length := by simp [ByteArray.size]
    generalize hT : ByteArray.mk (readT s.data.toList).toArray = T at *
    have hTs : 18 < T.size := by omega
    clear hsz h18 hT ht
    have HL := Lib.hid hL; clear hL
    go_enter Tryd.func75, Tryd.ntmps75
    go_wp2_with fail
    refine HT.out.mono ?_
    rintro e w1 ⟨rfl, rfl⟩
    go_wp2
    go_ret2
    exact ⟨by rw [HL.out]; rfl, Below.refl _ _⟩

theorem valB_take (l : List UInt8) (k : Nat) (h : k < l.length) : valB (l.take (k + 1)) 0 = valB (l.take k) 0 * 10 + (l[k].toNat - 48) := by
  rw [← List.take_append_getElem h, valB, valB, List.foldl_append]
  rfl

theorem num_bd {l : List UInt8} {k : Nat} (h : (l.take k).all digB = true) (hk : k ≤ 18) : valB (l.take k) 0 < 10 ^ k := by
  have hlen : (l.take k).length ≤ k := by rw [List.length_take]; omega
  have h1 := (parse_ok (l.take k) 0 0 h (by simp) (by omega)).2
  exact Nat.lt_of_lt_of_le h1 (Nat.pow_le_pow_right (by omega) (by omega))

theorem digI_B (c : UInt8) : digitI (c.toNat : Nat) = digB c := by
  simp only [digitI, digB]
  congr 1
  · by_cases h : 48 ≤ c.toNat
    · simp [h]; omega
    · simp [h]; omega
  · by_cases h : c.toNat ≤ 57
    · simp [h]; omega
    · simp [h]; omega

set_option maxRecDepth 100000 in
set_option maxHeartbeats 1600000 in
theorem specNum_any (s : ByteArray) (hs : s.size ≤ 1000000) (w : World) :
    Calls Tryd.prog 69 #[.string s] w fun e w' => e = .returned (.tuple #[.int .i64 (readL s.data.toList).1, .bool (readL s.data.toList).2]) ∧ Below w.heap.size w w' := by
  have hsl : s.data.toList.length = s.size := Array.length_toList
  by_cases h0 : s.size = 0
  · have hl0 : s.data.toList = [] := List.eq_nil_of_length_eq_zero (by omega)
    have hL : readL s.data.toList = (0, false) := readL_no (fun h => by have := h.1; rw [hl0] at this; simp [readT] at this)
    have HL := Lib.hid hL; clear hL
    have hs0 : s = ByteArray.empty := by cases s with | mk d => simp [ByteArray.size] at h0; subst h0; rfl
    generalize hF : readL s.data.toList = F at *
    clear hF hl0 hsl
    subst hs0
    go_enter Tryd.func69, Tryd.ntmps69
    go_wp2
    go_ret2
    exact ⟨by rw [HL.out]; rfl, Below.refl _ _⟩
  · have hne : s.toList.isEmpty = false := by
      rw [ByteArray.toList_eq]
      cases hl : s.data.toList with
      | nil => rw [hl] at hsl; simp at hsl; omega
      | cons a l => rfl
    have h0' : 0 < s.size := by omega
    have hhead : s.data.toList.head? = some (s[0]'h0') := by
      cases hl : s.data.toList with
      | nil => rw [hl] at hsl; simp at hsl; omega
      | cons a l =>
        have : s.data.toList[0]'(by omega) = s[0]'h0' := by simp [ByteArray.getElem_eq_getElem_data]
        simp only [hl, List.getElem_cons_zero] at this
        simp [this]
    by_cases hc : s[0]'h0' = 45
    · have hcn : (((s[0]'h0').toNat : Nat) : Int) = 45 := by rw [hc]; rfl
      have hrt : readT s.data.toList = s.data.toList.tail := by rw [readT, hhead, hc, if_pos rfl]
      have hrn : readN s.data.toList = -(valB (readT s.data.toList) 0 : Int) := by rw [readN, hhead, hc, if_pos rfl]
      have hext : (s.extract 1 s.size).data.toList = s.data.toList.tail := by
        rw [ByteArray.data_extract, Array.toList_extract, List.extract, List.take_of_length_le (by rw [List.length_drop]; omega), List.drop_one]
      have hlt : (readT s.data.toList).length = s.size - 1 := by rw [hrt, List.length_tail]; omega
      by_cases h1 : s.size - 1 < 1
      · have hL : readL s.data.toList = (0, false) := readL_no (fun h => by have := h.1; omega)
        have HL := Lib.hid hL; clear hL hrt hrn hext hlt hhead
        go_enter Tryd.func69, Tryd.ntmps69
        go_wp2
        go_ret2
        exact ⟨by rw [HL.out]; rfl, Below.refl _ _⟩
      · by_cases h2 : 18 < s.size - 1
        · have hL : readL s.data.toList = (0, false) := readL_no (fun h => by have := h.2.1; omega)
          have HL := Lib.hid hL; clear hL hrt hrn hext hlt hhead
          go_enter Tryd.func69, Tryd.ntmps69
          go_wp2
          go_ret2
          exact ⟨by rw [HL.out]; rfl, Below.refl _ _⟩
        · have hT : readT s.data.toList = (s.extract 1 s.size).data.toList := by rw [hrt, hext]
          have hTz : (s.extract 1 s.size).size = s.size - 1 := by simp
          have HT := Lib.hid hT; clear hT
          have HN := Lib.hid (hrn.trans (by rw [HT.out] : _ = -(valB (s.extract 1 s.size).data.toList 0 : Int)))
          have hTl := Lib.hid (show (s.extract 1 s.size).data.toList.length = (s.extract 1 s.size).size from Array.length_toList)
          clear hrt hrn hext hlt hhead
          go_enter Tryd.func69, Tryd.ntmps69
          go_wp2_with fail
          generalize s.extract 1 s.size = T at *
          go_loopw [5, 6] (fun n i wr => ∃ k : Nat, k ≤ T.size ∧ i = .int .i64 k ∧ n = .int .i64 ((valB (T.data.toList.take k) 0 : Nat) : Int) ∧ (T.data.toList.take k).all digB = true ∧ Below w.heap.size w wr) (fun _ i _ => T.size - (intOf i).toNat)
          case atStart => exact ⟨0, by omega, rfl, rfl, rfl, Below.refl _ _⟩
          case round =>
            obtain ⟨k, hk, rfl, rfl, hall, hb⟩ := hrel
            by_cases hlt : k < T.size
            · have hkl : k < T.data.toList.length := by rw [hTl.out]; exact hlt
              have hgk : T.data.toList[k]'hkl = T[k]'hlt := by simp [ByteArray.getElem_eq_getElem_data]
              have hbd := num_bd hall (by omega)
              have hp17 : (10 : Nat) ^ k ≤ 10 ^ 17 := Nat.pow_le_pow_right (by omega) (by omega)
              have h17 : (10 : Nat) ^ 17 = 100000000000000000 := by decide
              have hstep := valB_take T.data.toList k hkl
              have hsall : digB (T.data.toList[k]'hkl) = true → (T.data.toList.take (k + 1)).all digB = true := fun h => by
                rw [← List.take_append_getElem hkl, List.all_append, hall, Bool.true_and, List.all_cons, h]
                rfl
              have hnall : digB (T.data.toList[k]'hkl) = false → readL s.data.toList = (0, false) := fun h => readL_no (fun hp => by
                have h2 := hp.2.2.1
                rw [HT.out] at h2
                have := List.all_eq_true.1 h2 _ (List.getElem_mem hkl)
                rw [h] at this
                cases this)
              rw [hgk] at hstep hsall hnall
              rw [← digI_B] at hsall hnall
              generalize valB (T.data.toList.take k) 0 = V at *
              have HALL := Lib.hid hall; clear hall
              have HST := Lib.hid hstep; clear hstep
              have HSA := Lib.hid hsall; clear hsall
              have HNA := Lib.hid hnall; clear hnall
              clear hgk
              have hV : V < 100000000000000000 := by omega
              clear hbd hp17 h17
              cases hd : digitI ((T[k]'hlt).toNat : Nat)
              · have HD := Lib.hid hd; clear hd
                go_wp2_with (go_at_call 156; refine (digit_any _ _).mono ?_; rw [HD.out]; rintro e w' ⟨rfl, rfl⟩)
                go_ret2
                exact ⟨by rw [HNA.out HD.out]; rfl, hb⟩
              · have hdd := hd
                simp only [digitI, Bool.and_eq_true, decide_eq_true_eq] at hdd
                have HD := Lib.hid hd; clear hd
                go_wp2_with (go_at_call 156; refine (digit_any _ _).mono ?_; rw [HD.out]; rintro e w' ⟨rfl, rfl⟩)
                go_roundw
                case rel => exact ⟨k + 1, by omega, by go_num, by rw [HST.out]; congr 1; omega, HSA.out HD.out, hb⟩
                case measure => simp [intOf]; omega
            · have hkk : k = T.size := by omega
              subst hkk
              rw [List.take_of_length_le (by rw [hTl.out]; exact Nat.le_refl _)] at hall ⊢
              have hbd := num_bd (l := T.data.toList) (k := T.size) (by rw [List.take_of_length_le (by rw [hTl.out]; exact Nat.le_refl _)]; exact hall) (by omega)
              rw [List.take_of_length_le (by rw [hTl.out]; exact Nat.le_refl _)] at hbd
              have hp18 : (10 : Nat) ^ T.size ≤ 10 ^ 18 := Nat.pow_le_pow_right (by omega) (by omega)
              have h18 : (10 : Nat) ^ 18 = 1000000000000000000 := by decide
              have hRN := HN.out
              have hno : ¬ Lib.itoa (-(valB T.data.toList 0 : Int)) = s.data.toList → readL s.data.toList = (0, false) := fun h => readL_no (fun hp => h (by rw [← hRN]; exact hp.2.2.2))
              have hyes : Lib.itoa (-(valB T.data.toList 0 : Int)) = s.data.toList → readL s.data.toList = (-(valB T.data.toList 0 : Int), true) := fun h => readL_yes h (by rw [HT.out, hTl.out]; omega)
              generalize valB T.data.toList 0 = V at *
              have hV : V < 1000000000000000000 := by omega
              clear hbd hp18 h18 hall hRN
              have HD := Lib.hid (specDec_any (-(V : Int)) (by omega))
              by_cases he : Lib.itoa (-(V : Int)) = s.data.toList
              · have hL := hyes he
                rw [he] at HD
                have hss : ByteArray.mk s.data.toList.toArray = s := by cases s; simp
                rw [hss] at HD
                have HL := Lib.hid hL; clear hL he hyes hno
                go_wp2_with fail
                refine (HD.out _).mono ?_
                rintro e w3 ⟨rfl, hb3⟩
                go_wp2
                go_ret2
                exact ⟨by rw [HL.out]; rfl, kept_trans hb hb3⟩
              · have hL := hno he
                have hne2 : ¬ ByteArray.mk (Lib.itoa (-(V : Int))).toArray = s := fun h => he (by rw [← h])
                generalize ByteArray.mk (Lib.itoa (-(V : Int))).toArray = G at *
                have hne3 := str_ne hne2
                have HL := Lib.hid hL; clear hL he hyes hno
                go_wp2_with fail
                refine (HD.out _).mono ?_
                rintro e w3 ⟨rfl, hb3⟩
                go_wp2
                go_ret2
                exact ⟨by rw [HL.out]; rfl, kept_trans hb hb3⟩
    · have hcn : ((((s[0]'h0').toNat : Nat) : Int) == 45) = false := by
        have : ¬ (s[0]'h0').toNat = 45 := fun h => hc (UInt8.toNat_inj.1 (by rw [h]; rfl))
        simp
        omega
      have hne45 : ¬ s.data.toList.head? = some 45 := by rw [hhead]; simpa using hc
      have hrt : readT s.data.toList = s.data.toList := by rw [readT, if_neg hne45]
      have hrn : readN s.data.toList = (valB (readT s.data.toList) 0 : Int) := by rw [readN, if_neg hne45]
      have hlt : (readT s.data.toList).length = s.size := by rw [hrt]; exact hsl
      by_cases h2 : 18 < s.size
      · have hL : readL s.data.toList = (0, false) := readL_no (fun h => by have := h.2.1; omega)
        have HL := Lib.hid hL; clear hL hrt hrn hlt hhead hne45
        go_enter Tryd.func69, Tryd.ntmps69
        go_wp2
        go_ret2
        exact ⟨by rw [HL.out]; rfl, Below.refl _ _⟩
      · have HT := Lib.hid hrt
        have HN := Lib.hid (hrn.trans (by rw [hrt] : _ = (valB s.data.toList 0 : Int)))
        have hTl := Lib.hid hsl
        clear hrt hrn hlt hhead hne45
        have hse : s = s := rfl
        go_enter Tryd.func69, Tryd.ntmps69
        go_wp2_with fail
        go_loopw [5, 6] (fun n i wr => ∃ k : Nat, k ≤ s.size ∧ i = .int .i64 k ∧ n = .int .i64 ((valB (s.data.toList.take k) 0 : Nat) : Int) ∧ (s.data.toList.take k).all digB = true ∧ Below w.heap.size w wr) (fun _ i _ => s.size - (intOf i).toNat)
        case atStart => exact ⟨0, by omega, rfl, rfl, rfl, Below.refl _ _⟩
        case round =>
          obtain ⟨k, hk, rfl, rfl, hall, hb⟩ := hrel
          by_cases hlt : k < s.size
          · have hkl : k < s.data.toList.length := by rw [hTl.out]; exact hlt
            have hgk : s.data.toList[k]'hkl = s[k]'hlt := by simp [ByteArray.getElem_eq_getElem_data]
            have hbd := num_bd hall (by omega)
            have hp17 : (10 : Nat) ^ k ≤ 10 ^ 17 := Nat.pow_le_pow_right (by omega) (by omega)
            have h17 : (10 : Nat) ^ 17 = 100000000000000000 := by decide
            have hstep := valB_take s.data.toList k hkl
            have hsall : digB (s.data.toList[k]'hkl) = true → (s.data.toList.take (k + 1)).all digB = true := fun h => by
              rw [← List.take_append_getElem hkl, List.all_append, hall, Bool.true_and, List.all_cons, h]
              rfl
            have hnall : digB (s.data.toList[k]'hkl) = false → readL s.data.toList = (0, false) := fun h => readL_no (fun hp => by
              have h2 := hp.2.2.1
              rw [HT.out] at h2
              have := List.all_eq_true.1 h2 _ (List.getElem_mem hkl)
              rw [h] at this
              cases this)
            rw [hgk] at hstep hsall hnall
            rw [← digI_B] at hsall hnall
            generalize valB (s.data.toList.take k) 0 = V at *
            have HALL := Lib.hid hall; clear hall
            have HST := Lib.hid hstep; clear hstep
            have HSA := Lib.hid hsall; clear hsall
            have HNA := Lib.hid hnall; clear hnall
            clear hgk
            have hV : V < 100000000000000000 := by omega
            clear hbd hp17 h17
            cases hd : digitI ((s[k]'hlt).toNat : Nat)
            · have HD := Lib.hid hd; clear hd
              go_wp2_with (go_at_call 156; refine (digit_any _ _).mono ?_; rw [HD.out]; rintro e w' ⟨rfl, rfl⟩)
              go_ret2
              exact ⟨by rw [HNA.out HD.out]; rfl, hb⟩
            · have hdd := hd
              simp only [digitI, Bool.and_eq_true, decide_eq_true_eq] at hdd
              have HD := Lib.hid hd; clear hd
              go_wp2_with (go_at_call 156; refine (digit_any _ _).mono ?_; rw [HD.out]; rintro e w' ⟨rfl, rfl⟩)
              go_roundw
              case rel => exact ⟨k + 1, by omega, by go_num, by rw [HST.out]; congr 1; omega, HSA.out HD.out, hb⟩
              case measure => simp [intOf]; omega
          · have hkk : k = s.size := by omega
            subst hkk
            rw [List.take_of_length_le (by rw [hTl.out]; exact Nat.le_refl _)] at hall ⊢
            have hbd := num_bd (l := s.data.toList) (k := s.size) (by rw [List.take_of_length_le (by rw [hTl.out]; exact Nat.le_refl _)]; exact hall) (by omega)
            rw [List.take_of_length_le (by rw [hTl.out]; exact Nat.le_refl _)] at hbd
            have hp18 : (10 : Nat) ^ s.size ≤ 10 ^ 18 := Nat.pow_le_pow_right (by omega) (by omega)
            have h18 : (10 : Nat) ^ 18 = 1000000000000000000 := by decide
            have hRN := HN.out
            have hno : ¬ Lib.itoa ((valB s.data.toList 0 : Int)) = s.data.toList → readL s.data.toList = (0, false) := fun h => readL_no (fun hp => h (by rw [← hRN]; exact hp.2.2.2))
            have hyes : Lib.itoa ((valB s.data.toList 0 : Int)) = s.data.toList → readL s.data.toList = ((valB s.data.toList 0 : Int), true) := fun h => readL_yes h (by rw [HT.out, hTl.out]; omega)
            generalize valB s.data.toList 0 = V at *
            have hV : V < 1000000000000000000 := by omega
            clear hbd hp18 h18 hall hRN
            have HD := Lib.hid (specDec_any ((V : Int)) (by omega))
            by_cases he : Lib.itoa ((V : Int)) = s.data.toList
            · have hL := hyes he
              rw [he] at HD
              have hss : ByteArray.mk s.data.toList.toArray = s := by cases s; simp
              rw [hss] at HD
              have HL := Lib.hid hL; clear hL he hyes hno
              go_wp2_with fail
              refine (HD.out _).mono ?_
              rintro e w3 ⟨rfl, hb3⟩
              go_wp2
              go_ret2
              exact ⟨by rw [HL.out]; rfl, kept_trans hb hb3⟩
            · have hL := hno he
              have hne2 : ¬ ByteArray.mk (Lib.itoa ((V : Int))).toArray = s := fun h => he (by rw [← h])
              generalize ByteArray.mk (Lib.itoa ((V : Int))).toArray = G at *
              have hne3 := str_ne hne2
              have HL := Lib.hid hL; clear hL he hyes hno
              go_wp2_with fail
              refine (HD.out _).mono ?_
              rintro e w3 ⟨rfl, hb3⟩
              go_wp2
              go_ret2
              exact ⟨by rw [HL.out]; rfl, kept_trans hb hb3⟩

theorem cat_size (l : List UInt8) : (ByteArray.mk l.toArray).size = l.length := by simp [ByteArray.size]

/-- The cells of a list of strings. -/
def strV (ss : List ByteArray) : List Value := ss.map Value.string

theorem strV_at (ss : List ByteArray) (k : Nat) (h : k < ss.length) : (strV ss)[k]? = some (.string ss[k]) := by simp [strV, h]

/-- The slice value reads as a list of strings. -/
def RdS (w : World) (v : Value) (ss : List ByteArray) : Prop := RdF w v ss.length 1 (strV ss)

theorem RdS_at {w : World} {v : Value} {ss : List ByteArray} (h : RdS w v ss) : ∃ A c, v = .slice A ss.length c ∧ ss.length ≤ 9223372036854775807 ∧
    ∀ k, (hk : k < ss.length) → ∃ b off, A = some ⟨b, off, none⟩ ∧ b < w.heap.size ∧ w.cell? ⟨b, off + k, none⟩ = some (.string ss[k]) := by
  obtain ⟨hl, hx, A, c, rfl, hr⟩ := h
  refine ⟨A, c, rfl, hl, fun k hk => ?_⟩
  obtain ⟨b, off, rfl, hlt, h0⟩ := hr k (by omega)
  rw [strV_at ss k hk] at h0
  exact ⟨b, off, rfl, hlt, h0⟩

/-- The pieces of a text between bytes c, from a byte on; the open one began at 'from'. -/
def restW (s : ByteArray) (c : UInt8) (pos beg : Nat) : List ByteArray :=
  if h : pos < s.size then (if s.data.toList.getD pos 0 = c then s.extract beg pos :: restW s c (pos + 1) (pos + 1) else restW s c (pos + 1) beg) else [s.extract beg s.size]
termination_by s.size - pos

def blankP (x : Nat) : Bool := decide (x = 32)

theorem restW_no {s : ByteArray} {c : UInt8} {pos beg : Nat} (h : pos < s.size) (hc : s.data.toList.getD pos 0 ≠ c) : restW s c pos beg = restW s c (pos + 1) beg := by rw [restW, dif_pos h, if_neg hc]

theorem restW_yes {s : ByteArray} {c : UInt8} {pos beg : Nat} (h : pos < s.size) (hc : s.data.toList.getD pos 0 = c) : restW s c pos beg = s.extract beg pos :: restW s c (pos + 1) (pos + 1) := by rw [restW, dif_pos h, if_pos hc]

theorem restW_end (s : ByteArray) (c : UInt8) (beg : Nat) : restW s c s.size beg = [s.extract beg s.size] := by rw [restW, dif_neg (by omega)]

theorem restW_len (s : ByteArray) (c : UInt8) : ∀ n pos beg, s.size - pos = n → (restW s c pos beg).length ≤ n + 1 := by
  intro n
  induction n with
  | zero => intro pos beg h; rw [restW, dif_neg (by omega)]; simp
  | succ n ih =>
    intro pos beg h
    rw [restW, dif_pos (by omega)]
    split
    · have := ih (pos + 1) (pos + 1) (by omega)
      simp only [List.length_cons]
      omega
    · have := ih (pos + 1) beg (by omega)
      omega

theorem info_str : (Tryd.prog.info? 9).map (fun i => (i.zero, i.size, i.bytes)) = some (some (.string ⟨#[]⟩), 1, 16) := by kernel_rfl

/-- append of one string to a row of the call's own. -/
theorem wp_appendS {ops : Array Oper} {rest : List Oper} {o : Oper} {a : Act} {Q : Exit → Act → World → Prop} {W wr : World} (hgd : o.guard = none) (s x : Operand)
    (ho : o.op = .call { callee := .builtin .append, args := #[s, x], argTypes := #[105, 105] })
    (lo : Nat) (v : Value) (ss : List ByteArray) (z : ByteArray) (hs : a.eval s = v) (hrow : RowF 9 1 wr lo wr.heap.size v ss.length (strV ss)) (hx : a.eval x = .slice (some ⟨wr.heap.size, 0, none⟩) 1 1)
    (hW : Below W.heap.size W wr) (hlo : W.heap.size ≤ lo) (hlo2 : lo ≤ wr.heap.size) (hn : ss.length < 1000000000)
    (h : ∀ v' w', RowF 9 1 w' lo w'.heap.size v' (ss ++ [z]).length (strV (ss ++ [z])) → Below W.heap.size W w' → wr.heap.size ≤ w'.heap.size → wpList Tryd.prog ops Q rest (a.put o.dst v') w') :
    wpList Tryd.prog ops Q (o :: rest) a (wr.alloc (.cells #[.string z] 9)) := by
  obtain ⟨i0, hi, hz0, hz1, hz2⟩ := info_parts info_str
  refine wpList_append_own _ hgd s x _ ho lo 9 i0 (.string ⟨#[]⟩) 1 16 Tryd.underlying105 hi hz0 hz1 hz2 rfl (by decide) v ss.length _ hs (hrow.1.alloc _) ⟨wr.heap.size, 0, none⟩ 1 1 [.string z] hx rfl ?_ ?_ ?_ ?_ ?_ ?_
  · intro j u hj
    match j with
    | 0 => simp at hj; subst hj; simp [Addr.add]
    | j + 1 => simp at hj
  · intro u hu; simp at hu; subst hu; rfl
  · unfold maxLen; omega
  · omega
  · simp; omega
  · intro v' w' hown hg _
    rw [show strV ss ++ [Value.string z] = strV (ss ++ [z]) by simp [strV]] at hown
    have hrow' : RowF 9 1 w' lo w'.heap.size v' (ss ++ [z]).length (strV (ss ++ [z])) := ⟨by simpa using hown, hown.lt⟩
    refine h v' w' hrow' ?_ (Nat.le_trans (by simp) hg.size)
    refine grown_below (hW.alloc hW.size _) hg (fun g hg2 => ?_)
    have := (hrow.2 g hg2).1
    omega

set_option maxRecDepth 100000 in
theorem specSplit_any (s : ByteArray) (c : UInt8) (hs : s.size ≤ 1000000) (w : World) :
    Calls Tryd.prog 68 #[.string s, .int .u8 (c.toNat : Int)] w fun e w' => ∃ v, e = .returned v ∧ RowF 9 1 w' w.heap.size w'.heap.size v (restW s c 0 0).length (strV (restW s c 0 0)) ∧ Below w.heap.size w w' := by
  have hsl : s.data.toList.length = s.size := Array.length_toList
  have hlenW := restW_len s c s.size 0 0 rfl
  go_enter Tryd.func68, Tryd.ntmps68
  go_wp2_with fail
  go_loopw [5, 6, 7] (fun o b i wr => ∃ (k beg : Nat) (ps : List ByteArray) (ov : Value), k ≤ s.size ∧ beg ≤ k ∧ ov = o ∧ b = .int .i64 beg ∧ i = .int .i64 k ∧ RowF 9 1 wr w.heap.size wr.heap.size ov ps.length (strV ps) ∧ ps ++ restW s c k beg = restW s c 0 0 ∧ Below w.heap.size w wr) (fun _ _ i _ => s.size - (intOf i).toNat)
  case atStart => exact ⟨0, 0, [], _, by omega, by omega, rfl, rfl, rfl, ⟨World.ownsRow_lit w #[] 0 (Nat.le_refl _) (by decide) (by rfl), fun g hg => by simp [Value.ownBlock] at hg; subst hg; simp⟩, rfl, by go_grown⟩
  case round =>
    obtain ⟨k, beg, ps, ov, hk, hbk, ho, rfl, rfl, hrow, hps, hb⟩ := hrel
    subst ho
    have hsz := hb.size
    have hpl : ps.length ≤ 1000001 := by
      have := congrArg List.length hps
      simp only [List.length_append] at this
      omega
    by_cases hlt : k < s.size
    · have hgk : s.data.toList.getD k 0 = s[k]'hlt := by
        rw [List.getD_eq_getElem?_getD, List.getElem?_eq_getElem (by omega)]
        simp [ByteArray.getElem_eq_getElem_data]
      by_cases hc : s[k]'hlt = c
      · have hcn : ((((s[k]'hlt).toNat : Nat) : Int) == ((c.toNat : Nat) : Int)) = true := by rw [hc]; simp
        have hnx : ps ++ [s.extract beg k] ++ restW s c (k + 1) (k + 1) = restW s c 0 0 := by
          rw [← hps, restW_yes hlt (by rw [hgk]; exact hc)]
          simp
        have HR := Lib.hid hrow; clear hrow
        have HN := Lib.hid hnx; clear hnx hps hgk
        have HC := Lib.hid hc; clear hc
        go_wp2_with (at_builtin; refine wp_appendS rfl (.tmp 20) (.tmp 25) rfl w.heap.size _ ps (s.extract beg k) rfl HR.out rfl hb (Nat.le_refl _) hsz (by omega) ?_; intro v' w' hrow' hb' _)
        go_roundw
        case rel => exact ⟨k + 1, k + 1, ps ++ [s.extract beg k], v', by omega, by omega, rfl, by go_num, by go_num, hrow', HN.out, hb'⟩
        case measure => simp [intOf]; omega
      · have hcn : ((((s[k]'hlt).toNat : Nat) : Int) == ((c.toNat : Nat) : Int)) = false := by
          have : ¬ (s[k]'hlt).toNat = c.toNat := fun h => hc (UInt8.toNat_inj.1 h)
          simp
          omega
        have hnx : ps ++ restW s c (k + 1) beg = restW s c 0 0 := by rw [← hps, restW_no hlt (by rw [hgk]; exact hc)]
        have HR := Lib.hid hrow; clear hrow
        have HN := Lib.hid hnx; clear hnx hps hgk
        have HC := Lib.hid hc; clear hc
        go_wp2
        go_roundw
        case rel => exact ⟨k + 1, beg, ps, ov, by omega, by omega, rfl, rfl, by go_num, HR.out, HN.out, hb⟩
        case measure => simp [intOf]; omega
    · have hkk : k = s.size := by omega
      subst hkk
      rw [restW_end] at hps
      have HR := Lib.hid hrow; clear hrow
      have HN := Lib.hid hps; clear hps
      go_wp2_with (at_builtin; refine wp_appendS rfl (.tmp 29) (.tmp 33) rfl w.heap.size _ ps (s.extract beg s.size) rfl HR.out rfl hb (Nat.le_refl _) hsz (by omega) ?_; intro v' w' hrow' hb' _)
      go_ret
      exact ⟨_, rfl, by rw [← HN.out]; exact hrow', hb'⟩

theorem isBlank_any (x : Nat) (hx : x ≤ 1114111) (w : World) :
    Calls Tryd.prog 74 #[.int .i32 (x : Int)] w fun e w' => e = .returned (.bool (blankP x)) ∧ ∃ q, w' = w.drewN q := by
  unfold blankP
  by_cases h : x = 32
  · subst h
    go_enter Tryd.func74, Tryd.ntmps74
    go_wp2
    go_ret
    exact ⟨rfl, 0, rfl⟩
  · have h2 : ¬ ((x : Int) = 32) := by omega
    have h3 : ((x : Int) == 32) = false := by simpa using h2
    rw [decide_eq_false h]
    go_enter Tryd.func74, Tryd.ntmps74
    go_wp2
    go_ret
    exact ⟨rfl, 0, rfl⟩

theorem join2 (x y : List UInt8) (r : List (List UInt8)) (c : UInt8) : Lib.join (x :: y :: r) [c] = x ++ c :: Lib.join (y :: r) [c] := by
  rw [Lib.join_cons, Lib.join_cons]
  simp [Lib.joinTail]

theorem head_uniq (c : UInt8) : ∀ (x y A B : List UInt8), c ∉ x → c ∉ y → (A = [] ∨ ∃ r, A = c :: r) → (B = [] ∨ ∃ r, B = c :: r) → x ++ A = y ++ B → x = y ∧ A = B := by
  intro x
  induction x with
  | nil =>
    intro y A B hx hy hA hB h
    cases y with
    | nil => exact ⟨rfl, h⟩
    | cons b y =>
      rcases hA with rfl | ⟨r, rfl⟩
      · simp at h
      · simp at h
        exact absurd (by rw [h.1]; simp) hy
  | cons a x ih =>
    intro y A B hx hy hA hB h
    cases y with
    | nil =>
      rcases hB with rfl | ⟨r, rfl⟩
      · simp at h
      · simp at h
        exact absurd (by rw [h.1]; simp) hx
    | cons b y =>
      simp only [List.cons_append, List.cons.injEq] at h
      simp only [List.mem_cons, not_or] at hx hy
      obtain ⟨h1, h2⟩ := ih y A B hx.2 hy.2 hA hB h.2
      exact ⟨by rw [h.1, h1], h2⟩

theorem split_uniq (c : UInt8) : ∀ (ps qs : List (List UInt8)), ps ≠ [] → qs ≠ [] → (∀ x ∈ ps, c ∉ x) → (∀ x ∈ qs, c ∉ x) → Lib.join ps [c] = Lib.join qs [c] → ps = qs := by
  intro ps
  induction ps with
  | nil => intro qs h; exact absurd rfl h
  | cons x ps ih =>
    intro qs _ hq hp1 hq1 h
    cases qs with
    | nil => exact absurd rfl hq
    | cons y qs =>
      cases ps with
      | nil =>
        cases qs with
        | nil => simpa [Lib.join_one] using h
        | cons y2 qs =>
          rw [Lib.join_one, join2] at h
          have := hp1 x (by simp)
          rw [h] at this
          simp at this
      | cons x2 ps =>
        cases qs with
        | nil =>
          rw [Lib.join_one, join2] at h
          have := hq1 y (by simp)
          rw [← h] at this
          simp at this
        | cons y2 qs =>
          rw [join2, join2] at h
          obtain ⟨h1, h2⟩ := head_uniq c x y _ _ (hp1 x (by simp)) (hq1 y (by simp)) (Or.inr ⟨_, rfl⟩) (Or.inr ⟨_, rfl⟩) h
          rw [h1, ih (y2 :: qs) (by simp) (by simp) (fun z hz => hp1 z (by simp [List.mem_cons] at hz ⊢; exact Or.inr hz)) (fun z hz => hq1 z (by simp [List.mem_cons] at hz ⊢; exact Or.inr hz)) (by simpa using h2)]

theorem restW_ne (s : ByteArray) (c : UInt8) : ∀ n pos beg, s.size - pos = n → restW s c pos beg ≠ [] := by
  intro n
  induction n with
  | zero => intro pos beg h; rw [restW, dif_neg (by omega)]; simp
  | succ n ih =>
    intro pos beg h
    rw [restW, dif_pos (by omega)]
    split
    · simp
    · exact ih (pos + 1) beg (by omega)

theorem restW_join (s : ByteArray) (c : UInt8) : ∀ n pos beg, s.size - pos = n → beg ≤ pos → pos ≤ s.size → Lib.join ((restW s c pos beg).map fun x => x.data.toList) [c] = s.data.toList.drop beg := by
  have hl : s.data.toList.length = s.size := Array.length_toList
  intro n
  induction n with
  | zero =>
    intro pos beg h h1 h2
    obtain rfl : pos = s.size := by omega
    rw [restW_end, List.map_cons, List.map_nil, Lib.join_one, Lib.extract_eq]
    simp only []
    rw [List.take_of_length_le (by rw [List.length_drop, hl]; exact Nat.le_refl _)]
  | succ n ih =>
    intro pos beg h h1 h2
    by_cases hc : s.data.toList.getD pos 0 = c
    · rw [restW_yes (by omega) hc]
      have hih := ih (pos + 1) (pos + 1) (by omega) (Nat.le_refl _) (by omega)
      have hne := restW_ne s c n (pos + 1) (pos + 1) (by omega)
      generalize restW s c (pos + 1) (pos + 1) = R at *
      cases R with
      | nil => exact absurd rfl hne
      | cons y r =>
        rw [List.map_cons, List.map_cons, join2, ← List.map_cons (f := fun x : ByteArray => x.data.toList), hih, Lib.extract_eq]
        simp only []
        have hg : s.data.toList[pos]'(by omega) = c := by
          rw [← hc]
          simp [List.getD, List.getElem?_eq_getElem (show pos < s.data.toList.length by omega)]
        have hd : s.data.toList.drop pos = c :: s.data.toList.drop (pos + 1) := by
          rw [List.drop_eq_getElem_cons (by omega), hg]
        rw [← hd]
        have := List.take_append_drop (pos - beg) (s.data.toList.drop beg)
        rw [List.drop_drop, show beg + (pos - beg) = pos by omega] at this
        exact this
    · rw [restW_no (by omega) hc]
      exact ih (pos + 1) beg (by omega) (by omega) (by omega)

theorem restW_free (s : ByteArray) (c : UInt8) : ∀ n pos beg, s.size - pos = n → beg ≤ pos → pos ≤ s.size → (∀ j, beg ≤ j → j < pos → s.data.toList.getD j 0 ≠ c) → ∀ x ∈ restW s c pos beg, c ∉ x.data.toList := by
  have hl : s.data.toList.length = s.size := Array.length_toList
  have hex : ∀ beg pos, beg ≤ pos → pos ≤ s.size → (∀ j, beg ≤ j → j < pos → s.data.toList.getD j 0 ≠ c) → c ∉ (s.extract beg pos).data.toList := by
    intro beg pos h1 h2 h3 hm
    rw [Lib.extract_eq] at hm
    simp only [] at hm
    obtain ⟨j, hj, hv⟩ := List.mem_iff_getElem.1 hm
    simp only [List.length_take, List.length_drop] at hj
    rw [List.getElem_take, List.getElem_drop] at hv
    refine h3 (beg + j) (by omega) (by omega) ?_
    rw [← hv]
    simp [List.getD, List.getElem?_eq_getElem (show beg + j < s.data.toList.length by omega)]
  intro n
  induction n with
  | zero =>
    intro pos beg h h1 h2 h3 x hx
    obtain rfl : pos = s.size := by omega
    rw [restW_end] at hx
    simp at hx
    subst hx
    exact hex _ _ h1 h2 h3
  | succ n ih =>
    intro pos beg h h1 h2 h3 x hx
    by_cases hc : s.data.toList.getD pos 0 = c
    · rw [restW_yes (by omega) hc] at hx
      rcases List.mem_cons.1 hx with rfl | hx
      · exact hex _ _ h1 h2 h3
      · exact ih (pos + 1) (pos + 1) (by omega) (Nat.le_refl _) (by omega) (fun j h4 h5 => by omega) x hx
    · rw [restW_no (by omega) hc] at hx
      refine ih (pos + 1) beg (by omega) (by omega) (by omega) (fun j h4 h5 => ?_) x hx
      by_cases he : j = pos
      · subst he; exact hc
      · exact h3 j h4 (by omega)

theorem readL_back {l : List UInt8} (h : (readL l).2 = true) : Lib.itoa (readL l).1 = l := by
  by_cases hp : ReadP l
  · rw [readL, if_pos hp]
    exact hp.2.2.2
  · rw [readL_no hp] at h
    cases h

theorem restW_sz (s : ByteArray) (c : UInt8) : ∀ n pos beg, s.size - pos = n → ∀ x ∈ restW s c pos beg, x.size ≤ s.size := by
  have hex : ∀ a b, (s.extract a b).size ≤ s.size := fun a b => by rw [ByteArray.size_extract]; omega
  intro n
  induction n with
  | zero =>
    intro pos beg h x hx
    rw [restW, dif_neg (by omega)] at hx
    simp at hx
    subst hx
    exact hex _ _
  | succ n ih =>
    intro pos beg h x hx
    rw [restW, dif_pos (by omega)] at hx
    split at hx
    · rcases List.mem_cons.1 hx with rfl | hx
      · exact hex _ _
      · exact ih (pos + 1) (pos + 1) (by omega) x hx
    · exact ih (pos + 1) beg (by omega) x hx

/-- The first place at which p holds; -1 if there is none. -/
def idxL {α : Type} (p : α → Bool) (zs : List α) : Int := if zs.findIdx p < zs.length then (zs.findIdx p : Int) else -1

theorem idxL_is {α : Type} {p : α → Bool} {zs : List α} {k : Nat} (h : k < zs.length) (hk : p zs[k] = true) (hb : ∀ j (hj : j < zs.length), j < k → p zs[j] = false) : idxL p zs = (k : Int) := by
  unfold idxL
  have e : zs.findIdx p = k := by
    rw [List.findIdx_eq h]
    exact ⟨hk, fun j hj => hb j (by omega) hj⟩
  rw [e, if_pos h]

theorem idxL_none {α : Type} {p : α → Bool} {zs : List α} (hb : ∀ j (hj : j < zs.length), p zs[j] = false) : idxL p zs = -1 := by
  unfold idxL
  have e : zs.findIdx p = zs.length := by
    rw [List.findIdx_eq_length]
    intro x hx
    obtain ⟨i, hi, rfl⟩ := List.mem_iff_getElem.1 hx
    exact hb i hi
  rw [e, if_neg (by omega)]

theorem idxL_any {α : Type} (p : α → Bool) (zs : List α) : decide (0 ≤ idxL p zs) = zs.any p := by
  unfold idxL
  by_cases h : zs.findIdx p < zs.length
  · rw [if_pos h]
    have := List.findIdx_lt_length.1 h
    simp
    obtain ⟨x, hx, hp⟩ := this
    exact ⟨x, hx, hp⟩
  · rw [if_neg h]
    have : ¬ ∃ x ∈ zs, p x = true := fun hx => h (List.findIdx_lt_length.2 hx)
    simp at this ⊢
    exact this

theorem idxL_bd {α : Type} (p : α → Bool) (zs : List α) : -1 ≤ idxL p zs ∧ idxL p zs ≤ zs.length := by
  unfold idxL
  split <;> omega

theorem three (p0 p1 p2 : Bool) : p0 = false ∨ (p0 = true ∧ p1 = false) ∨ (p0 = true ∧ p1 = true ∧ p2 = false) ∨ (p0 = true ∧ p1 = true ∧ p2 = true) := by
  cases p0 <;> cases p1 <;> cases p2 <;> simp

theorem RdI_of (w : World) (g c : Nat) (zs : List Int) (hl : zs.length ≤ 9223372036854775807) (hg : g < w.heap.size) (hc : ∀ k, (hk : k < zs.length) → w.cell? ⟨g, k, none⟩ = some (.int .i64 zs[k])) : RdI w (.slice (some ⟨g, 0, none⟩) zs.length c) zs :=
  ⟨hl, _, _, rfl, fun k hk => ⟨g, 0, rfl, hg, by rw [Nat.zero_add]; exact hc k hk⟩⟩

theorem rdI1 {w : World} {g c : Nat} {x : Int} (hg : g < w.heap.size) (h0 : w.cell? ⟨g, 0, none⟩ = some (.int .i64 x)) : RdI w (.slice (some ⟨g, 0, none⟩) 1 c) [x] :=
  RdI_of w g c [x] (by simp) hg (fun k hk => by simp at hk; subst hk; exact h0)

set_option maxRecDepth 100000 in
theorem indexFuncI_any (v : Value) (zs : List Int) (g : FuncId) (he : Enters Tryd.prog g) (cap : Array Value) (p : Int → Bool) (w : World) (h : RdI w v zs)
    (hf : ∀ k (hk : k < zs.length) w1, Below w.heap.size w w1 → Calls Tryd.prog g (#[.int .i64 zs[k]] ++ cap) w1 fun e w2 => e = .returned (.bool (p zs[k])) ∧ Below w1.heap.size w1 w2) :
    Calls Tryd.prog 263 #[v, .func (.func g) #[] cap] w fun e w' => e = .returned (.int .i64 (idxL p zs)) ∧ Below w.heap.size w w' := by
  obtain ⟨hl, A, c, rfl, r1⟩ := h
  have R := Lib.hid r1; clear r1
  have Hf := Lib.hid hf; clear hf
  have HIS := Lib.hid (fun k (h : k < zs.length) => @idxL_is _ p zs k h)
  have HNO := Lib.hid (@idxL_none _ p zs)
  generalize idxL p zs = G at *
  go_enter Tryd.func263, Tryd.ntmps263
  go_wp2_with fail
  go_loopw [8] (fun i wr => ∃ k : Nat, k ≤ zs.length ∧ i = .int .i64 k ∧ (∀ j (hj : j < zs.length), j < k → p zs[j] = false) ∧ Below w.heap.size w wr) (fun i _ => zs.length - (intOf i).toNat)
  case atStart => exact ⟨0, by omega, rfl, fun j _ h => by omega, Below.refl _ _⟩
  case round =>
    obtain ⟨k, hk, rfl, hall, hb⟩ := hrel
    by_cases hlt : k < zs.length
    · obtain ⟨b, off, rfl, hbl, hc0⟩ := R.out k hlt
      rw [← kept_cell hb b _ hbl] at hc0
      have hc := Hf.out k hlt wr hb
      cases hp : p zs[k]
      · have hnx : ∀ j (hj : j < zs.length), j < k + 1 → p zs[j] = false := fun j hj hjk => by
          rcases Nat.lt_or_ge j k with h1 | h1
          · exact hall j hj h1
          · obtain rfl : j = k := by omega
            exact hp
        rw [hp] at hc
        have HNX := Lib.hid hnx; clear hnx hall hp
        have Hc := Lib.hid hc; clear hc
        generalize zs[k] = x at *
        go_wp2_with fail
        rw [he, Oper.upon_enter]
        refine Hc.out.mono ?_
        rintro e w1 ⟨rfl, hb1⟩
        go_wp2
        go_roundw
        case rel => exact ⟨k + 1, by omega, by go_num, HNX.out, kept_trans hb hb1⟩
        case measure => simp [intOf]; omega
      · have hE := HIS.out k hlt hp hall
        subst hE
        rw [hp] at hc
        have Hc := Lib.hid hc; clear hc hall hp
        generalize zs[k] = x at *
        go_wp2_with fail
        rw [he, Oper.upon_enter]
        refine Hc.out.mono ?_
        rintro e w1 ⟨rfl, hb1⟩
        go_wp2
        go_ret
        exact ⟨rfl, kept_trans hb hb1⟩
    · have : k = zs.length := by omega
      subst this
      have hE := HNO.out (fun j hj => hall j hj hj)
      clear hall
      subst hE
      go_wp2
      go_ret
      exact ⟨rfl, hb⟩

theorem containsFuncI_any (v : Value) (zs : List Int) (g : FuncId) (he : Enters Tryd.prog g) (cap : Array Value) (p : Int → Bool) (w : World) (h : RdI w v zs)
    (hf : ∀ k (hk : k < zs.length) w1, Below w.heap.size w w1 → Calls Tryd.prog g (#[.int .i64 zs[k]] ++ cap) w1 fun e w2 => e = .returned (.bool (p zs[k])) ∧ Below w1.heap.size w1 w2) :
    Calls Tryd.prog 246 #[v, .func (.func g) #[] cap] w fun e w' => e = .returned (.bool (zs.any p)) ∧ Below w.heap.size w w' := by
  have H := Lib.hid (indexFuncI_any v zs g he cap p w h hf)
  obtain ⟨hl, A, c, rfl, r1⟩ := h
  clear hf r1
  have hbd := idxL_bd p zs
  rw [← idxL_any]
  generalize idxL p zs = G at *
  go_enter Tryd.func246, Tryd.ntmps246
  go_wp2_with fail
  refine H.out.mono ?_
  rintro e w1 ⟨rfl, hb1⟩
  go_wp2
  go_ret
  exact ⟨rfl, hb1⟩

theorem outside_any (n lo hi : Int) (b1 b2 : Nat) (w : World) (h1 : w.cell? ⟨b1, 0, none⟩ = some (.int .i64 lo)) (h2 : w.cell? ⟨b2, 0, none⟩ = some (.int .i64 hi)) :
    Calls Tryd.prog 247 #[.int .i64 n, .pointer (some ⟨b1, 0, none⟩), .pointer (some ⟨b2, 0, none⟩)] w fun e w' => e = .returned (.bool (!inB n lo hi)) ∧ Below w.heap.size w w' := by
  unfold inB
  by_cases g1 : lo ≤ n <;> by_cases g2 : n ≤ hi
  all_goals
    go_enter Tryd.func247, Tryd.ntmps247
    go_wp2
    go_ret
    exact ⟨by simp [*], Below.refl _ _⟩

theorem within_any (lo hi : Int) (v : Value) (zs : List Int) (w : World) (h : RdI w v zs) :
    Calls Tryd.prog 212 #[.int .i64 lo, .int .i64 hi, v] w fun e w' => e = .returned (.bool (zs.all fun n => inB n lo hi)) ∧ Below w.heap.size w w' := by
  have hall : (zs.all fun n => inB n lo hi) = !(zs.any fun n => !inB n lo hi) := by simp [List.any_eq_not_all_not]
  rw [hall]
  clear hall
  have HC := Lib.hid (fun u (q : RdI u v zs) b1 b2 (l1 : b1 < u.heap.size) (l2 : b2 < u.heap.size) (c1 : u.cell? ⟨b1, 0, none⟩ = some (.int .i64 lo)) (c2 : u.cell? ⟨b2, 0, none⟩ = some (.int .i64 hi)) =>
    containsFuncI_any v zs 247 (enters_of Tryd.func247 (by kernel_rfl) rfl) #[.pointer (some ⟨b1, 0, none⟩), .pointer (some ⟨b2, 0, none⟩)] (fun n => !inB n lo hi) u q
      (fun k hk w1 hb => outside_any zs[k] lo hi b1 b2 w1 (by rw [kept_cell hb b1 0 l1]; exact c1) (by rw [kept_cell hb b2 0 l2]; exact c2)))
  obtain ⟨hl, A, c, rfl, r1⟩ := h
  have H := Lib.hid (show RdI w (.slice A zs.length c) zs from ⟨hl, A, c, rfl, r1⟩); clear r1
  generalize (zs.any fun n => !inB n lo hi) = X at *
  have hmf : ∀ (fn : Fn) (first cap : Array Value) (w : World), (Instr.makeFunc fn first cap).run Tryd.prog w = .ok (.func fn first cap) w := fun _ _ _ _ => rfl
  go_enter Tryd.func212, Tryd.ntmps212
  go_wp2_with fail
  refine (HC.out _ (RdI_kept H.out (by go_grown)) w.heap.size (w.heap.size + 1) (by simp; try omega) (by simp) (by simp) (by simp)).mono ?_
  rintro e w1 ⟨rfl, hb1⟩
  have b1 := kept_trans (a := w) (by go_grown) hb1
  go_wp2
  go_ret
  exact ⟨rfl, b1⟩

theorem four (p0 p1 p2 p3 : Bool) : p0 = false ∨ (p0 = true ∧ p1 = false) ∨ (p0 = true ∧ p1 = true ∧ p2 = false) ∨ (p0 = true ∧ p1 = true ∧ p2 = true ∧ p3 = false) ∨ (p0 = true ∧ p1 = true ∧ p2 = true ∧ p3 = true) := by
  cases p0 <;> cases p1 <;> cases p2 <;> cases p3 <;> simp

/-- A world in which all that was there in W stands as it was. -/
structure BelowBy (W : World) where
  w : World
  h : Below W.heap.size W w
instance belowBy_some (W : World) : Inhabited (BelowBy W) := ⟨⟨W, Below.refl _ _⟩⟩

/-- A region that draws its order, whose operations only read and whose callees only make memory: walked once. -/
theorem wp_region_below {P : Program} {id : Nat} {Q : Exit → Act → World → Prop} {a : Act} {w : World} {l : List Oper} (hm : P.follows .mixedOrders = true) (hB : Region.lexB .any l.toArray = true)
    (h : wpQuiet P l.toArray (fun w' => ∃ p : BelowBy w, w' = p.w) (fun a' => ∀ w', (∃ p : BelowBy w, w' = p.w) → Q .normal a' w') l a) : (Code.region id l.toArray true).wp P Q a w :=
  wp_region_quiet (C := fun w' => ∃ p : BelowBy w, w' = p.w) hm hB ⟨⟨{ w with drawn := w.drawn + 1 }, ⟨rfl, rfl, rfl, Nat.le_refl _, fun _ _ => rfl⟩⟩, rfl⟩ (by simpa using h)

theorem below_call {P : Program} {f : FuncId} {args : Array Value} {W : World} {x : BelowBy W} {v : Value}
    (h : Below W.heap.size W x.w → Calls P f args x.w fun e w' => e = .returned v ∧ Below x.w.heap.size x.w w') : Calls P f args x.w fun e w'' => e = .returned v ∧ ∃ p : BelowBy W, w'' = p.w :=
  (h x.h).mono fun _ w' ⟨he, hb⟩ => ⟨he, ⟨w', kept_trans x.h hb⟩, rfl⟩

/-- The numbers of a sling (legs, span, rise, mass) are as asked. -/
def slB (g p r m : Int) : Bool := inB g 1 4 && inB p 0 400 && inB r 1 400 && inB m 0 1000 && (decide (1 < g) || decide (p = 0))

theorem slB_bd {g p r m : Int} (h : slB g p r m = true) : (1 ≤ g ∧ g ≤ 4) ∧ (0 ≤ p ∧ p ≤ 400) ∧ (1 ≤ r ∧ r ≤ 400) ∧ (0 ≤ m ∧ m ≤ 1000) := by
  simp only [slB, Bool.and_eq_true] at h
  obtain ⟨⟨⟨⟨h0, h1⟩, h2⟩, h3⟩, _⟩ := h
  exact ⟨inB_true h0, inB_true h1, inB_true h2, inB_true h3⟩

/-- The fields of a sling. -/
structure Sl where
  g : Int
  p : Int
  r : Int
  m : Int

def okSl (z : Sl) : Bool := slB z.g z.p z.r z.m

def slText (g p r m : Int) : List UInt8 := Lib.itoa g ++ 120 :: (Lib.itoa p ++ 47 :: (Lib.itoa r ++ 32 :: Lib.itoa m))

/-- The text of a sling. -/
def slTxL (g p r m : Int) : List UInt8 := if slB g p r m = true then slText g p r m else []

/-- The text of a sling's numbers. -/
def txSl (z : Sl) : List UInt8 := slText z.g z.p z.r z.m

theorem small_len (n : Nat) (h : n < 1001) : (Lib.decDigits n).length ≤ 4 := by
  have : ∀ k : Fin 1001, (Lib.decDigits k.1).length ≤ 4 := by decide +kernel
  exact this ⟨n, h⟩

/-- The decimal form of a small number. -/
theorem small_itoa {n : Int} (h : 0 ≤ n ∧ n ≤ 1000) : (Lib.itoa n).all digB = true ∧ 1 ≤ (Lib.itoa n).length ∧ (Lib.itoa n).length ≤ 4 ∧ readL (Lib.itoa n) = (n, true) := by
  obtain ⟨i1, i2, i3, i4⟩ := digits_ok n.toNat
  have e : Lib.itoa n = Lib.decDigits n.toNat := by unfold Lib.itoa; rw [if_neg (by omega)]
  have hl := small_len n.toNat (by omega)
  have ht : readT (Lib.itoa n) = Lib.itoa n := by rw [e]; simp [readT, i4]
  refine ⟨by rw [e]; exact i1, by rw [e]; exact i3, by rw [e]; exact hl, readL_yes rfl (by rw [ht, e]; omega)⟩

theorem free_itoa {n : Int} (h : 0 ≤ n ∧ n ≤ 1000) (c : UInt8) (hc : digB c = false) : c ∉ Lib.itoa n := fun hm => by
  have := List.all_eq_true.1 (small_itoa h).1 c hm
  rw [hc] at this
  cases this

theorem itoa_inj {n k : Int} (hn : 0 ≤ n ∧ n ≤ 1000) (hk : 0 ≤ k ∧ k ≤ 1000) (h : Lib.itoa n = Lib.itoa k) : n = k := by
  have h1 := (small_itoa hn).2.2.2
  rw [h, (small_itoa hk).2.2.2] at h1
  exact ((Prod.mk.inj h1).1).symm

theorem okSl_bd {z : Sl} (h : okSl z = true) : (0 ≤ z.g ∧ z.g ≤ 1000) ∧ (0 ≤ z.p ∧ z.p ≤ 1000) ∧ (0 ≤ z.r ∧ z.r ≤ 1000) ∧ (0 ≤ z.m ∧ z.m ≤ 1000) := by
  have := slB_bd h
  omega

theorem txSl_inj {y z : Sl} (hy : okSl y = true) (hz : okSl z = true) (h : txSl y = txSl z) : y = z := by
  obtain ⟨a1, a2, a3, a4⟩ := okSl_bd hy
  obtain ⟨b1, b2, b3, b4⟩ := okSl_bd hz
  obtain ⟨g, p, r, m⟩ := y
  obtain ⟨g', p', r', m'⟩ := z
  unfold txSl slText at h
  dsimp only at *
  obtain ⟨h1, h⟩ := head_uniq 120 _ _ _ _ (free_itoa a1 120 rfl) (free_itoa b1 120 rfl) (Or.inr ⟨_, rfl⟩) (Or.inr ⟨_, rfl⟩) h
  obtain ⟨h2, h⟩ := head_uniq 47 _ _ _ _ (free_itoa a2 47 rfl) (free_itoa b2 47 rfl) (Or.inr ⟨_, rfl⟩) (Or.inr ⟨_, rfl⟩) (List.cons.inj h).2
  obtain ⟨h3, h⟩ := head_uniq 32 _ _ _ _ (free_itoa a3 32 rfl) (free_itoa b3 32 rfl) (Or.inr ⟨_, rfl⟩) (Or.inr ⟨_, rfl⟩) (List.cons.inj h).2
  have h4 := (List.cons.inj h).2
  rw [itoa_inj a1 b1 h1, itoa_inj a2 b2 h2, itoa_inj a3 b3 h3, itoa_inj a4 b4 h4]

open Classical in
/-- The sling with a text, and whether there is one. -/
noncomputable def readSl (l : List UInt8) : Sl × Bool := if h : ∃ z : Sl, okSl z = true ∧ txSl z = l then (Classical.choose h, true) else (⟨0, 0, 0, 0⟩, false)

theorem readSl_yes {z : Sl} (h : okSl z = true) : readSl (txSl z) = (z, true) := by
  have hex : ∃ y : Sl, okSl y = true ∧ txSl y = txSl z := ⟨z, h, rfl⟩
  unfold readSl
  rw [dif_pos hex]
  obtain ⟨h1, h2⟩ := Classical.choose_spec hex
  rw [txSl_inj h1 h h2]

theorem readSl_no {l : List UInt8} (h : ¬ ∃ z : Sl, okSl z = true ∧ txSl z = l) : readSl l = (⟨0, 0, 0, 0⟩, false) := by
  unfold readSl
  rw [dif_neg h]

theorem ba_of (x : ByteArray) : x = ⟨x.data.toList.toArray⟩ := by simp

theorem restW_two (x y : List UInt8) (c : UInt8) (hx : c ∉ x) (hy : c ∉ y) : restW ⟨(x ++ c :: y).toArray⟩ c 0 0 = [⟨x.toArray⟩, ⟨y.toArray⟩] := by
  have hj := restW_join ⟨(x ++ c :: y).toArray⟩ c _ 0 0 rfl (Nat.le_refl _) (Nat.zero_le _)
  have hn := restW_ne ⟨(x ++ c :: y).toArray⟩ c _ 0 0 rfl
  have hf := restW_free ⟨(x ++ c :: y).toArray⟩ c _ 0 0 rfl (Nat.le_refl _) (Nat.zero_le _) (fun j _ h => by omega)
  generalize restW ⟨(x ++ c :: y).toArray⟩ c 0 0 = R at *
  have e : Lib.join [x, y] [c] = x ++ c :: y := by rw [join2, Lib.join_one]
  have h := split_uniq c (R.map fun x => x.data.toList) [x, y] (by simpa using hn) (by simp) (fun a ha => by
    obtain ⟨b, hb, rfl⟩ := List.mem_map.1 ha
    exact hf b hb) (by simp [hx, hy]) (by rw [hj, e]; simp)
  match R, h with
  | [a, b], h =>
    simp only [List.map_cons, List.map_nil, List.cons.injEq, and_true] at h
    rw [ba_of a, ba_of b, h.1, h.2]

theorem restW_of {s a b : ByteArray} {c : UInt8} (h : restW s c 0 0 = [a, b]) : s.data.toList = a.data.toList ++ c :: b.data.toList := by
  have hj := restW_join s c _ 0 0 rfl (Nat.le_refl _) (Nat.zero_le _)
  rw [h] at hj
  simp only [List.map_cons, List.map_nil, join2, Lib.join_one, List.drop_zero] at hj
  exact hj.symm

/-- The pieces of a sling's text. -/
theorem slParts {z : Sl} (h : okSl z = true) {s : ByteArray} (hs : txSl z = s.data.toList) : ∃ a d : ByteArray,
    restW s 32 0 0 = [a, ⟨(Lib.itoa z.m).toArray⟩] ∧ restW a 120 0 0 = [⟨(Lib.itoa z.g).toArray⟩, d] ∧ restW d 47 0 0 = [⟨(Lib.itoa z.p).toArray⟩, ⟨(Lib.itoa z.r).toArray⟩] := by
  obtain ⟨a1, a2, a3, a4⟩ := okSl_bd h
  have hf := fun c (hc : digB c = false) => And.intro (free_itoa a1 c hc) (And.intro (free_itoa a2 c hc) (And.intro (free_itoa a3 c hc) (free_itoa a4 c hc)))
  have f1 := hf 32 rfl
  have f2 := hf 120 rfl
  have f3 := hf 47 rfl
  refine ⟨⟨(Lib.itoa z.g ++ 120 :: (Lib.itoa z.p ++ 47 :: Lib.itoa z.r)).toArray⟩, ⟨(Lib.itoa z.p ++ 47 :: Lib.itoa z.r).toArray⟩, ?_, ?_, ?_⟩
  · rw [ba_of s, ← hs, show txSl z = (Lib.itoa z.g ++ 120 :: (Lib.itoa z.p ++ 47 :: Lib.itoa z.r)) ++ 32 :: Lib.itoa z.m by simp [txSl, slText]]
    refine restW_two _ _ 32 ?_ f1.2.2.2
    simp [f1]
  · refine restW_two _ _ 120 f2.1 ?_
    simp [f2]
  · exact restW_two _ _ 47 f3.2.1 f3.2.2.1

/-- What is told by the pieces is the sling with the text. -/
theorem slBack {s a b c d x y : ByteArray} (h1 : restW s 32 0 0 = [a, b]) (h2 : restW a 120 0 0 = [c, d]) (h3 : restW d 47 0 0 = [x, y])
    (k1 : (readL c.data.toList).2 = true) (k2 : (readL x.data.toList).2 = true) (k3 : (readL y.data.toList).2 = true) (k4 : (readL b.data.toList).2 = true) :
    txSl ⟨(readL c.data.toList).1, (readL x.data.toList).1, (readL y.data.toList).1, (readL b.data.toList).1⟩ = s.data.toList := by
  rw [restW_of h1, restW_of h2, restW_of h3]
  simp only [txSl, slText, readL_back k1, readL_back k2, readL_back k3, readL_back k4]
  simp

/-- What stands between the numbers of a sling. -/
def sepP (x : Nat) : Bool := decide (x = 120) || decide (x = 47) || decide (x = 32)

theorem dec_asc (s : ByteArray) (pos : Nat) (x : UInt8) (h : s.data.toList[pos]? = some x) (hx : x.toNat < 128) : pos < s.size ∧ Utf8.decode s pos = (x.toNat, 1) := by
  have hl : s.data.toList.length = s.size := Array.length_toList
  obtain ⟨h1, h2⟩ := List.getElem?_eq_some_iff.1 h
  refine ⟨by omega, ?_⟩
  have e : s.data.toList.getD pos 0 = x := by simp [List.getD, h]
  rw [Lib.decode_N, e]
  exact Lib.decodeN_ascii _ _ _ _ _ hx

/-- Bytes that belong to a piece. -/
theorem span_run (P : Nat → Bool) (s : ByteArray) (beg : Nat) (acc : List (Nat × Nat)) (f : Nat) : ∀ (x : List UInt8) (pos : Nat), (∀ j, (hj : j < x.length) → s.data.toList[pos + j]? = some x[j]) → (∀ c ∈ x, c.toNat < 128 ∧ P c.toNat = false) →
    Lib.spansFromP P s (x.length + f) pos (some beg) acc = Lib.spansFromP P s f (pos + x.length) (some beg) acc := by
  intro x
  induction x with
  | nil => intro pos _ _; simp
  | cons c x ih =>
    intro pos h1 h2
    obtain ⟨hp, hd⟩ := dec_asc s pos c (by have := h1 0 (by simp); simp only [Nat.add_zero, List.getElem_cons_zero] at this; exact this) (h2 c (by simp)).1
    rw [show (c :: x).length + f = (x.length + f) + 1 by simp; omega, Lib.spansFromP.eq_def]
    simp only [hp, if_true, hd, (h2 c (by simp)).2, Bool.false_eq_true, if_false]
    rw [ih (pos + 1) (fun j hj => by have := h1 (j + 1) (by simp; omega); rw [show pos + 1 + j = pos + (j + 1) by omega, this]; simp) (fun d hd => h2 d (List.mem_cons_of_mem _ hd))]
    congr 1
    simp; omega

theorem span_first (P : Nat → Bool) (s : ByteArray) (acc : List (Nat × Nat)) (f : Nat) (x : List UInt8) (pos : Nat) (h0 : x ≠ []) (h1 : ∀ j, (hj : j < x.length) → s.data.toList[pos + j]? = some x[j]) (h2 : ∀ c ∈ x, c.toNat < 128 ∧ P c.toNat = false) :
    Lib.spansFromP P s (x.length + f) pos none acc = Lib.spansFromP P s f (pos + x.length) (some pos) acc := by
  cases x with
  | nil => exact absurd rfl h0
  | cons c x =>
    obtain ⟨hp, hd⟩ := dec_asc s pos c (by have := h1 0 (by simp); simp only [Nat.add_zero, List.getElem_cons_zero] at this; exact this) (h2 c (by simp)).1
    rw [show (c :: x).length + f = (x.length + f) + 1 by simp; omega, Lib.spansFromP.eq_def]
    simp only [hp, if_true, hd, (h2 c (by simp)).2, Bool.false_eq_true, if_false]
    rw [span_run P s pos acc f x (pos + 1) (fun j hj => by have := h1 (j + 1) (by simp; omega); rw [show pos + 1 + j = pos + (j + 1) by omega, this]; simp) (fun d hd => h2 d (List.mem_cons_of_mem _ hd))]
    congr 1
    simp; omega

theorem span_sep (P : Nat → Bool) (s : ByteArray) (acc : List (Nat × Nat)) (f pos beg : Nat) (c : UInt8) (h : s.data.toList[pos]? = some c) (hc : c.toNat < 128) (hP : P c.toNat = true) :
    Lib.spansFromP P s (f + 1) pos (some beg) acc = Lib.spansFromP P s f (pos + 1) none (acc ++ [(beg, pos)]) := by
  obtain ⟨hp, hd⟩ := dec_asc s pos c h hc
  rw [Lib.spansFromP.eq_def]
  simp only [hp, if_true, hd, hP]

theorem app_at {s : ByteArray} {a x b : List UInt8} (h : s.data.toList = a ++ (x ++ b)) (n : Nat) (hn : a.length = n) : ∀ j, (hj : j < x.length) → s.data.toList[n + j]? = some x[j] := fun j hj => by
  subst hn
  rw [h, List.getElem?_append_right (by omega), show a.length + j - a.length = j by omega, List.getElem?_append_left hj]
  simp

theorem app_one {s : ByteArray} {a b : List UInt8} {c : UInt8} (h : s.data.toList = a ++ (c :: b)) (n : Nat) (hn : a.length = n) : s.data.toList[n]? = some c := by
  subst hn
  rw [h, List.getElem?_append_right (by omega)]
  simp

theorem ext_mid {s : ByteArray} {a x b : List UInt8} (h : s.data.toList = a ++ (x ++ b)) (m n : Nat) (hm : a.length = m) (hn : m + x.length = n) : s.extract m n = ⟨x.toArray⟩ := by
  subst hm
  subst hn
  rw [ba_of (s.extract a.length (a.length + x.length)), Lib.extract_eq]
  simp only []
  rw [h]
  simp

/-- Four words with single separators between them. -/
theorem fields_four (P : Nat → Bool) (s : ByteArray) (x1 x2 x3 x4 : List UInt8) (c1 c2 c3 : UInt8) (hs : s.data.toList = x1 ++ c1 :: (x2 ++ c2 :: (x3 ++ c3 :: x4)))
    (n1 : x1 ≠ []) (n2 : x2 ≠ []) (n3 : x3 ≠ []) (n4 : x4 ≠ []) (g1 : ∀ c ∈ x1, c.toNat < 128 ∧ P c.toNat = false) (g2 : ∀ c ∈ x2, c.toNat < 128 ∧ P c.toNat = false) (g3 : ∀ c ∈ x3, c.toNat < 128 ∧ P c.toNat = false) (g4 : ∀ c ∈ x4, c.toNat < 128 ∧ P c.toNat = false)
    (e1 : c1.toNat < 128 ∧ P c1.toNat = true) (e2 : c2.toNat < 128 ∧ P c2.toNat = true) (e3 : c3.toNat < 128 ∧ P c3.toNat = true) :
    Lib.goFieldsP P s = [⟨x1.toArray⟩, ⟨x2.toArray⟩, ⟨x3.toArray⟩, ⟨x4.toArray⟩] := by
  have hl : s.data.toList.length = s.size := Array.length_toList
  have q1 : s.data.toList = [] ++ (x1 ++ c1 :: (x2 ++ c2 :: (x3 ++ c3 :: x4))) := by simpa using hs
  have q1' : s.data.toList = x1 ++ (c1 :: (x2 ++ c2 :: (x3 ++ c3 :: x4))) := by simpa using hs
  have q2 : s.data.toList = (x1 ++ [c1]) ++ (x2 ++ c2 :: (x3 ++ c3 :: x4)) := by simpa using hs
  have q2' : s.data.toList = (x1 ++ [c1] ++ x2) ++ (c2 :: (x3 ++ c3 :: x4)) := by simpa using hs
  have q3 : s.data.toList = (x1 ++ [c1] ++ x2 ++ [c2]) ++ (x3 ++ c3 :: x4) := by simpa using hs
  have q3' : s.data.toList = (x1 ++ [c1] ++ x2 ++ [c2] ++ x3) ++ (c3 :: x4) := by simpa using hs
  have q4 : s.data.toList = (x1 ++ [c1] ++ x2 ++ [c2] ++ x3 ++ [c3]) ++ (x4 ++ []) := by simpa using hs
  obtain ⟨p1, hp1⟩ : ∃ p, x1.length + 1 = p := ⟨_, rfl⟩
  obtain ⟨p2, hp2⟩ : ∃ p, p1 + x2.length + 1 = p := ⟨_, rfl⟩
  obtain ⟨p3, hp3⟩ : ∃ p, p2 + x3.length + 1 = p := ⟨_, rfl⟩
  have hsz : s.size = p3 + x4.length := by
    rw [← hl, hs]; simp; omega
  have r1 := fun f => span_first P s [] f x1 0 n1 (app_at q1 0 rfl) g1
  have t1 := fun f => span_sep P s [] f x1.length 0 c1 (app_one q1' _ rfl) e1.1 e1.2
  have r2 := fun f acc => span_first P s acc f x2 p1 n2 (app_at q2 p1 (by simp; omega)) g2
  have t2 := fun f acc => span_sep P s acc f (p1 + x2.length) p1 c2 (app_one q2' _ (by simp; omega)) e2.1 e2.2
  have r3 := fun f acc => span_first P s acc f x3 p2 n3 (app_at q3 p2 (by simp; omega)) g3
  have t3 := fun f acc => span_sep P s acc f (p2 + x3.length) p2 c3 (app_one q3' _ (by simp; omega)) e3.1 e3.2
  have r4 := fun acc => span_first P s acc 0 x4 p3 n4 (app_at q4 p3 (by simp; omega)) g4
  simp only [Nat.add_zero] at r4
  unfold Lib.goFieldsP Lib.spansOfP
  rw [show s.size = x1.length + ((x2.length + ((x3.length + (x4.length + 1)) + 1)) + 1) by omega, r1, Nat.zero_add, t1, hp1, r2, t2, hp2, r3, t3, hp3, r4, Lib.spansFromP_end _ _ _ _ _ _ (by omega)]
  have m1 := ext_mid q1 0 x1.length rfl (by omega)
  have m2 := ext_mid q2 p1 (p1 + x2.length) (by simp; omega) rfl
  have m3 := ext_mid q3 p2 (p2 + x3.length) (by simp; omega) rfl
  have m4 := ext_mid q4 p3 s.size (by simp; omega) (by omega)
  simp only [Lib.closeSpans, List.map_append, List.map_cons, List.map_nil, List.cons_append, List.nil_append, m1, m2, m3, m4]

theorem slFields {z : Sl} (h : okSl z = true) {s : ByteArray} (hs : txSl z = s.data.toList) :
    Lib.goFieldsP sepP s = [⟨(Lib.itoa z.g).toArray⟩, ⟨(Lib.itoa z.p).toArray⟩, ⟨(Lib.itoa z.r).toArray⟩, ⟨(Lib.itoa z.m).toArray⟩] := by
  obtain ⟨a1, a2, a3, a4⟩ := okSl_bd h
  have hne : ∀ {n : Int}, 0 ≤ n ∧ n ≤ 1000 → Lib.itoa n ≠ [] := fun {n} hn e => by have := (small_itoa hn).2.1; rw [e] at this; simp at this
  have hg : ∀ {n : Int}, 0 ≤ n ∧ n ≤ 1000 → ∀ c ∈ Lib.itoa n, c.toNat < 128 ∧ sepP c.toNat = false := fun {n} hn c hc => by
    have := List.all_eq_true.1 (small_itoa hn).1 c hc
    simp [digB] at this
    simp [sepP]
    omega
  exact fields_four sepP s _ _ _ _ 120 47 32 hs.symm (hne a1) (hne a2) (hne a3) (hne a4) (hg a1) (hg a2) (hg a3) (hg a4) ⟨by decide, rfl⟩ ⟨by decide, rfl⟩ ⟨by decide, rfl⟩

theorem fields_sz (P : Nat → Bool) (s : ByteArray) : ∀ x ∈ Lib.goFieldsP P s, x.size ≤ s.size := fun x hx => by
  unfold Lib.goFieldsP at hx
  obtain ⟨y, _, rfl⟩ := List.mem_map.1 hx
  simp
  omega

theorem fields_none (P : Nat → Bool) (s : ByteArray) (h : s.size = 0) : Lib.goFieldsP P s = [] := by
  unfold Lib.goFieldsP Lib.spansOfP
  rw [h]
  rfl

/-- A sling at a place of a block. -/
def SlAt (w : World) (b o : Nat) (z : Sl) : Prop :=
  b < w.heap.size ∧ w.cell? ⟨b, o, none⟩ = some (.int .i64 z.g) ∧ w.cell? ⟨b, o + 1, none⟩ = some (.int .i64 z.p) ∧ w.cell? ⟨b, o + 2, none⟩ = some (.int .i64 z.r) ∧ w.cell? ⟨b, o + 3, none⟩ = some (.int .i64 z.m)

theorem eqSl_same (g p r m : Int) (w : World) :
    Calls Tryd.prog 13 #[.agg #[.int .i64 g, .int .i64 p, .int .i64 r, .int .i64 m], .agg #[.int .i64 g, .int .i64 p, .int .i64 r, .int .i64 m]] w fun e w' => e = .returned (.bool true) ∧ Below w.heap.size w w' := by
  go_enter Tryd.func13, Tryd.ntmps13
  go_wp2
  go_ret
  exact ⟨rfl, by go_grown⟩

/-- A sling that fills a block. -/
def SlBox (w : World) (b : Nat) (g p r m : Int) : Prop := w.heap[b]? = some (.cells #[.int .i64 g, .int .i64 p, .int .i64 r, .int .i64 m] 23 (0, 0))

theorem SlBox_at {w : World} {b : Nat} {g p r m : Int} (h : SlBox w b g p r m) : SlAt w b 0 ⟨g, p, r, m⟩ := by
  have h0 : w.cell? ⟨b, 0, none⟩ = some (.int .i64 g) := by rw [cell_of_row w b 0 _ _ _ h]; rfl
  exact ⟨World.block_lt_of_cell? _ _ h0, h0, by rw [cell_of_row w b 1 _ _ _ h]; rfl, by rw [cell_of_row w b 2 _ _ _ h]; rfl, by rw [cell_of_row w b 3 _ _ _ h]; rfl⟩

theorem SlBox_new (g p r m : Int) (w : World) : SlBox (w.alloc (.cells #[.int .i64 g, .int .i64 p, .int .i64 r, .int .i64 m] 23)) w.heap.size g p r m := heap_alloc_new w _

theorem SlBox_lt {w : World} {b : Nat} {g p r m : Int} (h : SlBox w b g p r m) : b < w.heap.size := (SlBox_at h).1

theorem SlBox_kept {W w1 : World} {b : Nat} {g p r m : Int} (h : SlBox W b g p r m) (hb : Below W.heap.size W w1) : SlBox w1 b g p r m := by
  unfold SlBox
  rw [hb.block b (SlBox_lt h)]
  exact h

theorem SlBox_frozen {w : World} {b : Nat} {g p r m : Int} (h : SlBox w b g p r m) (o : Nat) : w.frozen? ⟨b, o, none⟩ = false := frozen_of_row w b o _ _ h

theorem SlBox_facts {w : World} {b : Nat} {g p r m : Int} (h : SlBox w b g p r m) : (w.cell? ⟨b, 0, none⟩ = some (.int .i64 g) ∧ w.cell? ⟨b, 1, none⟩ = some (.int .i64 p) ∧ w.cell? ⟨b, 2, none⟩ = some (.int .i64 r) ∧ w.cell? ⟨b, 3, none⟩ = some (.int .i64 m)) ∧ ∀ o, w.frozen? ⟨b, o, none⟩ = false := by
  obtain ⟨_, h0, h1, h2, h3⟩ := SlBox_at h
  exact ⟨⟨h0, h1, h2, h3⟩, SlBox_frozen h⟩

/-- A sling that fills a block. -/
def BxA (w : World) (b : Nat) (g p r m : Int) : Prop := w.heap[b]? = some (.cells #[.int .i64 g, .int .i64 p, .int .i64 r, .int .i64 m] 115 (0, 0))

theorem BxA_at {w : World} {b : Nat} {g p r m : Int} (h : BxA w b g p r m) : SlAt w b 0 ⟨g, p, r, m⟩ := by
  have h0 : w.cell? ⟨b, 0, none⟩ = some (.int .i64 g) := by rw [cell_of_row w b 0 _ _ _ h]; rfl
  exact ⟨World.block_lt_of_cell? _ _ h0, h0, by rw [cell_of_row w b 1 _ _ _ h]; rfl, by rw [cell_of_row w b 2 _ _ _ h]; rfl, by rw [cell_of_row w b 3 _ _ _ h]; rfl⟩

theorem BxA_new (g p r m : Int) (w : World) : BxA (w.alloc (.cells #[.int .i64 g, .int .i64 p, .int .i64 r, .int .i64 m] 115)) w.heap.size g p r m := heap_alloc_new w _

theorem BxA_lt {w : World} {b : Nat} {g p r m : Int} (h : BxA w b g p r m) : b < w.heap.size := (BxA_at h).1

theorem BxA_kept {W w1 : World} {b : Nat} {g p r m : Int} (h : BxA W b g p r m) (hb : Below W.heap.size W w1) : BxA w1 b g p r m := by
  unfold BxA
  rw [hb.block b (BxA_lt h)]
  exact h

theorem BxA_frozen {w : World} {b : Nat} {g p r m : Int} (h : BxA w b g p r m) (o : Nat) : w.frozen? ⟨b, o, none⟩ = false := frozen_of_row w b o _ _ h

/-- One number of a sling is stored. -/
theorem BxA_put {w : World} {b : Nat} {g p r m : Int} (h : BxA w b g p r m) (v : Int) : BxA (w.setCell ⟨b, 0, none⟩ (.int .i64 v)) b v p r m ∧ BxA (w.setCell ⟨b, 1, none⟩ (.int .i64 v)) b g v r m ∧ BxA (w.setCell ⟨b, 2, none⟩ (.int .i64 v)) b g p v m ∧ BxA (w.setCell ⟨b, 3, none⟩ (.int .i64 v)) b g p r v :=
  ⟨heap_setCell_same w b 0 _ _ _ h, heap_setCell_same w b 1 _ _ _ h, heap_setCell_same w b 2 _ _ _ h, heap_setCell_same w b 3 _ _ _ h⟩

theorem BxA_facts {w : World} {b : Nat} {g p r m : Int} (h : BxA w b g p r m) : (w.cell? ⟨b, 0, none⟩ = some (.int .i64 g) ∧ w.cell? ⟨b, 1, none⟩ = some (.int .i64 p) ∧ w.cell? ⟨b, 2, none⟩ = some (.int .i64 r) ∧ w.cell? ⟨b, 3, none⟩ = some (.int .i64 m)) ∧ ∀ o, w.frozen? ⟨b, o, none⟩ = false := by
  obtain ⟨_, h0, h1, h2, h3⟩ := BxA_at h
  exact ⟨⟨h0, h1, h2, h3⟩, BxA_frozen h⟩

theorem specSlOk_any (b o : Nat) (z : Sl) (w : World) (h : SlAt w b o z) :
    Calls Tryd.prog 71 #[.pointer (some ⟨b, o, none⟩)] w fun e w' => e = .returned (.bool (okSl z)) ∧ w = w' := by
  obtain ⟨g, p, r, m⟩ := z
  obtain ⟨_, h0, h1, h2, h3⟩ := h
  unfold okSl slB
  dsimp only at *
  rcases four (inB g 1 4) (inB p 0 400) (inB r 1 400) (inB m 0 1000) with e | ⟨e0, e⟩ | ⟨e0, e1, e⟩ | ⟨e0, e1, e2, e⟩ | ⟨e0, e1, e2, e⟩
  case inr.inr.inr.inr =>
    by_cases hg : 1 < g
    · go_enter Tryd.func71, Tryd.ntmps71
      go_wp2_with (go_at_call 158; refine (in_any _ _ _ _).mono ?_; rintro e w1 ⟨rfl, rfl⟩)
      go_ret
      exact ⟨by simp [*], rfl⟩
    · by_cases hp : p = 0
      · go_enter Tryd.func71, Tryd.ntmps71
        go_wp2_with (go_at_call 158; refine (in_any _ _ _ _).mono ?_; rintro e w1 ⟨rfl, rfl⟩)
        go_ret
        exact ⟨by simp [*], rfl⟩
      · have hp1 : (p == 0) = false := by simpa using hp
        go_enter Tryd.func71, Tryd.ntmps71
        go_wp2_with (go_at_call 158; refine (in_any _ _ _ _).mono ?_; rintro e w1 ⟨rfl, rfl⟩)
        go_ret
        exact ⟨by simp [*], rfl⟩
  all_goals
    go_enter Tryd.func71, Tryd.ntmps71
    go_wp2_with (go_at_call 158; refine (in_any _ _ _ _).mono ?_; rintro e w1 ⟨rfl, rfl⟩)
    go_ret
    exact ⟨by simp [*], rfl⟩

theorem SlAt_new (g p r m : Int) (w : World) : SlAt (w.alloc (.cells #[.int .i64 g, .int .i64 p, .int .i64 r, .int .i64 m] 23)) w.heap.size 0 ⟨g, p, r, m⟩ := ⟨by simp, by simp, by simp, by simp, by simp⟩

set_option maxHeartbeats 1000000 in
theorem implSlV_any (g p r m : Int) (w : World) :
    Calls Tryd.prog 161 #[.agg #[.int .i64 g, .int .i64 p, .int .i64 r, .int .i64 m]] w fun e w' => e = .returned (.bool (slB g p r m)) ∧ Below w.heap.size w w' := by
  have e1 : slB g p r m = ([g].all (fun n => inB n 1 4) && [p].all (fun n => inB n 0 400) && (decide (1 < g) || decide (p = 0)) && [r].all (fun n => inB n 1 400) && [m].all (fun n => inB n 0 1000)) := by
    simp only [slB, List.all_cons, List.all_nil, Bool.and_true]
    cases inB g 1 4 <;> cases inB p 0 400 <;> cases inB r 1 400 <;> cases inB m 0 1000 <;> simp
  rw [e1]; clear e1
  have H0 := fun v u q => within_any 1 4 v [g] u q
  have H1 := fun v u q => within_any 0 400 v [p] u q
  have H2 := fun v u q => within_any 1 400 v [r] u q
  have H3 := fun v u q => within_any 0 1000 v [m] u q
  generalize [g].all (fun n => inB n 1 4) = p0 at *
  generalize [p].all (fun n => inB n 0 400) = p1 at *
  generalize [r].all (fun n => inB n 1 400) = p2 at *
  generalize [m].all (fun n => inB n 0 1000) = p3 at *
  cases p0
  case false =>
    have H0 := Lib.hid H0
    go_enter Tryd.func161, Tryd.ntmps161
    go_wp2_with fail
    refine (H0.out _ _ (rdI1 (by go_size) (by go_simp))).mono ?_
    rintro e w1 ⟨rfl, hb1⟩
    have b1 := kept_trans (a := w) (by go_grown) hb1
    go_wp2
    go_ret
    exact ⟨rfl, b1⟩
  cases p1
  case false =>
    have H0 := Lib.hid H0
    have H1 := Lib.hid H1
    go_enter Tryd.func161, Tryd.ntmps161
    go_wp2_with fail
    refine (H0.out _ _ (rdI1 (by go_size) (by go_simp))).mono ?_
    rintro e w1 ⟨rfl, hb1⟩
    refine kept_at hb1 w.heap.size (by go_size) fun c1_0 z1_0 s1_0 => ?_
    have b1 := kept_trans (a := w) (by go_grown) hb1
    go_wp2_with fail
    refine (H1.out _ _ (rdI1 (by go_size) (by go_simp))).mono ?_
    rintro e w2 ⟨rfl, hb2⟩
    have b2 := kept_trans (a := w) (by go_grown) hb2
    go_wp2
    go_ret
    exact ⟨rfl, b2⟩
  by_cases hc : 1 < g ∨ p = 0
  case neg =>
    have d0 : decide (1 < g) = false := by simp; omega
    have d1 : (p == 0) = false := by simp; omega
    have d2 : (decide (1 < g) || decide (p = 0)) = false := by simp; omega
    have d3 : ¬ 1 < g := by omega
    have d4 : ¬ p = 0 := by omega
    rw [d2]
    clear hc d2
    have H0 := Lib.hid H0
    have H1 := Lib.hid H1
    go_enter Tryd.func161, Tryd.ntmps161
    go_wp2_with fail
    refine (H0.out _ _ (rdI1 (by go_size) (by go_simp))).mono ?_
    rintro e w1 ⟨rfl, hb1⟩
    refine kept_at hb1 w.heap.size (by go_size) fun c1_0 z1_0 s1_0 => ?_
    have b1 := kept_trans (a := w) (by go_grown) hb1
    go_wp2_with fail
    refine (H1.out _ _ (rdI1 (by go_size) (by go_simp))).mono ?_
    rintro e w2 ⟨rfl, hb2⟩
    refine kept_at hb2 w.heap.size (by go_size) fun c2_0 z2_0 s2_0 => ?_
    have b2 := kept_trans (a := w) (by go_grown) hb2
    go_wp2
    go_ret
    exact ⟨by simp, b2⟩
  have d2 : (decide (1 < g) || decide (p = 0)) = true := by simp; omega
  rw [d2]
  clear d2
  have hc2 : (1 < g) ∨ (¬ 1 < g ∧ p = 0) := by omega
  clear hc
  cases p2
  case false =>
    rcases hc2 with hg | ⟨hg, hp⟩
    all_goals
      (try subst hp)
      have H0 := Lib.hid H0
      have H1 := Lib.hid H1
      have H2 := Lib.hid H2
      go_enter Tryd.func161, Tryd.ntmps161
      go_wp2_with fail
      refine (H0.out _ _ (rdI1 (by go_size) (by go_simp))).mono ?_
      rintro e w1 ⟨rfl, hb1⟩
      refine kept_at hb1 w.heap.size (by go_size) fun c1_0 z1_0 s1_0 => ?_
      have b1 := kept_trans (a := w) (by go_grown) hb1
      go_wp2_with fail
      refine (H1.out _ _ (rdI1 (by go_size) (by go_simp))).mono ?_
      rintro e w2 ⟨rfl, hb2⟩
      refine kept_at hb2 w.heap.size (by go_size) fun c2_0 z2_0 s2_0 => ?_
      have b2 := kept_trans (a := w) (by go_grown) hb2
      go_wp2_with fail
      refine (H2.out _ _ (rdI1 (by go_size) (by go_simp))).mono ?_
      rintro e w3 ⟨rfl, hb3⟩
      have b3 := kept_trans (a := w) (by go_grown) hb3
      go_wp2
      go_ret
      exact ⟨by simp, b3⟩
  case true =>
    rcases hc2 with hg | ⟨hg, hp⟩
    all_goals
      (try subst hp)
      have H0 := Lib.hid H0
      have H1 := Lib.hid H1
      have H2 := Lib.hid H2
      have H3 := Lib.hid H3
      go_enter Tryd.func161, Tryd.ntmps161
      go_wp2_with fail
      refine (H0.out _ _ (rdI1 (by go_size) (by go_simp))).mono ?_
      rintro e w1 ⟨rfl, hb1⟩
      refine kept_at hb1 w.heap.size (by go_size) fun c1_0 z1_0 s1_0 => ?_
      have b1 := kept_trans (a := w) (by go_grown) hb1
      go_wp2_with fail
      refine (H1.out _ _ (rdI1 (by go_size) (by go_simp))).mono ?_
      rintro e w2 ⟨rfl, hb2⟩
      refine kept_at hb2 w.heap.size (by go_size) fun c2_0 z2_0 s2_0 => ?_
      have b2 := kept_trans (a := w) (by go_grown) hb2
      go_wp2_with fail
      refine (H2.out _ _ (rdI1 (by go_size) (by go_simp))).mono ?_
      rintro e w3 ⟨rfl, hb3⟩
      refine kept_at hb3 w.heap.size (by go_size) fun c3_0 z3_0 s3_0 => ?_
      have b3 := kept_trans (a := w) (by go_grown) hb3
      go_wp2_with fail
      refine (H3.out _ _ (rdI1 (by go_size) (by go_simp))).mono ?_
      rintro e w4 ⟨rfl, hb4⟩
      have b4 := kept_trans (a := w) (by go_grown) hb4
      go_wp2
      go_ret
      exact ⟨by simp, b4⟩

theorem catSl (a b c d : List UInt8) : ByteArray.mk a.toArray ++ ByteArray.mk #[120] ++ ByteArray.mk b.toArray ++ ByteArray.mk #[47] ++ ByteArray.mk c.toArray ++ ByteArray.mk #[32] ++ ByteArray.mk d.toArray = ByteArray.mk (a ++ 120 :: (b ++ 47 :: (c ++ 32 :: d))).toArray := by
  rw [show ByteArray.mk #[120] = ByteArray.mk ([120] : List UInt8).toArray from rfl, show ByteArray.mk #[47] = ByteArray.mk ([47] : List UInt8).toArray from rfl, show ByteArray.mk #[32] = ByteArray.mk ([32] : List UInt8).toArray from rfl, ByteArray.mk_append_mk, ByteArray.mk_append_mk, ByteArray.mk_append_mk, ByteArray.mk_append_mk, ByteArray.mk_append_mk, ByteArray.mk_append_mk]
  simp

theorem implST_any (g p r m : Int) (w : World) (ht : PowTab w) :
    Calls Tryd.prog 76 #[.agg #[.int .i64 g, .int .i64 p, .int .i64 r, .int .i64 m]] w fun e w' => e = .returned (.string ⟨(slTxL g p r m).toArray⟩) ∧ Below w.heap.size w w' := by
  have HO := fun u => implSlV_any g p r m u
  unfold slTxL
  cases hv : slB g p r m
  · rw [hv] at HO
    have HO := Lib.hid HO
    rw [if_neg (by simp)]
    clear ht
    go_enter Tryd.func76, Tryd.ntmps76
    go_wp2_with fail
    refine (HO.out _).mono ?_
    rintro e w1 ⟨rfl, hb1⟩
    have b1 := kept_trans (a := w) (by go_grown) hb1
    go_wp2
    go_ret
    exact ⟨rfl, b1⟩
  · rw [hv] at HO
    have HO := Lib.hid HO
    rw [if_pos rfl]
    have hbd := slB_bd hv
    have lg := Lib.itoa_length_le g (by omega) (by omega)
    have lp := Lib.itoa_length_le p (by omega) (by omega)
    have lr := Lib.itoa_length_le r (by omega) (by omega)
    have lm := Lib.itoa_length_le m (by omega) (by omega)
    have zg := cat_size (Lib.itoa g)
    have zp := cat_size (Lib.itoa p)
    have zr := cat_size (Lib.itoa r)
    have zm := cat_size (Lib.itoa m)
    have hcat := catSl (Lib.itoa g) (Lib.itoa p) (Lib.itoa r) (Lib.itoa m)
    rw [show Lib.itoa g ++ 120 :: (Lib.itoa p ++ 47 :: (Lib.itoa r ++ 32 :: Lib.itoa m)) = slText g p r m from rfl] at hcat
    generalize slText g p r m = T at *
    obtain ⟨xg, eg⟩ : ∃ x, ByteArray.mk (Lib.itoa g).toArray = x := ⟨_, rfl⟩
    obtain ⟨xp, ep⟩ : ∃ x, ByteArray.mk (Lib.itoa p).toArray = x := ⟨_, rfl⟩
    obtain ⟨xr, er⟩ : ∃ x, ByteArray.mk (Lib.itoa r).toArray = x := ⟨_, rfl⟩
    obtain ⟨xm, em⟩ : ∃ x, ByteArray.mk (Lib.itoa m).toArray = x := ⟨_, rfl⟩
    rw [eg, ep, er, em] at hcat
    rw [eg] at zg
    rw [ep] at zp
    rw [er] at zr
    rw [em] at zm
    have s1 : ¬ 9223372036854775807 < xg.size + 1 := by omega
    have s2 : ¬ 9223372036854775807 < xg.size + 1 + xp.size := by omega
    have s3 : ¬ 9223372036854775807 < xg.size + 1 + xp.size + 1 := by omega
    have s4 : ¬ 9223372036854775807 < xg.size + 1 + xp.size + 1 + xr.size := by omega
    have s5 : ¬ 9223372036854775807 < xg.size + 1 + xp.size + 1 + xr.size + 1 := by omega
    have s6 : ¬ 9223372036854775807 < xg.size + 1 + xp.size + 1 + xr.size + 1 + xm.size := by omega
    clear lg lp lr lm zg zp zr zm hv
    have HC := Lib.hid hcat; clear hcat
    have HT := Lib.hid ht; clear ht
    have HA := Lib.hid (SlBox_new g p r m w)
    go_enter Tryd.func76, Tryd.ntmps76
    go_wp2_with fail
    refine (HO.out _).mono ?_
    rintro e w1 ⟨rfl, hb1⟩
    have X1 := Lib.hid (SlBox_kept HA.out hb1)
    have b1 := kept_trans (a := w) (by go_grown) hb1
    have HT1 := Lib.hid (tab_kept HT.out b1)
    clear hb1
    go_wp2_with fail
    have f0 : ∀ x : BelowBy w1, x.w.cell? ⟨w.heap.size, 0, none⟩ = some (.int .i64 g) := fun x => (SlBox_facts (SlBox_kept X1.out x.h)).1.1
    have f1 : ∀ x : BelowBy w1, x.w.cell? ⟨w.heap.size, 1, none⟩ = some (.int .i64 p) := fun x => (SlBox_facts (SlBox_kept X1.out x.h)).1.2.1
    have f2 : ∀ x : BelowBy w1, x.w.cell? ⟨w.heap.size, 2, none⟩ = some (.int .i64 r) := fun x => (SlBox_facts (SlBox_kept X1.out x.h)).1.2.2.1
    have f3 : ∀ x : BelowBy w1, x.w.cell? ⟨w.heap.size, 3, none⟩ = some (.int .i64 m) := fun x => (SlBox_facts (SlBox_kept X1.out x.h)).1.2.2.2
    refine wp_region_below (by kernel_rfl) (by kernel_rfl) ?_
    repeat (go_big_quiet_step ((go_at_call 81; exact below_call (fun hbx => implDecimal_any _ (by omega) _ (tab_kept HT1.out hbx)))))
    refine wpQuiet_nil ?_
    intro _ hw'
    obtain ⟨⟨wq, hbq⟩, hwq⟩ := hw'
    subst hwq
    (try dsimp only)
    go_wp2
    go_ret
    exact ⟨by first | (rw [← HC.out]; rfl) | (simp only [eg, ep, er, em]; rw [← HC.out]), kept_trans b1 hbq⟩

/-- The two numbers of a word with a separator. -/
noncomputable def pairL (c : UInt8) (d : ByteArray) : (Int × Int) × Bool :=
  match restW d c 0 0 with
  | [x, y] => (((readL x.data.toList).1, (readL y.data.toList).1), (readL x.data.toList).2 && (readL y.data.toList).2)
  | _ => ((0, 0), false)

theorem pairL_two {c : UInt8} {d x y : ByteArray} (h : restW d c 0 0 = [x, y]) : pairL c d = (((readL x.data.toList).1, (readL y.data.toList).1), (readL x.data.toList).2 && (readL y.data.toList).2) := by
  unfold pairL
  rw [h]

theorem pairL_no {c : UInt8} {d : ByteArray} (h : (restW d c 0 0).length ≠ 2) : pairL c d = ((0, 0), false) := by
  unfold pairL
  split
  · rename_i x y e
    rw [e] at h
    simp at h
  · rfl

theorem two_of {α : Type} {l : List α} (h : l.length = 2) : ∃ a b, l = [a, b] := by
  match l, h with
  | [a, b], _ => exact ⟨a, b, rfl⟩

theorem slNo1 {s : ByteArray} (h : (restW s 32 0 0).length ≠ 2) : readSl s.data.toList = (⟨0, 0, 0, 0⟩, false) := readSl_no fun ⟨z, h1, h2⟩ => by
  obtain ⟨a, d, e, _⟩ := slParts h1 h2
  rw [e] at h
  simp at h

theorem slNo2 {s a b : ByteArray} (h1 : restW s 32 0 0 = [a, b]) (h : (restW a 120 0 0).length ≠ 2) : readSl s.data.toList = (⟨0, 0, 0, 0⟩, false) := readSl_no fun ⟨z, g1, g2⟩ => by
  obtain ⟨a', d, e, e2, _⟩ := slParts g1 g2
  rw [h1] at e
  simp only [List.cons.injEq, and_true] at e
  rw [e.1, e2] at h
  simp at h

theorem slEnd {s a b c d : ByteArray} (h1 : restW s 32 0 0 = [a, b]) (h2 : restW a 120 0 0 = [c, d]) :
    readSl s.data.toList = if (readL c.data.toList).2 && (pairL 47 d).2 && (readL b.data.toList).2 && okSl ⟨(readL c.data.toList).1, (pairL 47 d).1.1, (pairL 47 d).1.2, (readL b.data.toList).1⟩ then (⟨(readL c.data.toList).1, (pairL 47 d).1.1, (pairL 47 d).1.2, (readL b.data.toList).1⟩, true) else (⟨0, 0, 0, 0⟩, false) := by
  split
  · rename_i h
    simp only [Bool.and_eq_true] at h
    obtain ⟨⟨⟨k1, k2⟩, k3⟩, k4⟩ := h
    by_cases hl : (restW d 47 0 0).length = 2
    · obtain ⟨x, y, e⟩ := two_of hl
      have hp := pairL_two e
      rw [hp] at k2 k4 ⊢
      simp only [Bool.and_eq_true] at k2
      rw [← slBack h1 h2 e k1 k2.1 k2.2 k3]
      exact readSl_yes k4
    · rw [pairL_no hl] at k2
      cases k2
  · rename_i h
    refine readSl_no fun ⟨z, g1, g2⟩ => h ?_
    obtain ⟨a', d', e1, e2, e3⟩ := slParts g1 g2
    rw [h1] at e1
    simp only [List.cons.injEq, and_true] at e1
    obtain ⟨ea, eb⟩ := e1
    subst ea
    rw [h2] at e2
    simp only [List.cons.injEq, and_true] at e2
    obtain ⟨ec, ed⟩ := e2
    subst ed
    obtain ⟨b1, b2, b3, b4⟩ := okSl_bd g1
    have r1 := (small_itoa b1).2.2.2
    have r2 := (small_itoa b2).2.2.2
    have r3 := (small_itoa b3).2.2.2
    have r4 := (small_itoa b4).2.2.2
    rw [pairL_two e3, ec, eb]
    simp only [r1, r2, r3, r4, Bool.and_self, Bool.true_and]
    exact g1

set_option maxRecDepth 100000 in
theorem specPair_any (c : UInt8) (s : ByteArray) (hs : s.size ≤ 1000000) (w : World) :
    Calls Tryd.prog 70 #[.string s, .int .u8 (c.toNat : Int)] w fun e w' => e = .returned (.tuple #[.int .i64 (pairL c s).1.1, .int .i64 (pairL c s).1.2, .bool (pairL c s).2]) ∧ Below w.heap.size w w' := by
  have hsz := restW_sz s c s.size 0 0 rfl
  have HS := Lib.hid (fun u => specSplit_any s c hs u)
  by_cases hl : (restW s c 0 0).length = 2
  · obtain ⟨x, y, e⟩ := two_of hl
    rw [pairL_two e]
    rw [e] at HS hsz
    have HX := fun u => specNum_any x (by have := hsz x (by simp); omega) u
    have HY := fun u => specNum_any y (by have := hsz y (by simp); omega) u
    clear hsz hl e hs
    generalize readL x.data.toList = RX at *
    generalize readL y.data.toList = RY at *
    obtain ⟨x0, x1⟩ := RX
    obtain ⟨y0, y1⟩ := RY
    dsimp only at *
    have HX := Lib.hid HX
    have HY := Lib.hid HY
    generalize (c.toNat : Int) = cc at *
    cases x1
    all_goals
      go_enter Tryd.func70, Tryd.ntmps70
      go_wp2_with fail
      refine (HS.out _).mono ?_
      rintro e w1 ⟨v, rfl, hrow, b1⟩
      have hrd : RdS w1 v [x, y] := RowF_rd hrow
      obtain ⟨A, cp, rfl, _, r⟩ := RdS_at hrd
      obtain ⟨b, off, rfl, hbl, c0⟩ := r 0 (by simp)
      obtain ⟨b', off', e', _, c1⟩ := r 1 (by simp)
      simp only [Option.some.injEq, Addr.mk.injEq, and_true] at e'
      obtain ⟨rfl, rfl⟩ := e'
      simp only [List.getElem_cons_zero, List.getElem_cons_succ, Nat.add_zero] at c0 c1
      clear hrow hrd r
      go_wp2_with fail
      refine (HX.out _).mono ?_
      rintro e w2 ⟨rfl, hb2⟩
      rw [← kept_cell hb2 b _ hbl] at c1
      have b2 := kept_trans b1 hb2
      go_wp2_with fail
      refine (HY.out _).mono ?_
      rintro e w3 ⟨rfl, hb3⟩
      have b3 := kept_trans b2 hb3
      go_wp2
      go_ret3
      exact ⟨by simp, b3⟩
  · rw [pairL_no hl]
    have hln := restW_len s c s.size 0 0 (by omega)
    have hl1 : (((restW s c 0 0).length : Int) != 2) = true := by rw [bne_iff_ne]; omega
    have hl2 : ¬ ((restW s c 0 0).length : Int) = 2 := by omega
    generalize restW s c 0 0 = L at *
    clear hl hsz hs
    generalize (c.toNat : Int) = cc at *
    go_enter Tryd.func70, Tryd.ntmps70
    go_wp2_with fail
    refine (HS.out _).mono ?_
    rintro e w1 ⟨v, rfl, hrow, b1⟩
    have hrd : RdS w1 v L := RowF_rd hrow
    obtain ⟨A, cp, rfl, _, r⟩ := RdS_at hrd
    clear hrow hrd r
    go_wp2
    go_ret3
    exact ⟨rfl, b1⟩

set_option maxRecDepth 100000 in
set_option maxHeartbeats 1000000 in
theorem specRS_any (s : ByteArray) (hs : s.size ≤ 1000000) (w : World) :
    Calls Tryd.prog 11 #[.string s] w fun e w' => e = .returned (.tuple #[.agg #[.int .i64 (readSl s.data.toList).1.g, .int .i64 (readSl s.data.toList).1.p, .int .i64 (readSl s.data.toList).1.r, .int .i64 (readSl s.data.toList).1.m], .bool (readSl s.data.toList).2]) ∧ Below w.heap.size w w' := by
  have HS := fun u => specSplit_any s 32 hs u
  rw [show (((32 : UInt8).toNat : Nat) : Int) = 32 from rfl] at HS
  have hsz := restW_sz s 32 s.size 0 0 rfl
  by_cases hl : (restW s 32 0 0).length = 2
  case neg =>
    rw [slNo1 hl]
    have hln := restW_len s 32 s.size 0 0 (by omega)
    have hl1 : (((restW s 32 0 0).length : Int) != 2) = true := by rw [bne_iff_ne]; omega
    have hl2 : ¬ ((restW s 32 0 0).length : Int) = 2 := by omega
    generalize restW s 32 0 0 = L at *
    have HS := Lib.hid HS
    clear hl hsz hs
    go_enter Tryd.func11, Tryd.ntmps11
    go_wp2_with fail
    refine (HS.out _).mono ?_
    rintro e w1 ⟨v, rfl, hrow, hb1⟩
    refine kept_at hb1 w.heap.size (by go_size) fun c1_0 z1_0 s1_0 => ?_
    have b1 := kept_trans (a := w) (by go_grown) hb1
    have hrd : RdS w1 v L := RowF_rd hrow
    obtain ⟨A, cp, rfl, _, r⟩ := RdS_at hrd
    clear hrow hrd r
    go_wp2
    (try simp only [Exit.inBlock, Exit.then])
    refine bodyPost_ret (v := .tuple #[.agg #[.int .i64 0, .int .i64 0, .int .i64 0, .int .i64 0], .bool false]) ?_ rfl ⟨rfl, ?_⟩
    · rw [results_cell_tmp rfl]
      go_simp
    · go_grown
  obtain ⟨a, bb, e⟩ := two_of hl
  rw [e] at HS hsz
  have hsa : a.size ≤ 1000000 := by have := hsz a (by simp); omega
  have hsb : bb.size ≤ 1000000 := by have := hsz bb (by simp); omega
  have HS := Lib.hid HS
  have HS2 := fun u => specSplit_any a 120 hsa u
  rw [show (((120 : UInt8).toNat : Nat) : Int) = 120 from rfl] at HS2
  have hsz2 := restW_sz a 120 a.size 0 0 rfl
  by_cases hl2 : (restW a 120 0 0).length = 2
  case neg =>
    rw [slNo2 e hl2]
    have hln := restW_len a 120 a.size 0 0 (by omega)
    have hl1 : (((restW a 120 0 0).length : Int) != 2) = true := by rw [bne_iff_ne]; omega
    have hl3 : ¬ ((restW a 120 0 0).length : Int) = 2 := by omega
    generalize restW a 120 0 0 = L at *
    have HS2 := Lib.hid HS2
    clear hl hsz hs hl2 hsz2 hsa hsb e
    go_enter Tryd.func11, Tryd.ntmps11
    go_wp2_with fail
    refine (HS.out _).mono ?_
    rintro e w1 ⟨v, rfl, hrow, hb1⟩
    refine kept_at hb1 w.heap.size (by go_size) fun c1_0 z1_0 s1_0 => ?_
    have b1 := kept_trans (a := w) (by go_grown) hb1
    have hrd : RdS w1 v [a, bb] := RowF_rd hrow
    obtain ⟨A, cp, rfl, _, r⟩ := RdS_at hrd
    obtain ⟨b, off, rfl, hbl, c0⟩ := r 0 (by simp)
    simp only [List.getElem_cons_zero, Nat.add_zero] at c0
    clear hrow hrd r
    go_wp2_with fail
    refine (HS2.out _).mono ?_
    rintro e w2 ⟨v2, rfl, hrow2, hb2⟩
    refine kept_at hb2 w.heap.size (by go_size) fun c2_0 z2_0 s2_0 => ?_
    have b2 := kept_trans b1 hb2
    have hrd2 : RdS w2 v2 L := RowF_rd hrow2
    obtain ⟨A2, cp2, rfl, _, r2⟩ := RdS_at hrd2
    clear hrow2 hrd2 r2
    go_wp2
    (try simp only [Exit.inBlock, Exit.then])
    refine bodyPost_ret (v := .tuple #[.agg #[.int .i64 0, .int .i64 0, .int .i64 0, .int .i64 0], .bool false]) ?_ rfl ⟨rfl, ?_⟩
    · rw [results_cell_tmp rfl]
      go_simp
    · go_grown
  obtain ⟨cc, dd, e2⟩ := two_of hl2
  rw [e2] at HS2 hsz2
  have hsc : cc.size ≤ 1000000 := by have := hsz2 cc (by simp); omega
  have hsd : dd.size ≤ 1000000 := by have := hsz2 dd (by simp); omega
  have HS2 := Lib.hid HS2
  rw [slEnd e e2]
  have HNC := fun u => specNum_any cc hsc u
  have HNB := fun u => specNum_any bb hsb u
  have HPD := fun u => specPair_any 47 dd hsd u
  rw [show (((47 : UInt8).toNat : Nat) : Int) = 47 from rfl] at HPD
  clear hl hsz hs hl2 hsz2 hsa hsb hsc hsd e e2
  generalize readL cc.data.toList = RC at *
  generalize readL bb.data.toList = RB at *
  generalize pairL 47 dd = PD at *
  obtain ⟨rc, kc⟩ := RC
  obtain ⟨rb, kb⟩ := RB
  obtain ⟨⟨px, py⟩, kp⟩ := PD
  dsimp only at *
  have HNC := Lib.hid HNC
  have HNB := Lib.hid HNB
  have HPD := Lib.hid HPD
  have HOK := fun u b (x : SlAt u b 0 ⟨rc, px, py, rb⟩) => specSlOk_any b 0 ⟨rc, px, py, rb⟩ u x
  obtain ⟨C, hC⟩ : ∃ C : Sl × Bool, C = (if kc && kp && kb && okSl ⟨rc, px, py, rb⟩ then (⟨rc, px, py, rb⟩, true) else (⟨0, 0, 0, 0⟩, false)) := ⟨_, rfl⟩
  rw [← hC]
  generalize okSl ⟨rc, px, py, rb⟩ = ok at *
  have HOK := Lib.hid HOK
  rcases three kc kp kb with rfl | ⟨rfl, rfl⟩ | ⟨rfl, rfl, rfl⟩ | ⟨rfl, rfl, rfl⟩
  case inr.inr.inr =>
    cases ok
    all_goals
      simp only [Bool.and_true, Bool.and_false, Bool.true_and, if_true, Bool.false_eq_true, if_false] at hC
      subst hC
      go_enter Tryd.func11, Tryd.ntmps11
      go_wp2_with fail
      refine (HS.out _).mono ?_
      rintro e w1 ⟨v, rfl, hrow, hb1⟩
      refine kept_at hb1 w.heap.size (by go_size) fun c1_0 z1_0 s1_0 => ?_
      have b1 := kept_trans (a := w) (by go_grown) hb1
      have hrd : RdS w1 v [a, bb] := RowF_rd hrow
      obtain ⟨A, cp, rfl, _, r⟩ := RdS_at hrd
      obtain ⟨b, off, rfl, hbl, c0⟩ := r 0 (by simp)
      obtain ⟨b', off', e', _, c1⟩ := r 1 (by simp)
      simp only [Option.some.injEq, Addr.mk.injEq, and_true] at e'
      obtain ⟨rfl, rfl⟩ := e'
      simp only [List.getElem_cons_zero, List.getElem_cons_succ, Nat.add_zero] at c0 c1
      clear hrow hrd r
      go_wp2_with fail
      refine (HS2.out _).mono ?_
      rintro e w2 ⟨v2, rfl, hrow2, hb2⟩
      refine kept_at hb2 w.heap.size (by go_size) fun c2_0 z2_0 s2_0 => ?_
      have b2 := kept_trans b1 hb2
      rw [← kept_cell hb2 b _ hbl] at c1
      have hbl2 := Nat.lt_of_lt_of_le hbl hb2.size
      have hrd2 : RdS w2 v2 [cc, dd] := RowF_rd hrow2
      obtain ⟨A2, cp2, rfl, _, r2⟩ := RdS_at hrd2
      obtain ⟨bq, offq, rfl, hblq, d0⟩ := r2 0 (by simp)
      obtain ⟨b', off', e', _, d1⟩ := r2 1 (by simp)
      simp only [Option.some.injEq, Addr.mk.injEq, and_true] at e'
      obtain ⟨rfl, rfl⟩ := e'
      simp only [List.getElem_cons_zero, List.getElem_cons_succ, Nat.add_zero] at d0 d1
      clear hrow2 hrd2 r2 c0
      go_wp2_with fail
      refine (HNC.out _).mono ?_
      rintro e w3 ⟨rfl, hb3⟩
      refine kept_at hb3 w.heap.size (by go_size) fun c3_0 z3_0 s3_0 => ?_
      have b3 := kept_trans b2 hb3
      rw [← kept_cell hb3 b _ hbl2] at c1
      have hbl3 := Nat.lt_of_lt_of_le hbl2 hb3.size
      rw [← kept_cell hb3 bq _ hblq] at d1
      clear d0
      go_wp2_with fail
      refine (HPD.out _).mono ?_
      rintro e w4 ⟨rfl, hb4⟩
      refine kept_at hb4 w.heap.size (by go_size) fun c4_0 z4_0 s4_0 => ?_
      have b4 := kept_trans b3 hb4
      rw [← kept_cell hb4 b _ hbl3] at c1
      clear d1
      go_wp2_with fail
      refine (HNB.out _).mono ?_
      rintro e w5 ⟨rfl, hb5⟩
      refine kept_at hb5 w.heap.size (by go_size) fun c5_0 z5_0 s5_0 => ?_
      have b5 := kept_trans b4 hb5
      clear c1
      go_wp2_with fail
      refine (HOK.out _ _ (SlAt_new rc px py rb w5)).mono ?_
      rintro e w6 ⟨rfl, rfl⟩
      go_wp2
      (try simp only [Exit.inBlock, Exit.then])
      first
        | (refine bodyPost_ret (v := .tuple #[.agg #[.int .i64 rc, .int .i64 px, .int .i64 py, .int .i64 rb], .bool true]) ?_ rfl ⟨rfl, ?_⟩
           · rw [results_cell_tmp rfl]
             go_simp
           · first | (go_grown; done) | (go_grown; exact b5.size))
        | (refine bodyPost_ret (v := .tuple #[.agg #[.int .i64 0, .int .i64 0, .int .i64 0, .int .i64 0], .bool false]) ?_ rfl ⟨rfl, ?_⟩
           · rw [results_cell_tmp rfl]
             go_simp
           · first | (go_grown; done) | (go_grown; exact b5.size))
  all_goals
    simp only [Bool.and_true, Bool.and_false, Bool.true_and, Bool.false_and, if_true, Bool.false_eq_true, if_false] at hC
    subst hC
    clear HOK
    go_enter Tryd.func11, Tryd.ntmps11
    go_wp2_with fail
    refine (HS.out _).mono ?_
    rintro e w1 ⟨v, rfl, hrow, hb1⟩
    refine kept_at hb1 w.heap.size (by go_size) fun c1_0 z1_0 s1_0 => ?_
    have b1 := kept_trans (a := w) (by go_grown) hb1
    have hrd : RdS w1 v [a, bb] := RowF_rd hrow
    obtain ⟨A, cp, rfl, _, r⟩ := RdS_at hrd
    obtain ⟨b, off, rfl, hbl, c0⟩ := r 0 (by simp)
    obtain ⟨b', off', e', _, c1⟩ := r 1 (by simp)
    simp only [Option.some.injEq, Addr.mk.injEq, and_true] at e'
    obtain ⟨rfl, rfl⟩ := e'
    simp only [List.getElem_cons_zero, List.getElem_cons_succ, Nat.add_zero] at c0 c1
    clear hrow hrd r
    go_wp2_with fail
    refine (HS2.out _).mono ?_
    rintro e w2 ⟨v2, rfl, hrow2, hb2⟩
    refine kept_at hb2 w.heap.size (by go_size) fun c2_0 z2_0 s2_0 => ?_
    have b2 := kept_trans b1 hb2
    rw [← kept_cell hb2 b _ hbl] at c1
    have hbl2 := Nat.lt_of_lt_of_le hbl hb2.size
    have hrd2 : RdS w2 v2 [cc, dd] := RowF_rd hrow2
    obtain ⟨A2, cp2, rfl, _, r2⟩ := RdS_at hrd2
    obtain ⟨bq, offq, rfl, hblq, d0⟩ := r2 0 (by simp)
    obtain ⟨b', off', e', _, d1⟩ := r2 1 (by simp)
    simp only [Option.some.injEq, Addr.mk.injEq, and_true] at e'
    obtain ⟨rfl, rfl⟩ := e'
    simp only [List.getElem_cons_zero, List.getElem_cons_succ, Nat.add_zero] at d0 d1
    clear hrow2 hrd2 r2 c0
    go_wp2_with fail
    refine (HNC.out _).mono ?_
    rintro e w3 ⟨rfl, hb3⟩
    refine kept_at hb3 w.heap.size (by go_size) fun c3_0 z3_0 s3_0 => ?_
    have b3 := kept_trans b2 hb3
    rw [← kept_cell hb3 b _ hbl2] at c1
    have hbl3 := Nat.lt_of_lt_of_le hbl2 hb3.size
    rw [← kept_cell hb3 bq _ hblq] at d1
    clear d0
    go_wp2_with fail
    refine (HPD.out _).mono ?_
    rintro e w4 ⟨rfl, hb4⟩
    refine kept_at hb4 w.heap.size (by go_size) fun c4_0 z4_0 s4_0 => ?_
    have b4 := kept_trans b3 hb4
    rw [← kept_cell hb4 b _ hbl3] at c1
    clear d1
    go_wp2_with fail
    refine (HNB.out _).mono ?_
    rintro e w5 ⟨rfl, hb5⟩
    refine kept_at hb5 w.heap.size (by go_size) fun c5_0 z5_0 s5_0 => ?_
    have b5 := kept_trans b4 hb5
    clear c1
    go_wp2
    (try simp only [Exit.inBlock, Exit.then])
    refine bodyPost_ret (v := .tuple #[.agg #[.int .i64 0, .int .i64 0, .int .i64 0, .int .i64 0], .bool false]) ?_ rfl ⟨rfl, ?_⟩
    · rw [results_cell_tmp rfl]
      go_simp
    · first | (go_grown; done) | (go_grown; exact b5.size)

theorem sepFn_any (x : Nat) (hx : x ≤ 1114111) (w : World) :
    Calls Tryd.prog 73 #[.int .i32 (x : Int)] w fun e w' => e = .returned (.bool (sepP x)) ∧ ∃ q, w' = w.drewN q := by
  unfold sepP
  by_cases h1 : x = 120
  · subst h1
    go_enter Tryd.func73, Tryd.ntmps73
    go_wp2
    go_ret
    exact ⟨rfl, 0, rfl⟩
  by_cases h2 : x = 47
  · subst h2
    go_enter Tryd.func73, Tryd.ntmps73
    go_wp2
    go_ret
    exact ⟨rfl, 0, rfl⟩
  have HB := fun u => isBlank_any x hx u
  have e1 : ¬ ((x : Int) = 120) := by omega
  have e2 : ((x : Int) == 120) = false := by simpa using e1
  have e3 : ¬ ((x : Int) = 47) := by omega
  have e4 : ((x : Int) == 47) = false := by simpa using e3
  rw [decide_eq_false h1, decide_eq_false h2, Bool.false_or, Bool.false_or, show decide (x = 32) = blankP x from rfl]
  generalize blankP x = B at *
  have HB := Lib.hid HB
  clear h1 h2
  go_enter Tryd.func73, Tryd.ntmps73
  go_wp2_with fail
  refine (HB.out _).mono ?_
  rintro e w1 ⟨rfl, n, rfl⟩
  go_wp2
  go_ret
  exact ⟨rfl, n, rfl⟩

theorem slFno {s : ByteArray} (h : (Lib.goFieldsP sepP s).length ≠ 4) : readSl s.data.toList = (⟨0, 0, 0, 0⟩, false) := readSl_no fun ⟨z, h1, h2⟩ => by
  rw [slFields h1 h2] at h
  simp at h

theorem slFend {s x0 x1 x2 x3 : ByteArray} (h : Lib.goFieldsP sepP s = [x0, x1, x2, x3]) :
    readSl s.data.toList = if slTxL (readL x0.data.toList).1 (readL x1.data.toList).1 (readL x2.data.toList).1 (readL x3.data.toList).1 = s.data.toList then (⟨(readL x0.data.toList).1, (readL x1.data.toList).1, (readL x2.data.toList).1, (readL x3.data.toList).1⟩, true) else (⟨0, 0, 0, 0⟩, false) := by
  split
  · rename_i e
    have hne : s.size ≠ 0 := fun hs => by
      rw [fields_none sepP s hs] at h
      cases h
    unfold slTxL at e
    by_cases hv : slB (readL x0.data.toList).1 (readL x1.data.toList).1 (readL x2.data.toList).1 (readL x3.data.toList).1 = true
    · rw [if_pos hv] at e
      rw [← e]
      exact readSl_yes (z := ⟨(readL x0.data.toList).1, (readL x1.data.toList).1, (readL x2.data.toList).1, (readL x3.data.toList).1⟩) hv
    · rw [if_neg hv] at e
      have hl : s.data.toList.length = s.size := Array.length_toList
      rw [← e] at hl
      simp at hl
      omega
  · rename_i e
    refine readSl_no fun ⟨z, g1, g2⟩ => e ?_
    rw [slFields g1 g2] at h
    simp only [List.cons.injEq, and_true] at h
    obtain ⟨e0, e1, e2, e3⟩ := h
    subst e0 e1 e2 e3
    obtain ⟨b1, b2, b3, b4⟩ := okSl_bd g1
    have r1 := (small_itoa b1).2.2.2
    have r2 := (small_itoa b2).2.2.2
    have r3 := (small_itoa b3).2.2.2
    have r4 := (small_itoa b4).2.2.2
    simp only [r1, r2, r3, r4]
    unfold slTxL
    rw [if_pos (show slB z.g z.p z.r z.m = true from g1)]
    exact g2

theorem four_of {α : Type} {l : List α} (h : l.length = 4) : ∃ a b c d, l = [a, b, c, d] := by
  match l, h with
  | [a, b, c, d], _ => exact ⟨a, b, c, d, rfl⟩

set_option maxRecDepth 100000 in
set_option maxHeartbeats 2000000 in
theorem implRS_any (s : ByteArray) (hs : s.size ≤ 1000000) (w : World) (ht : TextW w) :
    Calls Tryd.prog 12 #[.string s] w fun e w' => e = .returned (.tuple #[.agg #[.int .i64 (readSl s.data.toList).1.g, .int .i64 (readSl s.data.toList).1.p, .int .i64 (readSl s.data.toList).1.r, .int .i64 (readSl s.data.toList).1.m], .bool (readSl s.data.toList).2]) ∧ Below w.heap.size w w' := by
  have hF := fun u => Tryd.strings_FieldsFunc_runes 73 #[] (enters_of Tryd.func73 (by kernel_rfl) rfl) sepP s u (by omega) (fun W x hx _ => sepFn_any x hx W)
  have hsz := fields_sz sepP s
  by_cases hl : (Lib.goFieldsP sepP s).length = 4
  case neg =>
    rw [slFno hl]
    have hl1 : (((Lib.goFieldsP sepP s).length : Int) != 4) = true := by rw [bne_iff_ne]; omega
    have hl2 : ¬ ((Lib.goFieldsP sepP s).length : Int) = 4 := by omega
    generalize Lib.goFieldsP sepP s = ws at *
    have HF := Lib.hid hF; clear hF hl hsz hs
    go_enter Tryd.func12, Tryd.ntmps12
    go_wp2_with fail
    refine (HF.out _).mono ?_
    rintro e w1 ⟨A, rfl, hA, hown, hb1⟩
    refine kept_at hb1 w.heap.size (by go_size) fun c1_0 z1_0 s1_0 => ?_
    have b1 := kept_trans (a := w) (by go_grown) hb1
    clear hown hA
    go_wp2
    (try simp only [Exit.inBlock, Exit.then])
    refine bodyPost_ret (v := .tuple #[.agg #[.int .i64 0, .int .i64 0, .int .i64 0, .int .i64 0], .bool false]) ?_ rfl ⟨rfl, ?_⟩
    · rw [results_cell_tmp rfl]
      go_simp
    · first | (go_grown; done) | (go_grown; exact b1.size)
  obtain ⟨x0, x1, x2, x3, e⟩ := four_of hl
  rw [slFend e]
  rw [e] at hF hsz
  have R0 := fun u t => implReadDec_any x0 (by have := hsz x0 (by simp); omega) u t
  have R1 := fun u t => implReadDec_any x1 (by have := hsz x1 (by simp); omega) u t
  have R2 := fun u t => implReadDec_any x2 (by have := hsz x2 (by simp); omega) u t
  have R3 := fun u t => implReadDec_any x3 (by have := hsz x3 (by simp); omega) u t
  generalize readL x0.data.toList = N0 at *
  generalize readL x1.data.toList = N1 at *
  generalize readL x2.data.toList = N2 at *
  generalize readL x3.data.toList = N3 at *
  obtain ⟨n0, k0⟩ := N0
  obtain ⟨n1, k1⟩ := N1
  obtain ⟨n2, k2⟩ := N2
  obtain ⟨n3, k3⟩ := N3
  dsimp only at *
  have HST := fun u t => implST_any n0 n1 n2 n3 u t
  have hcmp : (slTxL n0 n1 n2 n3 = s.data.toList) ↔ ByteArray.mk (slTxL n0 n1 n2 n3).toArray = s := ⟨fun h => by rw [h, ← ba_of s], fun h => by rw [← h]⟩
  obtain ⟨C, hC⟩ : ∃ C : Sl × Bool, C = (if slTxL n0 n1 n2 n3 = s.data.toList then (⟨n0, n1, n2, n3⟩, true) else (⟨0, 0, 0, 0⟩, false)) := ⟨_, rfl⟩
  rw [← hC]
  simp only [hcmp] at hC
  generalize ByteArray.mk (slTxL n0 n1 n2 n3).toArray = T at *
  have HF := Lib.hid hF
  have R0 := Lib.hid R0
  have R1 := Lib.hid R1
  have R2 := Lib.hid R2
  have R3 := Lib.hid R3
  have HST := Lib.hid HST
  have HC := Lib.hid hC; clear hC
  have HT := Lib.hid ht; clear ht
  clear hl hsz hs e hF hcmp
  go_enter Tryd.func12, Tryd.ntmps12
  go_wp2_with fail
  refine (HF.out _).mono ?_
  rintro e w1 ⟨A, rfl, hA, hown, hb1⟩
  have hown2 : w1.ownsRow (w.alloc (.cells #[.int .i64 0, .int .i64 0, .int .i64 0, .int .i64 0] 23)).heap.size 9 1 (.slice (some ⟨A, 0, none⟩) 4 4) 4 (strV [x0, x1, x2, x3]) := hown
  have hrd : RdS w1 (.slice (some ⟨A, 0, none⟩) 4 4) [x0, x1, x2, x3] := RowF_rd (e := 9) (lo := (w.alloc (.cells #[.int .i64 0, .int .i64 0, .int .i64 0, .int .i64 0] 23)).heap.size) (hi := w1.heap.size) ⟨hown2, fun g hg => ⟨(hown2.lt g hg).1, (hown2.lt g hg).2⟩⟩
  obtain ⟨A', c', e', _, r⟩ := RdS_at hrd
  injection e' with e1 _ e2
  subst e1
  have q0 : A < w1.heap.size ∧ w1.cell? ⟨A, 0, none⟩ = some (.string x0) := by obtain ⟨b, off, e, hl, hc⟩ := r 0 (by simp); simp at e; obtain ⟨rfl, rfl⟩ := e; exact ⟨hl, by simpa using hc⟩
  have q1 : w1.cell? ⟨A, 1, none⟩ = some (.string x1) := by obtain ⟨b, off, e, hl, hc⟩ := r 1 (by simp); simp at e; obtain ⟨rfl, rfl⟩ := e; simpa using hc
  have q2 : w1.cell? ⟨A, 2, none⟩ = some (.string x2) := by obtain ⟨b, off, e, hl, hc⟩ := r 2 (by simp); simp at e; obtain ⟨rfl, rfl⟩ := e; simpa using hc
  have q3 : w1.cell? ⟨A, 3, none⟩ = some (.string x3) := by obtain ⟨b, off, e, hl, hc⟩ := r 3 (by simp); simp at e; obtain ⟨rfl, rfl⟩ := e; simpa using hc
  obtain ⟨hAl, q0⟩ := q0
  refine kept_at hb1 w.heap.size (by go_size) fun c1_0 z1_0 s1_0 => ?_
  have X1 := Lib.hid (SlBox_kept (SlBox_new 0 0 0 0 w) hb1)
  have b1 := kept_trans (a := w) (by go_grown) hb1
  have T1 := Lib.hid (TextW_kept HT.out b1)
  have hne : ¬ A = w1.heap.size := by omega
  clear hown hown2 hA hrd r e2 c1_0 z1_0 hb1
  have hbx0 := BxA_new 0 0 0 0 w1
  have hba0 : Below w1.heap.size w1 (w1.alloc (.cells #[.int .i64 0, .int .i64 0, .int .i64 0, .int .i64 0] 115)) := by go_grown
  go_wp2_with fail
  go_loopw [18] (fun i wr => ∃ j : Nat, j ≤ 4 ∧ i = .int .i64 j ∧ BxA wr w1.heap.size (if 0 < j then n0 else 0) (if 1 < j then n1 else 0) (if 2 < j then n2 else 0) (if 3 < j then n3 else 0) ∧ Below w1.heap.size w1 wr) (fun i _ => 4 - (intOf i).toNat)
  case atStart => exact ⟨0, by omega, rfl, by simpa using hbx0, hba0⟩
  case round =>
    obtain ⟨j, hj, rfl, hx, hb⟩ := hrel
    have hl1 : w1.heap.size < wr.heap.size := BxA_lt hx
    have hAr : A < wr.heap.size := Nat.lt_of_lt_of_le hAl hb.size
    rw [← kept_cell hb A _ hAl] at q0 q1 q2 q3
    have Tr := Lib.hid (TextW_kept T1.out hb)
    rcases (show j = 0 ∨ j = 1 ∨ j = 2 ∨ j = 3 ∨ j = 4 by omega) with rfl | rfl | rfl | rfl | rfl
    · simp (config := { decide := true }) only [if_true, if_false] at hx
      have X := Lib.hid hx
      clear hx
      go_wp2_with fail
      refine (R0.out _ Tr.out).mono ?_
      rintro e w3 ⟨rfl, hb3⟩
      have b3 := kept_trans hb hb3
      have hx3 := BxA_kept X.out hb3
      obtain ⟨⟨a0, a1, a2, a3⟩, fz⟩ := BxA_facts hx3
      have fzj := fz 0
      clear fz
      have X4 := Lib.hid (BxA_put hx3 n0).1
      clear hx3
      go_wp2
      go_roundw
      case rel => exact ⟨1, by omega, by go_num, by simpa using X4.out, b3.setCell (Nat.le_refl _) _⟩
      case measure => simp [intOf] <;> omega
    · simp (config := { decide := true }) only [if_true, if_false] at hx
      have X := Lib.hid hx
      clear hx
      go_wp2_with fail
      refine (R1.out _ Tr.out).mono ?_
      rintro e w3 ⟨rfl, hb3⟩
      have b3 := kept_trans hb hb3
      have hx3 := BxA_kept X.out hb3
      obtain ⟨⟨a0, a1, a2, a3⟩, fz⟩ := BxA_facts hx3
      have fzj := fz 1
      clear fz
      have X4 := Lib.hid (BxA_put hx3 n1).2.1
      clear hx3
      go_wp2
      go_roundw
      case rel => exact ⟨2, by omega, by go_num, by simpa using X4.out, b3.setCell (Nat.le_refl _) _⟩
      case measure => simp [intOf] <;> omega
    · simp (config := { decide := true }) only [if_true, if_false] at hx
      have X := Lib.hid hx
      clear hx
      go_wp2_with fail
      refine (R2.out _ Tr.out).mono ?_
      rintro e w3 ⟨rfl, hb3⟩
      have b3 := kept_trans hb hb3
      have hx3 := BxA_kept X.out hb3
      obtain ⟨⟨a0, a1, a2, a3⟩, fz⟩ := BxA_facts hx3
      have fzj := fz 2
      clear fz
      have X4 := Lib.hid (BxA_put hx3 n2).2.2.1
      clear hx3
      go_wp2
      go_roundw
      case rel => exact ⟨3, by omega, by go_num, by simpa using X4.out, b3.setCell (Nat.le_refl _) _⟩
      case measure => simp [intOf] <;> omega
    · simp (config := { decide := true }) only [if_true, if_false] at hx
      have X := Lib.hid hx
      clear hx
      go_wp2_with fail
      refine (R3.out _ Tr.out).mono ?_
      rintro e w3 ⟨rfl, hb3⟩
      have b3 := kept_trans hb hb3
      have hx3 := BxA_kept X.out hb3
      obtain ⟨⟨a0, a1, a2, a3⟩, fz⟩ := BxA_facts hx3
      have fzj := fz 3
      clear fz
      have X4 := Lib.hid (BxA_put hx3 n3).2.2.2
      clear hx3
      go_wp2
      go_roundw
      case rel => exact ⟨4, by omega, by go_num, by simpa using X4.out, b3.setCell (Nat.le_refl _) _⟩
      case measure => simp [intOf] <;> omega
    · simp (config := { decide := true }) only [if_true, if_false] at hx
      obtain ⟨⟨a0, a1, a2, a3⟩, fz⟩ := BxA_facts hx
      clear fz q0 q1 q2 q3
      have XR := Lib.hid (SlBox_kept X1.out hb)
      have br := kept_trans b1 hb
      have hbA : Below wr.heap.size wr (wr.alloc (.cells #[.int .i64 n0, .int .i64 n1, .int .i64 n2, .int .i64 n3] 23)) := by go_grown
      by_cases hcs : T = s
      · have hC := HC.out
        rw [if_pos hcs] at hC
        subst hC
        subst hcs
        go_wp2_with fail
        refine (HST.out _ (TextW_kept Tr.out hbA).1).mono ?_
        rintro e w5 ⟨rfl, hb5⟩
        refine kept_at hb5 wr.heap.size (by go_size) fun c5_0 z5_0 s5_0 => ?_
        obtain ⟨⟨d0, d1, d2, d3⟩, gz⟩ := SlBox_facts (SlBox_kept (SlBox_kept XR.out hbA) hb5)
        have b5 := kept_trans (kept_trans br hbA) hb5
        go_wp2
        (try simp only [Exit.inBlock, Exit.then])
        refine bodyPost_ret (v := .tuple #[.agg #[.int .i64 n0, .int .i64 n1, .int .i64 n2, .int .i64 n3], .bool true]) ?_ rfl ⟨rfl, ?_⟩
        · rw [results_cell_tmp rfl]
          go_simp
        · exact (((b5.setCell (Nat.le_refl _) _).setCell (Nat.le_refl _) _).setCell (Nat.le_refl _) _).setCell (Nat.le_refl _) _
      · have hC := HC.out
        rw [if_neg hcs] at hC
        subst hC
        have hsn := str_ne hcs
        go_wp2_with fail
        refine (HST.out _ (TextW_kept Tr.out hbA).1).mono ?_
        rintro e w5 ⟨rfl, hb5⟩
        refine kept_at hb5 wr.heap.size (by go_size) fun c5_0 z5_0 s5_0 => ?_
        obtain ⟨⟨d0, d1, d2, d3⟩, gz⟩ := SlBox_facts (SlBox_kept (SlBox_kept XR.out hbA) hb5)
        have b5 := kept_trans (kept_trans br hbA) hb5
        go_wp2
        (try simp only [Exit.inBlock, Exit.then])
        refine bodyPost_ret (v := .tuple #[.agg #[.int .i64 0, .int .i64 0, .int .i64 0, .int .i64 0], .bool false]) ?_ rfl ⟨rfl, ?_⟩
        · rw [results_cell_tmp rfl]
          go_simp
        · exact (((b5.setCell (Nat.le_refl _) _).setCell (Nat.le_refl _) _).setCell (Nat.le_refl _) _).setCell (Nat.le_refl _) _

theorem walk_FnExactReadSling (s : ByteArray) (hs : s.size ≤ maxLen) (w : World) (ht : TextW w) :
    Calls Tryd.prog 3 #[.string s] w fun e w' => e = .returned (.bool true) ∧ Below w.heap.size w w' := by
  unfold maxLen at hs
  by_cases hl : s.size ≤ 1000000
  · have hS := fun w => specRS_any s hl w
    have hI := fun w ht => implRS_any s hl w ht
    generalize readSl s.data.toList = F at *
    obtain ⟨⟨g, p, r, m⟩, kk⟩ := F
    dsimp only at hS hI
    have HS := Lib.hid hS; clear hS
    have HI := Lib.hid hI; clear hI
    have HT := Lib.hid ht; clear ht
    go_enter Tryd.func3, Tryd.ntmps3
    go_wp2_with fail
    refine (HS.out _).mono ?_
    rintro e w1 ⟨rfl, b1⟩
    have b1' : Below w.heap.size w (w1.alloc (.cells #[.int .i64 g, .int .i64 p, .int .i64 r, .int .i64 m] 23)) := kept_trans b1 (by go_grown)
    go_wp2_with fail
    refine (HI.out _ (TextW_kept HT.out b1')).mono ?_
    rintro e w2 ⟨rfl, hb2⟩
    refine kept_at hb2 w1.heap.size (by go_size) fun c2_0 z2_0 s2_0 => ?_
    have b2 := kept_trans b1' hb2
    go_wp2_with fail
    refine (eqSl_same _ _ _ _ _).mono ?_
    rintro e w3 ⟨rfl, hb3⟩
    go_wp2
    go_ret
    exact ⟨rfl, kept_trans (kept_trans b2 (by go_grown)) hb3⟩
  · go_enter Tryd.func3, Tryd.ntmps3
    go_wp2
    go_ret
    exact ⟨rfl, Below.refl _ _⟩

end Go.Proofs.YtedmpjgpgbmolabDoor
