/- Proved: for every input the law FnExactReadChart returns true, and each argument reads afterwards as it read before; no condition beside those of the given row. -/
import Derived.Test.YtapnihkgalbddabDoorRows
import Derived.WalkKit
import Derived.ProofKit
import Derived.OpenShut
import Derived.Lib.Hide
import Derived.Handy
import Derived.BigQuiet
import Derived.Carry
import Derived.Deep.DeepMust
import Derived.Deep.OwnRows
import Derived.Deep.QuietTactic
import Derived.Deep.RegionHeld3
import Derived.Laws.ResultCell
import Derived.Lib.CutLaws
import Derived.Lib.FieldsP
import Derived.Lib.IndexBytes
import Derived.Lib.IndexMore
import Derived.Lib.ItoaLen
import Derived.Lib.ItoaNum
import Derived.Lib.Join
import Derived.Lib.LaidTab
import Derived.Lib.LaidU8
import Derived.Lib.MapLaws
import Derived.Lib.ParseIntB
import Derived.Lib.SmallJoins
import Derived.Lib.Strings
import Derived.Lib.TrimUEq
import Derived.Maps.AppendAt
import Derived.OwnWalk
import Derived.Shelf.Abstract
import Derived.Shelf.Strings.Cut
import Derived.Shelf.Strings.FieldsFuncAny
import Derived.Shelf.Vars
import Derived.Shelf.Strings.Builder1
import Derived.Shelf.Strings.Builder2
import Derived.Shelf.Strings.OnBuilder
import Derived.Shelf.Strconv.Itoa0
import Derived.Shelf.Strconv.Itoa1
import Derived.Shelf.LaysM
import Derived.Shelf.Strconv.Itoa2
import Derived.Shelf.Strconv.Itoa3
import Derived.Shelf.Strconv.Itoa4
import Derived.Shelf.Strconv.ParseIntEmpty
import Derived.Shelf.Strconv.Clone
import Derived.Shelf.Strconv.SyntaxError
import Derived.Shelf.LaysC
import Derived.Shelf.Strconv.ToError
import Derived.Shelf.Strconv.Lower
import Derived.Shelf.Strconv.ParseUint10
import Derived.Shelf.Strconv.ParseUint10Empty
import Derived.Shelf.Strconv.ParseUint10Any
import Derived.Shelf.Strconv.ParseInt10
import Derived.Shelf.Strconv.RangeError
import Derived.Shelf.Strconv.ToErrorRange
import Derived.Shelf.Strconv.ParseUintEmpty
import Derived.Shelf.Strconv.ParseUint10b64
import Derived.Shelf.Strconv.ParseUint10b32
import Derived.Shelf.Strconv.ParseUint10b16
import Derived.Shelf.Strconv.ParseUint10b8
import Derived.Shelf.Strconv.ParseUint10At
import Derived.Shelf.Strconv.ParseInt10At64
import Derived.Shelf.Strconv.ParseInt10At32
import Derived.Shelf.Strconv.ParseInt10At16
import Derived.Shelf.Strconv.ParseInt10At8
import Derived.Shelf.Strconv.ParseInt10All
import Derived.Shelf.Strconv.ParseIntPublic10
import Derived.Shelf.Strings.Search1
import Derived.Shelf.Strings.Search2
import Derived.Shelf.Strings.Cut
import Derived.Shelf.Strings.Shaped
import Derived.Shelf.Strings.Prefix
import Derived.Shelf.Strings.FieldsFuncAny
import Derived.Test.YtapnihkgalbddabDoorCards
import Derived.Test.YtapnihkgalbddabDoorTie
import Derived.Lib.SmallJoins
import Derived.ChangeMaps5
import Derived.Deep.DeepHandedRow
import Derived.Deep.DeepWitnessRowRef
import Derived.Lib.LaidTab
import Derived.SevenTiedAt
namespace Go.Proofs
open Go.Shelf
def Tryd.lays156_ren : Go.Shelf.Ren := ⟨fun | 156 => 22 | 165 => 31 | 166 => 32 | 169 => 33 | 240 => 40 | 241 => 41 | 276 => 49 | 277 => 50 | n => n, fun | 31 => 40 | 9 => 9 | 3 => 3 | 4 => 4 | 0 => 0 | 20 => 20 | 72 => 55 | 76 => 59 | 70 => 52 | 37 => 53 | 75 => 58 | 127 => 67 | 164 => 81 | 5 => 5 | 80 => 61 | n => n, fun | n => n⟩
theorem Tryd.lays156 : Go.Proofs.Lays.n156 Tryd.prog Tryd.lays156_ren := {
  mixed := by kernel_rfl
  f156 := Tryd.func22.trans (congrArg some (by kernel_rfl))
  f165 := Tryd.func31.trans (congrArg some (by kernel_rfl))
  f166 := Tryd.func32.trans (congrArg some (by kernel_rfl))
  f169 := Tryd.func33.trans (congrArg some (by kernel_rfl))
  f240 := Tryd.func40.trans (congrArg some (by kernel_rfl))
  f241 := Tryd.func41.trans (congrArg some (by kernel_rfl))
  f276 := Tryd.func49.trans (congrArg some (by kernel_rfl))
  f277 := Tryd.func50.trans (congrArg some (by kernel_rfl))
  t0 := Tryd.underlying0
  a0 := Tryd.isAgg0
  z0 := Tryd.sizeOf0
  v0 := Tryd.zeroValue0
  t3 := Tryd.underlying3
  a3 := Tryd.isAgg3
  z3 := Tryd.sizeOf3
  v3 := Tryd.zeroValue3
  t4 := Tryd.underlying4
  a4 := Tryd.isAgg4
  z4 := Tryd.sizeOf4
  v4 := Tryd.zeroValue4
  t9 := Tryd.underlying9
  a9 := Tryd.isAgg9
  z9 := Tryd.sizeOf9
  v9 := Tryd.zeroValue9
  t20 := Tryd.underlying20
  a20 := Tryd.isAgg20
  z20 := Tryd.sizeOf20
  v20 := Tryd.zeroValue20
  t31 := Tryd.underlying40
  a31 := Tryd.isAgg40
  z31 := Tryd.sizeOf40
  v31 := Tryd.zeroValue40
  t37 := Tryd.underlying53
  a37 := Tryd.isAgg53
  z37 := Tryd.sizeOf53
  v37 := Tryd.zeroValue53
  t70 := Tryd.underlying52
  a70 := Tryd.isAgg52
  z70 := Tryd.sizeOf52
  v70 := Tryd.zeroValue52
  t72 := Tryd.underlying55
  a72 := Tryd.isAgg55
  z72 := Tryd.sizeOf55
  v72 := Tryd.zeroValue55
  t75 := Tryd.underlying58
  a75 := Tryd.isAgg58
  z75 := Tryd.sizeOf58
  v75 := Tryd.zeroValue58
  t76 := Tryd.underlying59
  a76 := Tryd.isAgg59
  z76 := Tryd.sizeOf59
  v76 := Tryd.zeroValue59
  t127 := Tryd.underlying67
  a127 := Tryd.isAgg67
  z127 := Tryd.sizeOf67
  v127 := Tryd.zeroValue67
  t164 := Tryd.underlying81
  a164 := Tryd.isAgg81
  z164 := Tryd.sizeOf81
  v164 := Tryd.zeroValue81 }
theorem Tryd.Builder_Extra_156 : Builder.Extra Tryd.prog Tryd.lays156_ren := {
  sizeBuilder := by kernel_rfl
  liesBuilder := by kernel_rfl
  t5 := Tryd.underlying5
  a5 := Tryd.isAgg5
  z5 := Tryd.sizeOf5
  v5 := Tryd.zeroValue5
  infoByte := by kernel_rfl
  cellsByte := by kernel_rfl
  sizeByte := by kernel_rfl
  neB5 := by decide }
open Go.RowKit in
/-- strings.Join: "Join concatenates the elements of its first argument to create a single string. The separator string sep is placed between elements in the resulting string.": HOWEVER MANY ELEMENTS. Below the heap's end the world is as it was. (LAID: no walk: one application.) -/
theorem Tryd.strings_Join (bk o c : Nat) (xs : List ByteArray) (sep : ByteArray) (w : World) (hcells : ∀ (j : Nat) x, xs[j]? = some x → w.cell? ⟨bk, o + j, none⟩ = some (.string x)) (hbk : bk < w.heap.size) (hN : xs.length ≤ 140737488355328) (hcap : xs.length ≤ c) (hlen : (Lib.join (xs.map (·.data.toList)) sep.data.toList).length ≤ 140737488355328) :
    Calls Tryd.prog 22 #[.slice (some ⟨bk, o, none⟩) xs.length c, .string sep] w fun e w' => e = .returned (.string ⟨(Lib.join (xs.map (·.data.toList)) sep.data.toList).toArray⟩) ∧ Below w.heap.size w w' := Any.strings_Join Tryd.lays156 Tryd.Builder_Extra_156 bk o c xs sep w hcells hbk hN hcap hlen
def Tryd.laysM173_ren : Go.Shelf.Ren := ⟨fun | 173 => 30 | 246 => 39 | 283 => 45 | 284 => 46 | 285 => 47 | 286 => 48 | 129 => 56 | 317 => 55 | 318 => 57 | 319 => 58 | 320 => 59 | 337 => 70 | 338 => 71 | n => n, fun | 2 => 2 | 3 => 3 | 9 => 9 | 4 => 4 | 171 => 75 | 0 => 0 | 53 => 76 | 37 => 53 | 5 => 5 | 173 => 79 | 212 => 87 | 51 => 88 | 20 => 20 | 213 => 89 | 46 => 91 | 232 => 109 | 233 => 110 | n => n, fun | 17 => 0 | 18 => 4 | 19 => 5 | n => n⟩
theorem Tryd.laysM173 : Go.Proofs.LaysM.n173 Tryd.prog Tryd.laysM173_ren := {
  mixed := by kernel_rfl
  f129 := Tryd.func56.trans (congrArg some (by kernel_rfl))
  f173 := Tryd.func30.trans (congrArg some (by kernel_rfl))
  f246 := Tryd.func39.trans (congrArg some (by kernel_rfl))
  f283 := Tryd.func45.trans (congrArg some (by kernel_rfl))
  f284 := Tryd.func46.trans (congrArg some (by kernel_rfl))
  f285 := Tryd.func47.trans (congrArg some (by kernel_rfl))
  f286 := Tryd.func48.trans (congrArg some (by kernel_rfl))
  f317 := Tryd.func55.trans (congrArg some (by kernel_rfl))
  f318 := Tryd.func57.trans (congrArg some (by kernel_rfl))
  f319 := Tryd.func58.trans (congrArg some (by kernel_rfl))
  f320 := Tryd.func59.trans (congrArg some (by kernel_rfl))
  f337 := Tryd.func70.trans (congrArg some (by kernel_rfl))
  f338 := Tryd.func71.trans (congrArg some (by kernel_rfl))
  t0 := Tryd.underlying0
  a0 := Tryd.isAgg0
  z0 := Tryd.sizeOf0
  v0 := Tryd.zeroValue0
  t2 := Tryd.underlying2
  a2 := Tryd.isAgg2
  z2 := Tryd.sizeOf2
  v2 := Tryd.zeroValue2
  t3 := Tryd.underlying3
  a3 := Tryd.isAgg3
  z3 := Tryd.sizeOf3
  v3 := Tryd.zeroValue3
  t4 := Tryd.underlying4
  a4 := Tryd.isAgg4
  z4 := Tryd.sizeOf4
  v4 := Tryd.zeroValue4
  t5 := Tryd.underlying5
  a5 := Tryd.isAgg5
  z5 := Tryd.sizeOf5
  v5 := Tryd.zeroValue5
  t9 := Tryd.underlying9
  a9 := Tryd.isAgg9
  z9 := Tryd.sizeOf9
  v9 := Tryd.zeroValue9
  t20 := Tryd.underlying20
  a20 := Tryd.isAgg20
  z20 := Tryd.sizeOf20
  v20 := Tryd.zeroValue20
  t37 := Tryd.underlying53
  a37 := Tryd.isAgg53
  z37 := Tryd.sizeOf53
  v37 := Tryd.zeroValue53
  t46 := Tryd.underlying91
  a46 := Tryd.isAgg91
  z46 := Tryd.sizeOf91
  v46 := Tryd.zeroValue91
  t51 := Tryd.underlying88
  a51 := Tryd.isAgg88
  z51 := Tryd.sizeOf88
  v51 := Tryd.zeroValue88
  t53 := Tryd.underlying76
  a53 := Tryd.isAgg76
  z53 := Tryd.sizeOf76
  v53 := Tryd.zeroValue76
  t171 := Tryd.underlying75
  a171 := Tryd.isAgg75
  z171 := Tryd.sizeOf75
  v171 := Tryd.zeroValue75
  t173 := Tryd.underlying79
  a173 := Tryd.isAgg79
  z173 := Tryd.sizeOf79
  v173 := Tryd.zeroValue79
  t212 := Tryd.underlying87
  a212 := Tryd.isAgg87
  z212 := Tryd.sizeOf87
  v212 := Tryd.zeroValue87
  t213 := Tryd.underlying89
  a213 := Tryd.isAgg89
  z213 := Tryd.sizeOf89
  t232 := Tryd.underlying109
  a232 := Tryd.isAgg109
  z232 := Tryd.sizeOf109
  v232 := Tryd.zeroValue109
  t233 := Tryd.underlying110
  a233 := Tryd.isAgg110
  z233 := Tryd.sizeOf110
  v233 := Tryd.zeroValue110
  g17 := by kernel_rfl
  g18 := by kernel_rfl
  g19 := by kernel_rfl
  i0 := by kernel_rfl
  i2 := by kernel_rfl
  i3 := by kernel_rfl
  i4 := by kernel_rfl
  i5 := by kernel_rfl
  i9 := by kernel_rfl
  i20 := by kernel_rfl
  i37 := by kernel_rfl
  i46 := by kernel_rfl
  i51 := by kernel_rfl
  i53 := by kernel_rfl
  i171 := by kernel_rfl
  i173 := by kernel_rfl
  i212 := by kernel_rfl
  i232 := by kernel_rfl
  i233 := by kernel_rfl
  m17 := by kernel_rfl
  m18 := by kernel_rfl
  m19 := by kernel_rfl }
open Go.RowKit Go.Sort Go.Lib in
/-- strconv.FormatInt: "FormatInt returns the string representation of i in the given base": AT BASE 10: i's decimal numeral, for every int64. (LAID: no walk: one application.) -/
theorem Tryd.strconv_FormatInt_10 (n : Int) (h0 : -9223372036854775808 ≤ n) (h1 : n ≤ 9223372036854775807) (w : World) (htab : Lib.TabIs Tryd.prog w "internal/strconv.uint64pow10" .u64 Lib.pow10Tab) :
    Calls Tryd.prog 30 #[.int .i64 n, .int .i64 10] w fun e w' => e = .returned (.string ⟨(Lib.itoa n).toArray⟩) ∧ ∃ k os, w' = grow (w.drewN k) os := Any.strconv_FormatInt_10 Tryd.laysM173 n h0 h1 w htab
def Tryd.laysC174_ren : Go.Shelf.Ren := ⟨fun | 174 => 44 | 247 => 53 | 245 => 54 | 287 => 65 | 279 => 66 | 280 => 67 | 281 => 68 | 282 => 69 | 321 => 74 | 322 => 75 | 316 => 76 | 171 => 78 | 205 => 77 | 243 => 79 | 246 => 39 | 283 => 45 | 284 => 46 | 285 => 47 | 286 => 48 | 129 => 56 | 317 => 55 | 318 => 57 | 319 => 58 | 320 => 59 | 337 => 70 | 338 => 71 | n => n, fun | 9 => 9 | 3 => 3 | 2 => 2 | 75 => 58 | 85 => 72 | 4 => 4 | 167 => 95 | 5 => 5 | 53 => 76 | 175 => 96 | 46 => 91 | 168 => 98 | 37 => 53 | 0 => 0 | 210 => 107 | 21 => 21 | 127 => 67 | 145 => 113 | 143 => 111 | 171 => 75 | 173 => 79 | 212 => 87 | 51 => 88 | 20 => 20 | 213 => 89 | 232 => 109 | 233 => 110 | 80 => 61 | n => n, fun | 15 => 2 | 16 => 3 | 17 => 0 | 18 => 4 | 19 => 5 | n => n⟩
theorem Tryd.laysC174 : Go.Proofs.LaysC.n174 Tryd.prog Tryd.laysC174_ren := {
  mixed := by kernel_rfl
  f129 := Tryd.func56.trans (congrArg some (by kernel_rfl))
  f171 := Tryd.func78.trans (congrArg some (by kernel_rfl))
  f174 := Tryd.func44.trans (congrArg some (by kernel_rfl))
  f205 := Tryd.func77.trans (congrArg some (by kernel_rfl))
  f243 := Tryd.func79.trans (congrArg some (by kernel_rfl))
  f245 := Tryd.func54.trans (congrArg some (by kernel_rfl))
  f246 := Tryd.func39.trans (congrArg some (by kernel_rfl))
  f247 := Tryd.func53.trans (congrArg some (by kernel_rfl))
  f279 := Tryd.func66.trans (congrArg some (by kernel_rfl))
  f280 := Tryd.func67.trans (congrArg some (by kernel_rfl))
  f281 := Tryd.func68.trans (congrArg some (by kernel_rfl))
  f282 := Tryd.func69.trans (congrArg some (by kernel_rfl))
  f283 := Tryd.func45.trans (congrArg some (by kernel_rfl))
  f284 := Tryd.func46.trans (congrArg some (by kernel_rfl))
  f285 := Tryd.func47.trans (congrArg some (by kernel_rfl))
  f286 := Tryd.func48.trans (congrArg some (by kernel_rfl))
  f287 := Tryd.func65.trans (congrArg some (by kernel_rfl))
  f316 := Tryd.func76.trans (congrArg some (by kernel_rfl))
  f317 := Tryd.func55.trans (congrArg some (by kernel_rfl))
  f318 := Tryd.func57.trans (congrArg some (by kernel_rfl))
  f319 := Tryd.func58.trans (congrArg some (by kernel_rfl))
  f320 := Tryd.func59.trans (congrArg some (by kernel_rfl))
  f321 := Tryd.func74.trans (congrArg some (by kernel_rfl))
  f322 := Tryd.func75.trans (congrArg some (by kernel_rfl))
  f337 := Tryd.func70.trans (congrArg some (by kernel_rfl))
  f338 := Tryd.func71.trans (congrArg some (by kernel_rfl))
  t0 := Tryd.underlying0
  a0 := Tryd.isAgg0
  z0 := Tryd.sizeOf0
  v0 := Tryd.zeroValue0
  t2 := Tryd.underlying2
  a2 := Tryd.isAgg2
  z2 := Tryd.sizeOf2
  v2 := Tryd.zeroValue2
  t3 := Tryd.underlying3
  a3 := Tryd.isAgg3
  z3 := Tryd.sizeOf3
  v3 := Tryd.zeroValue3
  t4 := Tryd.underlying4
  a4 := Tryd.isAgg4
  z4 := Tryd.sizeOf4
  v4 := Tryd.zeroValue4
  t5 := Tryd.underlying5
  a5 := Tryd.isAgg5
  z5 := Tryd.sizeOf5
  v5 := Tryd.zeroValue5
  t9 := Tryd.underlying9
  a9 := Tryd.isAgg9
  z9 := Tryd.sizeOf9
  v9 := Tryd.zeroValue9
  t20 := Tryd.underlying20
  a20 := Tryd.isAgg20
  z20 := Tryd.sizeOf20
  v20 := Tryd.zeroValue20
  t21 := Tryd.underlying21
  a21 := Tryd.isAgg21
  z21 := Tryd.sizeOf21
  v21 := Tryd.zeroValue21
  t37 := Tryd.underlying53
  a37 := Tryd.isAgg53
  z37 := Tryd.sizeOf53
  v37 := Tryd.zeroValue53
  t46 := Tryd.underlying91
  a46 := Tryd.isAgg91
  z46 := Tryd.sizeOf91
  v46 := Tryd.zeroValue91
  t51 := Tryd.underlying88
  a51 := Tryd.isAgg88
  z51 := Tryd.sizeOf88
  v51 := Tryd.zeroValue88
  t53 := Tryd.underlying76
  a53 := Tryd.isAgg76
  z53 := Tryd.sizeOf76
  v53 := Tryd.zeroValue76
  t75 := Tryd.underlying58
  a75 := Tryd.isAgg58
  z75 := Tryd.sizeOf58
  v75 := Tryd.zeroValue58
  t85 := Tryd.underlying72
  a85 := Tryd.isAgg72
  z85 := Tryd.sizeOf72
  v85 := Tryd.zeroValue72
  t127 := Tryd.underlying67
  a127 := Tryd.isAgg67
  z127 := Tryd.sizeOf67
  v127 := Tryd.zeroValue67
  t143 := Tryd.underlying111
  a143 := Tryd.isAgg111
  z143 := Tryd.sizeOf111
  v143 := Tryd.zeroValue111
  t145 := Tryd.underlying113
  a145 := Tryd.isAgg113
  z145 := Tryd.sizeOf113
  v145 := Tryd.zeroValue113
  t167 := Tryd.underlying95
  a167 := Tryd.isAgg95
  z167 := Tryd.sizeOf95
  v167 := Tryd.zeroValue95
  t168 := Tryd.underlying98
  a168 := Tryd.isAgg98
  z168 := Tryd.sizeOf98
  v168 := Tryd.zeroValue98
  t171 := Tryd.underlying75
  a171 := Tryd.isAgg75
  z171 := Tryd.sizeOf75
  v171 := Tryd.zeroValue75
  t173 := Tryd.underlying79
  a173 := Tryd.isAgg79
  z173 := Tryd.sizeOf79
  v173 := Tryd.zeroValue79
  t175 := Tryd.underlying96
  a175 := Tryd.isAgg96
  z175 := Tryd.sizeOf96
  v175 := Tryd.zeroValue96
  t210 := Tryd.underlying107
  a210 := Tryd.isAgg107
  z210 := Tryd.sizeOf107
  v210 := Tryd.zeroValue107
  t212 := Tryd.underlying87
  a212 := Tryd.isAgg87
  z212 := Tryd.sizeOf87
  v212 := Tryd.zeroValue87
  t213 := Tryd.underlying89
  a213 := Tryd.isAgg89
  z213 := Tryd.sizeOf89
  t232 := Tryd.underlying109
  a232 := Tryd.isAgg109
  z232 := Tryd.sizeOf109
  v232 := Tryd.zeroValue109
  t233 := Tryd.underlying110
  a233 := Tryd.isAgg110
  z233 := Tryd.sizeOf110
  v233 := Tryd.zeroValue110
  g15 := by kernel_rfl
  g16 := by kernel_rfl
  g17 := by kernel_rfl
  g18 := by kernel_rfl
  g19 := by kernel_rfl
  t80 := Tryd.underlying61
  a80 := Tryd.isAgg61
  z80 := Tryd.sizeOf61
  v80 := Tryd.zeroValue61
  i0 := by kernel_rfl
  i2 := by kernel_rfl
  i3 := by kernel_rfl
  i4 := by kernel_rfl
  i5 := by kernel_rfl
  i9 := by kernel_rfl
  i20 := by kernel_rfl
  i21 := by kernel_rfl
  i37 := by kernel_rfl
  i46 := by kernel_rfl
  i51 := by kernel_rfl
  i53 := by kernel_rfl
  i75 := by kernel_rfl
  i80 := by kernel_rfl
  i85 := by kernel_rfl
  i127 := by kernel_rfl
  i143 := by kernel_rfl
  i145 := by kernel_rfl
  i167 := by kernel_rfl
  i168 := by kernel_rfl
  i171 := by kernel_rfl
  i173 := by kernel_rfl
  i175 := by kernel_rfl
  i210 := by kernel_rfl
  i212 := by kernel_rfl
  i232 := by kernel_rfl
  i233 := by kernel_rfl
  m15 := by kernel_rfl
  m16 := by kernel_rfl
  m17 := by kernel_rfl
  m18 := by kernel_rfl
  m19 := by kernel_rfl
  c0 := by kernel_rfl
  c2 := by kernel_rfl
  c3 := by kernel_rfl
  c4 := by kernel_rfl
  c5 := by kernel_rfl
  c9 := by kernel_rfl
  c20 := by kernel_rfl
  c21 := by kernel_rfl
  c37 := by kernel_rfl
  c46 := by kernel_rfl
  c51 := by kernel_rfl
  c53 := by kernel_rfl
  c75 := by kernel_rfl
  c80 := by kernel_rfl
  c85 := by kernel_rfl
  c127 := by kernel_rfl
  c143 := by kernel_rfl
  c145 := by kernel_rfl
  c167 := by kernel_rfl
  c168 := by kernel_rfl
  c171 := by kernel_rfl
  c173 := by kernel_rfl
  c175 := by kernel_rfl
  c210 := by kernel_rfl
  c212 := by kernel_rfl
  c213 := by kernel_rfl
  c232 := by kernel_rfl
  c233 := by kernel_rfl }
def Tryd.lays145_ren : Go.Shelf.Ren := ⟨fun | 145 => 37 | 220 => 42 | 219 => 51 | 217 => 60 | 225 => 61 | 224 => 62 | 267 => 63 | 266 => 72 | 314 => 73 | n => n, fun | 9 => 9 | 4 => 4 | 59 => 65 | 3 => 3 | 5 => 5 | 46 => 91 | 146 => 102 | 51 => 88 | n => n, fun | 1 => 1 | n => n⟩
theorem Tryd.lays145 : Go.Proofs.Lays.n145 Tryd.prog Tryd.lays145_ren := {
  mixed := by kernel_rfl
  f145 := Tryd.func37.trans (congrArg some (by kernel_rfl))
  f217 := Tryd.func60.trans (congrArg some (by kernel_rfl))
  f219 := Tryd.func51.trans (congrArg some (by kernel_rfl))
  f220 := Tryd.func42.trans (congrArg some (by kernel_rfl))
  f224 := Tryd.func62.trans (congrArg some (by kernel_rfl))
  f225 := Tryd.func61.trans (congrArg some (by kernel_rfl))
  f266 := Tryd.func72.trans (congrArg some (by kernel_rfl))
  f267 := Tryd.func63.trans (congrArg some (by kernel_rfl))
  f314 := Tryd.func73.trans (congrArg some (by kernel_rfl))
  t3 := Tryd.underlying3
  a3 := Tryd.isAgg3
  z3 := Tryd.sizeOf3
  v3 := Tryd.zeroValue3
  t4 := Tryd.underlying4
  a4 := Tryd.isAgg4
  z4 := Tryd.sizeOf4
  v4 := Tryd.zeroValue4
  t5 := Tryd.underlying5
  a5 := Tryd.isAgg5
  z5 := Tryd.sizeOf5
  v5 := Tryd.zeroValue5
  t9 := Tryd.underlying9
  a9 := Tryd.isAgg9
  z9 := Tryd.sizeOf9
  v9 := Tryd.zeroValue9
  t46 := Tryd.underlying91
  a46 := Tryd.isAgg91
  z46 := Tryd.sizeOf91
  v46 := Tryd.zeroValue91
  t51 := Tryd.underlying88
  a51 := Tryd.isAgg88
  z51 := Tryd.sizeOf88
  v51 := Tryd.zeroValue88
  t59 := Tryd.underlying65
  a59 := Tryd.isAgg65
  z59 := Tryd.sizeOf65
  v59 := Tryd.zeroValue65
  t146 := Tryd.underlying102
  a146 := Tryd.isAgg102
  z146 := Tryd.sizeOf102
  v146 := Tryd.zeroValue102
  g1 := by kernel_rfl }
open Go.RowKit Go.Lib in
/-- strings.Cut: "Cut slices s around the first instance of sep, returning the text before and after sep. The found result reports whether sep appears in s. If sep does not appear in s, cut returns s, "", false.": IT RETURNS 'Lib.cut s sep'; the world is as it was but for the count of draws. (LAID: no walk: one application.) -/
theorem Tryd.strings_Cut (s sep : ByteArray) (m : Int) (w : World) (hs : s.size < 4294967281) (hm : w.cell? ⟨1, 0, none⟩ = some (.int .i64 m)) :
    Calls Tryd.prog 37 #[.string s, .string sep] w fun e w' => e = .returned (.tuple #[.string ⟨(Lib.cut s.data.toList sep.data.toList).1.toArray⟩, .string ⟨(Lib.cut s.data.toList sep.data.toList).2.1.toArray⟩, .bool (Lib.cut s.data.toList sep.data.toList).2.2]) ∧ ∃ n, w' = w.drewN n := Any.strings_Cut Tryd.lays145 s sep m w hs hm
def Tryd.lays101_ren : Go.Shelf.Ren := ⟨fun | 101 => 43 | 208 => 52 | 206 => 64 | n => n, fun | 9 => 9 | 4 => 4 | 3 => 3 | n => n, fun | n => n⟩
theorem Tryd.lays101 : Go.Proofs.Lays.n101 Tryd.prog Tryd.lays101_ren := {
  mixed := by kernel_rfl
  f101 := Tryd.func43.trans (congrArg some (by kernel_rfl))
  f206 := Tryd.func64.trans (congrArg some (by kernel_rfl))
  f208 := Tryd.func52.trans (congrArg some (by kernel_rfl))
  t3 := Tryd.underlying3
  a3 := Tryd.isAgg3
  z3 := Tryd.sizeOf3
  v3 := Tryd.zeroValue3
  t4 := Tryd.underlying4
  a4 := Tryd.isAgg4
  z4 := Tryd.sizeOf4
  v4 := Tryd.zeroValue4
  t9 := Tryd.underlying9
  a9 := Tryd.isAgg9
  z9 := Tryd.sizeOf9
  v9 := Tryd.zeroValue9 }
open Go.RowKit Go.Lib in
/-- strings.TrimPrefix: "TrimPrefix returns s without the provided leading prefix string. If s doesn't start with prefix, s is returned unchanged.": IT RETURNS 'Lib.trimPrefix s prefix'; the world is as it was. (LAID: no walk: one application.) -/
theorem Tryd.strings_TrimPrefix (s p : ByteArray) (w : World) :
    Calls Tryd.prog 43 #[.string s, .string p] w fun e w' => e = .returned (.string ⟨(Lib.trimPrefix s.data.toList p.data.toList).toArray⟩) ∧ w' = w := Any.strings_TrimPrefix Tryd.lays101 s p w
def Tryd.lays229_ren : Go.Shelf.Ren := ⟨fun | 229 => 35 | n => n, fun | 9 => 9 | 40 => 64 | 31 => 40 | 152 => 68 | 3 => 3 | 0 => 0 | 4 => 4 | 21 => 21 | 154 => 70 | n => n, fun | n => n⟩
theorem Tryd.lays229 : Go.Proofs.Lays.n229 Tryd.prog Tryd.lays229_ren := {
  mixed := by kernel_rfl
  f229 := Tryd.func35.trans (congrArg some (by kernel_rfl))
  t0 := Tryd.underlying0
  a0 := Tryd.isAgg0
  z0 := Tryd.sizeOf0
  v0 := Tryd.zeroValue0
  t3 := Tryd.underlying3
  a3 := Tryd.isAgg3
  z3 := Tryd.sizeOf3
  v3 := Tryd.zeroValue3
  t4 := Tryd.underlying4
  a4 := Tryd.isAgg4
  z4 := Tryd.sizeOf4
  v4 := Tryd.zeroValue4
  t9 := Tryd.underlying9
  a9 := Tryd.isAgg9
  z9 := Tryd.sizeOf9
  v9 := Tryd.zeroValue9
  t21 := Tryd.underlying21
  a21 := Tryd.isAgg21
  z21 := Tryd.sizeOf21
  v21 := Tryd.zeroValue21
  t31 := Tryd.underlying40
  a31 := Tryd.isAgg40
  z31 := Tryd.sizeOf40
  v31 := Tryd.zeroValue40
  t40 := Tryd.underlying64
  a40 := Tryd.isAgg64
  z40 := Tryd.sizeOf64
  v40 := Tryd.zeroValue64
  t152 := Tryd.underlying68
  a152 := Tryd.isAgg68
  z152 := Tryd.sizeOf68
  v152 := Tryd.zeroValue68
  t154 := Tryd.underlying70
  a154 := Tryd.isAgg70
  z154 := Tryd.sizeOf70
  v154 := Tryd.zeroValue70 }
open Go.RowKit Go.Lib in
theorem Tryd.strings_FieldsFunc_runes (g : Nat) (lb : Array Value) (eg : ∀ args w, (callFunc g args).run Tryd.prog w = .ok (.enter g args) w) (p : Nat → Bool) (s : ByteArray) (w : World) (hs : s.size ≤ 4294967296) (hp : PredAtRunes Tryd.prog g lb p w) :
    Calls Tryd.prog 35 #[.string s, .func (.func g) #[] lb] w fun e w' => ∃ A, e = .returned (.slice (some ⟨A, 0, none⟩) (Lib.goFieldsP p s).length (Lib.goFieldsP p s).length) ∧ w.heap.size ≤ A ∧
      w'.ownsRow w.heap.size 9 1 (.slice (some ⟨A, 0, none⟩) (Lib.goFieldsP p s).length (Lib.goFieldsP p s).length) (Lib.goFieldsP p s).length ((Lib.goFieldsP p s).map Value.string) ∧ Below w.heap.size w w' := Any.strings_FieldsFunc_runes Tryd.lays229 g lb eg p s w hs hp (by kernel_rfl) (by kernel_rfl)
end Go.Proofs
namespace Go.Proofs.YtapnihkgalbddabDoor
open Go.ChangeShapes Go.WideShapes Go.ChangeAt Go.RowKit
set_option linter.unusedVariables false
set_option linter.unusedSimpArgs false

theorem trodAll_stay {H : Type} {enc : TypeId × Value → H} {P : Program} (hl : laidOutB P = true) {W W' : World} (hb : Below W.heap.size W W') :
    ∀ (ts : List TypeId) (vs : List Value) (ds : List (DataW H)) (ps : List MemPlace), ts.all (fun t => P.readableRec t && decide (t < P.types.size)) = true →
      DataW.TrodAll enc P W 0 (fun _ => true) true ts vs ds ps → (∀ x ∈ ps, x.block < W.heap.size) →
      DataW.TrodAll enc P W' 0 (fun b => decide (b < W.heap.size)) true ts vs ds ps := by
  intro ts
  induction ts with
  | nil => intro vs ds ps _ h _; obtain ⟨rfl, rfl, rfl⟩ := trodAll_nil h; exact rfl
  | cons t ts ih =>
    intro vs ds ps hr h hlt
    simp only [List.all_cons, Bool.and_eq_true, decide_eq_true_eq] at hr
    obtain ⟨v, vs', d, ds', p, q, rfl, rfl, rfl, h0, h1⟩ := trodAll_cons h
    exact ⟨p, q, Below.trod hl hr.1.1 hr.1.2 h0 hb (fun x hx => hlt x (by simp [hx])), ih _ _ _ hr.2 h1 (fun x hx => hlt x (by simp [hx])), rfl⟩

/-- Each variable's type is one that can be read. -/
def varsOk (P : Program) (ns : List String) : Bool := ns.all fun n => match P.globalNamed n with
  | some g => (match (P.globals[g]?).map (·.type) with | some t => P.readableRec t && decide (t < P.types.size) | none => true)
  | none => true

theorem trodVars_stay {H : Type} {enc : TypeId × Value → H} {P : Program} (hl : laidOutB P = true) {W W' : World} (hb : Below W.heap.size W W') :
    ∀ (ns : List String) (gs : List (DataW H)) (ps : List MemPlace), varsOk P ns = true → DataW.TrodVars enc P W (fun _ => true) ns gs ps → (∀ x ∈ ps, x.block < W.heap.size) →
      DataW.TrodVars enc P W' (fun b => decide (b < W.heap.size)) ns gs ps := by
  intro ns
  induction ns with
  | nil => intro gs ps _ h _; obtain ⟨rfl, rfl⟩ := trodVars_none h; exact rfl
  | cons n ns ih =>
    intro gs ps hv h hlt
    cases gs with
    | nil => exact h.elim
    | cons d gs =>
      obtain ⟨g, t, cs, fuel, p, q, hg, ht, hvar, hd, hr, rfl⟩ := h
      simp only [varsOk, List.all_cons, Bool.and_eq_true] at hv
      have hv1 := hv.1
      rw [hg] at hv1
      simp only [ht, Bool.and_eq_true, decide_eq_true_eq] at hv1
      have hgl : g < W.heap.size := by
        simp only [World.var?, hg, Option.bind_some] at hvar
        rcases Nat.lt_or_ge g W.heap.size with hlt | hge
        · exact hlt
        · rw [Array.getElem?_eq_none hge] at hvar; simp at hvar
      have h0 : DataW.Trod enc P W 0 (fun _ => true) true t (.agg cs) d p := ⟨fuel, by simpa [Value.cells] using hd⟩
      obtain ⟨fuel', hd'⟩ := Below.trod hl hv1.1 hv1.2 h0 hb (fun x hx => hlt x (by simp [hx]))
      refine ⟨g, t, cs, fuel', p, q, hg, ht, ?_, by simpa [Value.cells] using hd', ih _ _ hv.2 hr (fun x hx => hlt x (by simp [hx])), rfl⟩
      simp only [World.var?, hg, Option.bind_some] at hvar ⊢
      rw [hb.block g hgl]
      exact hvar

/-- A law's row at its end, the listed variables too: it returned true, and of what was there nothing has turned. -/
theorem law_postV {H : Type} {enc : TypeId × Value → H} {P : Program} {f : Func} {s : ChangeSpec} {W W' : World} {args : Array Value} {ds gs : List (DataW H)} {before : List MemPlace} {B : TypeId}
    (hl : laidOutB P = true) (hr : f.params.toList.all (fun t => P.readableRec t && decide (t < P.types.size)) = true) (hvs : varsOk P s.vars = true)
    (hres : f.resultTypes = #[B]) (hB : P.underlying B = some .bool)
    (hW : DataW.Whole enc P f.params.toList s.vars false W args.toList ds gs before)
    (hfn : s.fn H (ds ++ gs) = { results := [.lit (.bool true)], args := ds, vars := gs }) (hb : Below W.heap.size W W') :
    s.post enc P f false true false false W args (.bool true) W' := by
  have hlt : ∀ p ∈ before, p.block < W.heap.size := fun p hp => hW.lt p hp
  have hW' := hW
  obtain ⟨p, q, hA, hV, rfl, _, _⟩ := hW'
  refine ⟨ds, gs, p ++ q, [], p, q, hW, ?_, ?_, ?_, hb.frame _, fun h => by cases h⟩
  · rw [hfn, hres]
    exact trodAll_cons_mk (shut_bool hB _) trodAll_mk0
  · rw [hfn]
    exact trodAll_stay hl hb _ _ _ _ hr hA (fun x hx => hlt x (by simp [hx]))
  · rw [hfn]
    exact trodVars_stay hl hb _ _ _ hvs hV (fun x hx => hlt x (by simp [hx]))

theorem vars_one {H : Type} {enc : TypeId × Value → H} {P : Program} {W : World} {sp : Nat → Bool} {n : String} {gs : List (DataW H)} {q : List MemPlace} (h : DataW.TrodVars enc P W sp [n] gs q) : ∃ g1, gs = [g1] := by
  cases gs with
  | nil => exact h.elim
  | cons g gs =>
    obtain ⟨_, _, _, _, _, _, _, _, _, _, hr, _⟩ := h
    obtain ⟨rfl, _⟩ := trodVars_none hr
    exact ⟨_, rfl⟩

theorem kept_cell {W w1 : World} (hb : Below W.heap.size W w1) (b o : Nat) (h : b < W.heap.size) : w1.cell? ⟨b, o, none⟩ = W.cell? ⟨b, o, none⟩ := hb.cell (p := ⟨b, o, none⟩) h

theorem kept_frozen {W w1 : World} (hb : Below W.heap.size W w1) (b o : Nat) (h : b < W.heap.size) : w1.frozen? ⟨b, o, none⟩ = W.frozen? ⟨b, o, none⟩ := hb.frozen (p := ⟨b, o, none⟩) h

theorem kept {W w1 : World} (hb : Below W.heap.size W w1) :
    (∀ b o, b < W.heap.size → w1.cell? ⟨b, o, none⟩ = W.cell? ⟨b, o, none⟩) ∧ (∀ b o, b < W.heap.size → w1.frozen? ⟨b, o, none⟩ = W.frozen? ⟨b, o, none⟩) ∧ W.heap.size ≤ w1.heap.size :=
  ⟨kept_cell hb, kept_frozen hb, hb.size⟩

theorem kept_trans {a b c : World} (h : Below a.heap.size a b) (k : Below b.heap.size b c) : Below a.heap.size a c := h.trans (k.mono h.size)

theorem kept_drewN {B : Nat} {a w : World} (h : Below B a w) (n : Nat) : Below B a (w.drewN n) := { os := h.os, tape := h.tape, output := h.output, size := h.size, block := h.block }

theorem grown_step {a b c : World} {row : Option Nat} (h : a.grownBy b row) (k : b.grownBy c row) : a.grownBy c row :=
  ⟨k.os.trans h.os, k.tape.trans h.tape, k.output.trans h.output, Nat.le_trans h.size k.size, fun i hi hne => (k.block i (Nat.lt_of_lt_of_le hi h.size) hne).trans (h.block i hi hne)⟩

theorem grown_below {a b c : World} {row : Option Nat} (h : Below a.heap.size a b) (k : b.grownBy c row) (hr : ∀ g, row = some g → a.heap.size ≤ g) : Below a.heap.size a c := h.grown k h.size hr

def inB (n low high : Int) : Bool := decide (low ≤ n) && decide (n ≤ high)

theorem in_any (n low high : Int) (w : World) :
    Calls Tryd.prog 28 #[.int .i64 n, .int .i64 low, .int .i64 high] w fun e w' => e = .returned (.bool (inB n low high)) ∧ w = w' := by
  unfold inB
  by_cases h1 : low ≤ n <;> by_cases h2 : n ≤ high <;>
  · go_enter Tryd.func28, Tryd.ntmps28
    go_wp2
    go_ret
    exact ⟨by simp [*], rfl⟩

theorem inB_true {n a b : Int} (h : inB n a b = true) : a ≤ n ∧ n ≤ b := by simpa [inB] using h

theorem inB_false {n a b : Int} (h : inB n a b = false) : ¬ (a ≤ n ∧ n ≤ b) := by simpa [inB] using h

theorem own_kept {W w1 : World} {base : Nat} {e : TypeId} {size : Nat} {v : Value} {n : Nat} {xs : List Value} (h : W.ownsRow base e size v n xs) (hb : Below W.heap.size W w1) : w1.ownsRow base e size v n xs := by
  refine ⟨h.1, ?_⟩
  rcases h.2 with h2 | ⟨g, cap, cur, hv, hg, hh, r⟩
  · exact Or.inl h2
  · refine Or.inr ⟨g, cap, cur, hv, hg, ?_, r⟩
    rw [hb.block g (h.lt g (by rw [hv]; rfl)).2]
    exact hh

/-- What a marked list holds: k, k + 1, .. -/
def marks (k : Nat) : Nat → List Int
  | 0 => []
  | n + 1 => (k : Int) :: marks (k + 1) n

theorem marks_len (k n : Nat) : (marks k n).length = n := by
  induction n generalizing k with
  | zero => rfl
  | succ n ih => simp [marks, ih]

theorem marks_at (k n j : Nat) (h : j < n) : (marks k n)[j]? = some ((k + j : Nat) : Int) := by
  induction n generalizing k j with
  | zero => omega
  | succ n ih =>
    cases j with
    | zero => simp [marks]
    | succ j => simp only [marks, List.getElem?_cons_succ]; rw [ih (k + 1) j (by omega)]; congr 2; omega

theorem marks_set (k j : Nat) (l : List Int) (h : j < l.length) : (marks k j ++ l.drop j).set j ((k + j : Nat) : Int) = marks k (j + 1) ++ l.drop (j + 1) := by
  apply List.ext_getElem?
  intro i
  rw [List.getElem?_set]
  by_cases h1 : j = i
  · subst h1
    rw [if_pos rfl, if_pos (by simp [marks_len]; omega), List.getElem?_append_left (by rw [marks_len]; omega), marks_at _ _ _ (by omega)]
  · rw [if_neg h1]
    by_cases h2 : i < j
    · rw [List.getElem?_append_left (by rw [marks_len]; omega), List.getElem?_append_left (by rw [marks_len]; omega), marks_at _ _ _ h2, marks_at _ _ _ (by omega)]
    · rw [List.getElem?_append_right (by rw [marks_len]; omega), List.getElem?_append_right (by rw [marks_len]; omega), marks_len, marks_len, List.getElem?_drop, List.getElem?_drop]
      congr 1
      omega

def digitI (c : Int) : Bool := decide (48 ≤ c) && decide (c ≤ 57)

theorem digit_any (c : Int) (w : World) :
    Calls Tryd.prog 34 #[.int .u8 c] w fun e w' => e = .returned (.bool (digitI c)) ∧ w = w' := by
  unfold digitI
  rcases (show ¬ 48 ≤ c ∨ (48 ≤ c ∧ ¬ c ≤ 57) ∨ (48 ≤ c ∧ c ≤ 57) from by omega) with h1 | ⟨h1, h2⟩ | ⟨h1, h2⟩
  all_goals
    go_enter Tryd.func34, Tryd.ntmps34
    go_wp2
    go_ret
    exact ⟨by simp [*] <;> omega, rfl⟩

theorem flat_at {α : Type} {enc : α → List Value} {sz : Nat} (h : ∀ z, (enc z).length = sz) (zs : List α) (k j : Nat) (hk : k < zs.length) (hj : j < sz) : (zs.flatMap enc)[k * sz + j]? = (enc zs[k])[j]? := by
  induction zs generalizing k with
  | nil => simp at hk
  | cons z zs ih =>
    cases k with
    | zero => rw [List.flatMap_cons, List.getElem?_append_left (by rw [h]; omega)]; simp
    | succ k =>
      have e : (k + 1) * sz + j - (enc z).length = k * sz + j := by rw [h, Nat.add_mul]; omega
      rw [List.flatMap_cons, List.getElem?_append_right (by rw [h, Nat.add_mul]; omega), e, ih k (by simpa using hk)]
      simp

/-- The slice value reads as n elements of sz cells each, cell for cell. -/
def RdF (w : World) (v : Value) (n sz : Nat) (xs : List Value) : Prop :=
  n ≤ 9223372036854775807 ∧ xs.length = n * sz ∧ ∃ A c, v = .slice A n c ∧ ∀ i, i < n * sz → ∃ b off, A = some ⟨b, off, none⟩ ∧ b < w.heap.size ∧ w.cell? ⟨b, off + i, none⟩ = xs[i]?

/-- A row of elements of the call's own (type e, sz cells each), in a block from lo on and below hi. -/
def RowF (e sz : Nat) (w : World) (lo hi : Nat) (v : Value) (n : Nat) (xs : List Value) : Prop :=
  w.ownsRow lo e sz v n xs ∧ ∀ g, v.ownBlock = some g → lo ≤ g ∧ g < hi

theorem RowF_nil (e sz : Nat) (w : World) (lo hi : Nat) : RowF e sz w lo hi (.slice none 0 0) 0 [] := ⟨World.ownsRow_nil _ _ _ _, fun g h => by simp [Value.ownBlock] at h⟩

theorem RowF_form {e sz : Nat} {w : World} {lo hi : Nat} {v : Value} {n : Nat} {xs : List Value} (h : RowF e sz w lo hi v n xs) :
    (n = 0 ∧ xs = [] ∧ v = .slice none 0 0) ∨ ∃ g cap, v = .slice (some ⟨g, 0, none⟩) n cap ∧ lo ≤ g ∧ g < hi ∧ g < w.heap.size ∧ n ≤ cap ∧ cap ≤ maxLen := by
  rcases h.1.2 with ⟨h1, h2⟩ | ⟨g, cap, cur, rfl, hg, hh, h3, h4, _⟩
  · exact Or.inl ⟨h2, List.eq_nil_of_length_eq_zero (by rw [h.1.1, h2, Nat.zero_mul]), h1⟩
  · exact Or.inr ⟨g, cap, rfl, hg, (h.2 g rfl).2, (h.1.lt g rfl).2, h3, h4⟩

theorem RowF_rd {e sz : Nat} {w : World} {lo hi : Nat} {v : Value} {n : Nat} {xs : List Value} (h : RowF e sz w lo hi v n xs) : RdF w v n sz xs := by
  rcases RowF_form h with ⟨rfl, rfl, rfl⟩ | ⟨g, cap, rfl, _, _, hlt, h3, h4⟩
  · exact ⟨by simp, by simp, none, 0, rfl, fun k hk => by simp at hk⟩
  · unfold maxLen at h4
    refine ⟨by omega, h.1.1, some ⟨g, 0, none⟩, cap, rfl, fun k hk => ⟨g, 0, rfl, hlt, ?_⟩⟩
    rw [Nat.zero_add, h.1.cellAt k hk]

theorem RowF_kept {e sz : Nat} {W w1 : World} {lo hi : Nat} {v : Value} {n : Nat} {xs : List Value} (h : RowF e sz W lo hi v n xs) (hb : Below W.heap.size W w1) : RowF e sz w1 lo hi v n xs := ⟨own_kept h.1 hb, h.2⟩

theorem RowF_far {e sz : Nat} {W w1 : World} {lo hi : Nat} {v : Value} {n : Nat} {xs : List Value} {row : Option Nat} (h : RowF e sz W lo hi v n xs) (hg : W.grownBy w1 row) (hr : ∀ g, row = some g → g < lo ∨ hi ≤ g) : RowF e sz w1 lo hi v n xs := by
  refine ⟨h.1.kept hg ?_, h.2⟩
  rcases hv : v.ownBlock with _ | g
  · exact Or.inl rfl
  · refine Or.inr (fun e => ?_)
    have h1 := h.2 g hv
    have h2 := hr g e.symm
    omega

/-- A pair of numbers, cell by cell. -/
def encP (z : Int × Int) : List Value := [.int .i64 z.1, .int .i64 z.2]

def flatP (zs : List (Int × Int)) : List Value := zs.flatMap encP

theorem flatP_at (zs : List (Int × Int)) (k : Nat) (h : k < zs.length) : (flatP zs)[k * 2]? = some (.int .i64 zs[k].1) ∧ (flatP zs)[k * 2 + 1]? = some (.int .i64 zs[k].2) :=
  ⟨flat_at (enc := encP) (sz := 2) (fun _ => rfl) zs k 0 h (by omega), flat_at (enc := encP) (sz := 2) (fun _ => rfl) zs k 1 h (by omega)⟩

/-- The slice value reads as a list of pairs of numbers. -/
def RdP (w : World) (v : Value) (zs : List (Int × Int)) : Prop := RdF w v zs.length 2 (flatP zs)

theorem RdP_slice {w : World} {v : Value} {zs : List (Int × Int)} (h : RdP w v zs) : ∃ A c, v = .slice A zs.length c ∧ zs.length ≤ 9223372036854775807 ∧
    ∀ k, (hk : k < zs.length) → ∃ b off, A = some ⟨b, off, none⟩ ∧ b < w.heap.size ∧ w.cell? ⟨b, off + k * 2, none⟩ = some (.int .i64 zs[k].1) ∧ w.cell? ⟨b, off + k * 2 + 1, none⟩ = some (.int .i64 zs[k].2) := by
  obtain ⟨hl, hx, A, c, rfl, hr⟩ := h
  refine ⟨A, c, rfl, hl, fun k hk => ?_⟩
  obtain ⟨b, off, rfl, hlt, h0⟩ := hr (k * 2) (by omega)
  obtain ⟨b', off', e, _, h1⟩ := hr (k * 2 + 1) (by omega)
  simp only [Option.some.injEq, Addr.mk.injEq, and_true] at e
  obtain ⟨rfl, rfl⟩ := e
  rw [(flatP_at zs k hk).1] at h0
  rw [(flatP_at zs k hk).2, ← Nat.add_assoc] at h1
  exact ⟨b, off, rfl, hlt, h0, h1⟩

theorem eqStep_same (x y : Int) (w : World) :
    Calls Tryd.prog 27 #[.agg #[.int .i64 x, .int .i64 y], .agg #[.int .i64 x, .int .i64 y]] w fun e w' => e = .returned (.bool true) ∧ Below w.heap.size w w' := by
  go_enter Tryd.func27, Tryd.ntmps27
  go_wp2
  go_ret
  exact ⟨rfl, by go_grown⟩

theorem info_step : (Tryd.prog.info? 36).map (fun i => (i.zero, i.size, i.bytes)) = some (some (.agg #[.int .i64 0, .int .i64 0]), 2, 16) := by kernel_rfl

theorem eqC_same (v1 v2 : Value) (zs : List (Int × Int)) (w : World) (h1 : RdP w v1 zs) (h2 : RdP w v2 zs) :
    Calls Tryd.prog 12 #[v1, v2] w fun e w' => e = .returned (.bool true) ∧ Below w.heap.size w w' := by
  obtain ⟨A, c, rfl, hl, r1⟩ := RdP_slice h1
  obtain ⟨A2, c2, rfl, _, r2⟩ := RdP_slice h2
  clear h1 h2
  have R1 := Lib.hid r1; clear r1
  have R2 := Lib.hid r2; clear r2
  go_enter Tryd.func12, Tryd.ntmps12
  go_wp2_with fail
  go_loopw [5] (fun i wr => ∃ k : Nat, k ≤ zs.length ∧ i = .int .i64 k ∧ Below w.heap.size w wr) (fun i _ => zs.length - (intOf i).toNat)
  case atStart => exact ⟨0, by omega, rfl, Below.refl _ _⟩
  case round =>
    obtain ⟨k, hk, rfl, hb⟩ := hrel
    by_cases hlt : k < zs.length
    · obtain ⟨b, off, rfl, hbl, hc0, hc1⟩ := R1.out k hlt
      obtain ⟨b2, off2, rfl, hbl2, hd0, hd1⟩ := R2.out k hlt
      rw [← kept_cell hb b _ hbl] at hc0 hc1
      rw [← kept_cell hb b2 _ hbl2] at hd0 hd1
      generalize zs[k].1 = x at *
      generalize zs[k].2 = y at *
      have hsz := hb.size
      have hbl' := Nat.lt_of_lt_of_le hbl hsz
      have hbl2' := Nat.lt_of_lt_of_le hbl2 hsz
      go_wp2_with fail
      go_region_held3 (fun w' => w'.cell? ⟨b, off + k * 2, none⟩ = some (.int .i64 x) ∧ w'.cell? ⟨b, off + k * 2 + 1, none⟩ = some (.int .i64 y) ∧ w'.cell? ⟨b2, off2 + k * 2, none⟩ = some (.int .i64 x) ∧ w'.cell? ⟨b2, off2 + k * 2 + 1, none⟩ = some (.int .i64 y)) (go_keep)
        ((go_at_call 27; refine (eqStep_same _ _ _).mono ?_; rintro e w1 ⟨rfl, hb1⟩; replace hb1 := kept_trans (a := wr) (by go_grown) hb1; have hcl := kept_cell hb1))
      go_wp2
      go_roundw
      case rel => exact ⟨k + 1, by omega, by go_num, kept_trans hb (by assumption)⟩
      case measure => simp [intOf]; omega
    · have : k = zs.length := by omega
      subst this
      go_wp2
      go_ret
      exact ⟨rfl, hb⟩

theorem fill_step {α : Type} (T : List α) (z : α) (j : Nat) (h : j < T.length) : (T.take j ++ List.replicate (T.length - j) z).set j T[j] = T.take (j + 1) ++ List.replicate (T.length - (j + 1)) z := by
  obtain ⟨m, hm⟩ : ∃ m, T.length - j = m + 1 := ⟨T.length - j - 1, by omega⟩
  rw [hm, show T.length - (j + 1) = m by omega, List.replicate_succ, List.set_append, if_neg (by simp; omega), List.length_take, Nat.min_eq_left (by omega), Nat.sub_self, List.set_cons_zero, ← List.take_append_getElem h, List.append_assoc]
  rfl

/-- The numbers of a list of pairs, one after the other. -/
def flatI (zs : List (Int × Int)) : List Int := zs.flatMap fun z => [z.1, z.2]

theorem flatI_len (zs : List (Int × Int)) : (flatI zs).length = zs.length * 2 := by
  induction zs with
  | nil => rfl
  | cons z zs ih =>
    have : flatI (z :: zs) = z.1 :: z.2 :: flatI zs := by simp [flatI]
    rw [this, List.length_cons, List.length_cons, ih, List.length_cons]
    omega

theorem flatI_eq (zs : List (Int × Int)) : flatP zs = (flatI zs).map (Value.int .i64) := by
  induction zs with
  | nil => rfl
  | cons z zs ih =>
    have h1 : flatI (z :: zs) = z.1 :: z.2 :: flatI zs := by simp [flatI]
    have h2 : flatP (z :: zs) = .int .i64 z.1 :: .int .i64 z.2 :: flatP zs := by simp [flatP, encP]
    rw [h1, h2, ih]
    rfl

theorem markC_any (v : Value) (zs : List (Int × Int)) (lo hi k0 : Nat) (w : World) (h : RowF 36 2 w lo hi v zs.length (flatP zs)) (hk0 : k0 ≤ 10000000) (hn : zs.length ≤ 4000000) :
    Calls Tryd.prog 13 #[v, .int .i64 k0] w fun e w' => e = .returned (.int .i64 ((k0 + zs.length * 2 : Nat) : Int)) ∧ RowF 36 2 w' lo hi v zs.length ((marks k0 (zs.length * 2)).map (Value.int .i64)) ∧ w.grownBy w' v.ownBlock := by
  rcases RowF_form h with ⟨hz, hx, rfl⟩ | ⟨g, cap, rfl, _, _, hlt, _, _⟩
  · have hzs := List.eq_nil_of_length_eq_zero hz
    subst hzs
    go_enter Tryd.func13, Tryd.ntmps13
    go_wp2_with fail
    refine wp_loop_rounds 1 ?_
    rw [rounds_succ]
    go_wp2
    go_ret
    exact ⟨rfl, RowF_nil _ _ _ _ _, World.grownBy.refl _ _⟩
  · have hfl := flatI_eq zs
    have hfn := flatI_len zs
    rw [hfl] at h
    generalize flatI zs = F at *
    generalize hN : zs.length = N at *
    have HN := Lib.hid hN; clear hN
    have HFN := Lib.hid hfn; clear hfn hfl
    have H := Lib.hid h; clear h
    go_enter Tryd.func13, Tryd.ntmps13
    go_wp2_with fail
    go_loopw [1, 5] (fun q i wr => ∃ j : Nat, j ≤ N ∧ i = .int .i64 j ∧ q = .int .i64 ((k0 + j * 2 : Nat) : Int) ∧ wr.ownsRow lo 36 2 (.slice (some ⟨g, 0, none⟩) N cap) N ((marks k0 (j * 2) ++ F.drop (j * 2)).map (Value.int .i64)) ∧ w.grownBy wr (some g)) (fun _ i _ => N - (intOf i).toNat)
    case atStart => exact ⟨0, by omega, rfl, by simp, by have := H.out.1; simpa [marks] using this, World.grownBy.refl _ _⟩
    case round =>
      obtain ⟨j, hj, rfl, rfl, hown, hg⟩ := hrel
      by_cases hlt : j < N
      · have hlen : ((marks k0 (j * 2) ++ F.drop (j * 2)).map (Value.int .i64)).length = N * 2 := hown.1
        obtain ⟨u0, hu0⟩ : ∃ u, wr.cell? ⟨g, j * 2, none⟩ = some u := by
          rw [hown.cellAt _ (by omega)]
          exact ⟨_, List.getElem?_eq_getElem (by omega)⟩
        obtain ⟨u1, hu1⟩ : ∃ u, wr.cell? ⟨g, j * 2 + 1, none⟩ = some u := by
          rw [hown.cellAt _ (by omega)]
          exact ⟨_, List.getElem?_eq_getElem (by omega)⟩
        have hz0 := hown.frozenAt (j * 2)
        have hz1 := hown.frozenAt (j * 2 + 1)
        have hs0 := hown.stored (j * 2) (.int .i64 ((k0 + j * 2 : Nat) : Int))
        rw [← List.map_set, marks_set _ _ _ (by rw [HFN.out]; omega)] at hs0
        have hs1 := hs0.1.stored (j * 2 + 1) (.int .i64 ((k0 + (j * 2 + 1) : Nat) : Int))
        rw [← List.map_set, marks_set _ _ _ (by rw [HFN.out]; omega)] at hs1
        have Hs := Lib.hid hs1.1
        have Hg := Lib.hid (grown_step hs0.2 hs1.2)
        clear hs0 hs1 hlen
        have Hown := Lib.hid hown; clear hown
        go_wp2
        go_roundw
        case rel =>
          refine ⟨j + 1, by omega, by go_num, by go_num, ?_, ?_⟩
          · have := Hs.out
            rw [show (j + 1) * 2 = j * 2 + 1 + 1 by omega]
            simpa [Int.add_assoc] using this
          · have := grown_step hg Hg.out
            simpa [Int.add_assoc] using this
        case measure => simp [intOf]; omega
      · have : j = N := by omega
        subst this
        go_wp2
        go_ret
        refine ⟨rfl, ⟨?_, fun x hx => H.out.2 x hx⟩, hg⟩
        have hd : F.drop (j * 2) = [] := List.drop_eq_nil_of_le (by rw [HFN.out]; omega)
        rw [hd, List.append_nil] at hown
        exact hown

theorem heldC_same (v : Value) (n k0 : Nat) (w : World) (h : RdF w v n 2 ((marks k0 (n * 2)).map (Value.int .i64))) (hk0 : k0 ≤ 10000000) (hn : n ≤ 4000000) :
    Calls Tryd.prog 14 #[v, .int .i64 k0] w fun e w' => e = .returned (.int .i64 ((k0 + n * 2 : Nat) : Int)) ∧ w = w' := by
  obtain ⟨_, _, A, c, rfl, r1⟩ := h
  have R1 := Lib.hid r1; clear r1
  go_enter Tryd.func14, Tryd.ntmps14
  go_wp2_with fail
  go_loop [1, 5] (fun q i => ∃ j : Nat, j ≤ n ∧ i = .int .i64 j ∧ q = .int .i64 ((k0 + j * 2 : Nat) : Int)) (fun _ i => n - (intOf i).toNat)
  case atStart => exact ⟨0, by omega, rfl, by simp⟩
  case round =>
    obtain ⟨j, hj, rfl, rfl⟩ := hrel
    by_cases hlt : j < n
    · obtain ⟨b, off, rfl, hbl, hc0⟩ := R1.out (j * 2) (by omega)
      obtain ⟨b', off', e', _, hc1⟩ := R1.out (j * 2 + 1) (by omega)
      simp only [Option.some.injEq, Addr.mk.injEq, and_true] at e'
      obtain ⟨rfl, rfl⟩ := e'
      rw [List.getElem?_map, marks_at _ _ _ (by omega), Option.map_some] at hc0 hc1
      rw [← Nat.add_assoc] at hc1
      go_wp2
      go_round
      case rel => exact ⟨j + 1, by omega, by go_num, by go_num⟩
      case measure => simp [intOf]; omega
    · have : j = n := by omega
      subst this
      go_wp2
      go_ret
      exact ⟨rfl, rfl⟩

/-- The step i of a list is in order. -/
def OkAt (zs : List (Int × Int)) (i : Nat) (h : i < zs.length) : Prop :=
  (1 ≤ zs[i].1 ∧ zs[i].1 ≤ 1000 ∧ 0 ≤ zs[i].2 ∧ zs[i].2 ≤ 50000) ∧ (0 < i → zs[i - 1].1 < zs[i].1 ∧ zs[i].2 ≤ zs[i - 1].2)

def OkAll (zs : List (Int × Int)) (n : Nat) : Prop := ∀ i, (h : i < zs.length) → i < n → OkAt zs i h

theorem OkAll_step {zs : List (Int × Int)} {n : Nat} (h : OkAll zs n) (hn : n < zs.length) (h1 : OkAt zs n hn) : OkAll zs (n + 1) := by
  intro i hi hlt
  rcases Nat.lt_or_ge i n with h2 | h2
  · exact h i hi h2
  · obtain rfl : i = n := by omega
    exact h1

/-- The list is a load chart. -/
def ChartP (zs : List (Int × Int)) : Prop := OkAll zs zs.length ∧ 1 ≤ zs.length ∧ zs.length ≤ 20

open Classical in
/-- .. as a bool. -/
noncomputable def chartB (zs : List (Int × Int)) : Bool := decide (ChartP zs)

theorem chartB_true {zs : List (Int × Int)} (h : ChartP zs) : chartB zs = true := by simp [chartB, h]

theorem chartB_false {zs : List (Int × Int)} (h : ¬ ChartP zs) : chartB zs = false := by simp [chartB, h]

theorem chartB_iff {zs : List (Int × Int)} : chartB zs = true ↔ ChartP zs := by simp [chartB]

theorem specChart_any (v : Value) (zs : List (Int × Int)) (w : World) (h : RdP w v zs) :
    Calls Tryd.prog 15 #[v] w fun e w' => e = .returned (.bool (chartB zs)) ∧ Below w.heap.size w w' := by
  obtain ⟨A, c, rfl, hl, r1⟩ := RdP_slice h
  clear h
  have R := Lib.hid r1; clear r1
  go_enter Tryd.func15, Tryd.ntmps15
  go_wp2_with fail
  go_loopw [3] (fun i wr => ∃ k : Nat, k ≤ zs.length ∧ i = .int .i64 k ∧ OkAll zs k ∧ Below w.heap.size w wr) (fun i _ => zs.length - (intOf i).toNat)
  case atStart => exact ⟨0, by omega, rfl, fun i _ h => by omega, Below.refl _ _⟩
  case round =>
    obtain ⟨k, hk, rfl, hall, hb⟩ := hrel
    by_cases hlt : k < zs.length
    · obtain ⟨b, off, rfl, hbl, hc0, hc1⟩ := R.out k hlt
      rw [← kept_cell hb b _ hbl] at hc0 hc1
      have hbad : ¬ OkAt zs k hlt → chartB zs = false := fun hn => chartB_false fun hc => hn (hc.1 k hlt hlt)
      have hgood : OkAt zs k hlt → OkAll zs (k + 1) := OkAll_step hall hlt
      unfold OkAt at hbad hgood
      generalize hx : zs[k].1 = x at *
      generalize hy : zs[k].2 = y at *
      have Hall := Lib.hid hall; clear hall
      have Hbad := Lib.hid hbad; clear hbad
      have Hgood := Lib.hid hgood; clear hgood
      cases i1 : inB x 1 1000
      · go_wp2_with (go_at_call 28; refine (in_any _ _ _ _).mono ?_; rintro e w1 ⟨rfl, rfl⟩)
        go_ret
        exact ⟨by rw [Hbad.out (fun h => inB_false i1 ⟨h.1.1, h.1.2.1⟩)]; rfl, hb⟩
      · have j1 := inB_true i1
        cases i2 : inB y 0 50000
        · go_wp2_with (go_at_call 28; refine (in_any _ _ _ _).mono ?_; rintro e w1 ⟨rfl, rfl⟩)
          go_ret
          exact ⟨by rw [Hbad.out (fun h => inB_false i2 ⟨h.1.2.2.1, h.1.2.2.2⟩)]; rfl, hb⟩
        · have j2 := inB_true i2
          by_cases h0 : k = 0
          · subst h0
            simp only [Nat.zero_mul, Nat.add_zero] at hc0 hc1
            go_wp2_with (go_at_call 28; refine (in_any _ _ _ _).mono ?_; rintro e w1 ⟨rfl, rfl⟩)
            go_quiet (fail)
            go_wp2
            go_roundw
            case rel => exact ⟨1, by omega, by go_num, Hgood.out ⟨by omega, fun h => by omega⟩, kept_drewN hb _⟩
            case measure => simp [intOf]; omega
          · obtain ⟨m, hm⟩ : ∃ m, k - 1 = m := ⟨k - 1, rfl⟩
            have hkm : (k : Int) - 1 = (m : Int) := by omega
            have hkd : decide (0 < k) = true := by simp; omega
            obtain ⟨b', off', e', _, hd0, hd1⟩ := R.out m (by omega)
            simp only [Option.some.injEq, Addr.mk.injEq, and_true] at e'
            obtain ⟨rfl, rfl⟩ := e'
            rw [← kept_cell hb b _ hbl] at hd0 hd1
            simp only [hm] at Hbad Hgood
            generalize zs[m].1 = x' at *
            generalize zs[m].2 = y' at *
            by_cases h1 : x ≤ x'
            · go_wp2_with (go_at_call 28; refine (in_any _ _ _ _).mono ?_; rintro e w1 ⟨rfl, rfl⟩)
              go_quiet (fail)
              go_wp2
              go_ret
              exact ⟨by rw [Hbad.out (fun h => by omega)]; rfl, kept_drewN hb _⟩
            · have hd1 : decide (x ≤ x') = false := by simp; omega
              by_cases h2 : y' < y
              · go_wp2_with (go_at_call 28; refine (in_any _ _ _ _).mono ?_; rintro e w1 ⟨rfl, rfl⟩)
                go_quiet (fail)
                go_wp2
                go_ret
                exact ⟨by rw [Hbad.out (fun h => by omega)]; rfl, kept_drewN hb _⟩
              · go_wp2_with (go_at_call 28; refine (in_any _ _ _ _).mono ?_; rintro e w1 ⟨rfl, rfl⟩)
                go_quiet (fail)
                go_wp2
                go_roundw
                case rel => exact ⟨k + 1, by omega, by go_num, Hgood.out ⟨by omega, fun h => by omega⟩, kept_drewN hb _⟩
                case measure => simp [intOf]; omega
    · have : k = zs.length := by omega
      subst this
      have E : inB (zs.length : Int) 1 20 = chartB zs := by
        by_cases hc : 1 ≤ zs.length ∧ zs.length ≤ 20
        · rw [chartB_true ⟨hall, hc⟩]
          simp [inB]
          omega
        · rw [chartB_false fun h => hc h.2]
          simp only [inB]
          simp
          omega
      go_wp2_with (go_at_call 28; refine (in_any _ _ _ _).mono ?_; rintro e w1 ⟨rfl, rfl⟩)
      go_ret
      exact ⟨rfl, hb⟩

/-- The step before the step k; ahead of the first one, what no step can fail. -/
def prevP (zs : List (Int × Int)) : Nat → Int × Int
  | 0 => (0, 50000)
  | m + 1 => zs.getD m (0, 50000)

theorem prevP_succ (zs : List (Int × Int)) (k : Nat) (h : k < zs.length) : prevP zs (k + 1) = zs[k] := by simp [prevP, h]

theorem OkAt_prev {zs : List (Int × Int)} {k : Nat} (hall : OkAll zs k) (h : k < zs.length) :
    OkAt zs k h ↔ (prevP zs k).1 < zs[k].1 ∧ zs[k].1 ≤ 1000 ∧ 0 ≤ zs[k].2 ∧ zs[k].2 ≤ (prevP zs k).2 := by
  cases k with
  | zero => simp only [OkAt, prevP]; omega
  | succ m =>
    have h1 := hall m (by omega) (by omega)
    rw [prevP_succ zs m (by omega)]
    simp only [OkAt, Nat.add_sub_cancel] at h1 ⊢
    omega

theorem implChart_any (v : Value) (zs : List (Int × Int)) (w : World) (h : RdP w v zs) :
    Calls Tryd.prog 20 #[v] w fun e w' => e = .returned (.bool (chartB zs)) ∧ Below w.heap.size w w' := by
  obtain ⟨A, c, rfl, hl, r1⟩ := RdP_slice h
  clear h
  have R := Lib.hid r1; clear r1
  by_cases g1 : zs.length < 1
  · have hc : chartB zs = false := chartB_false fun h => by have := h.2; omega
    rw [hc]
    go_enter Tryd.func20, Tryd.ntmps20
    go_wp2
    go_ret
    exact ⟨rfl, Below.refl _ _⟩
  by_cases g2 : 20 < zs.length
  · have hc : chartB zs = false := chartB_false fun h => by have := h.2; omega
    rw [hc]
    go_enter Tryd.func20, Tryd.ntmps20
    go_wp2
    go_ret
    exact ⟨rfl, Below.refl _ _⟩
  go_enter Tryd.func20, Tryd.ntmps20
  go_wp2_with fail
  go_loopw [17] (fun i wr => ∃ k : Nat, k ≤ zs.length ∧ i = .int .i64 k ∧ OkAll zs k ∧ Below w.heap.size w wr ∧ w.heap.size < wr.heap.size ∧ wr.cell? ⟨w.heap.size, 0, none⟩ = some (.int .i64 (prevP zs k).1) ∧ wr.cell? ⟨w.heap.size, 1, none⟩ = some (.int .i64 (prevP zs k).2) ∧ wr.frozen? ⟨w.heap.size, 0, none⟩ = false ∧ wr.frozen? ⟨w.heap.size, 1, none⟩ = false) (fun i _ => zs.length - (intOf i).toNat)
  case atStart => exact ⟨0, by omega, rfl, fun i _ h => by omega, by go_grown, by simp, by simp [prevP], by simp [prevP], by simp, by simp⟩
  case round =>
    obtain ⟨k, hk, rfl, hall, hb, hlw, hp0, hp1, hz0, hz1⟩ := hrel
    by_cases hlt : k < zs.length
    · obtain ⟨b, off, rfl, hbl, hc0, hc1⟩ := R.out k hlt
      rw [← kept_cell hb b _ hbl] at hc0 hc1
      have hiff := OkAt_prev hall hlt
      have hbad : ¬ OkAt zs k hlt → chartB zs = false := fun hn => chartB_false fun hc => hn (hc.1 k hlt hlt)
      have hgood : OkAt zs k hlt → OkAll zs (k + 1) := OkAll_step hall hlt
      have hnext := prevP_succ zs k hlt
      rw [hiff] at hbad hgood
      clear hiff
      rw [show zs[k] = (zs[k].1, zs[k].2) from rfl] at hnext
      generalize zs[k].1 = x at *
      generalize zs[k].2 = y at *
      generalize (prevP zs k).1 = x' at *
      generalize (prevP zs k).2 = y' at *
      have Hall := Lib.hid hall; clear hall
      have Hbad := Lib.hid hbad; clear hbad
      have Hgood := Lib.hid hgood; clear hgood
      have Hnext := Lib.hid hnext; clear hnext
      by_cases h1 : x ≤ x'
      · go_wp2
        go_ret
        exact ⟨by rw [Hbad.out (fun h => by omega)]; rfl, by go_grown⟩
      · have hd1 : decide (x ≤ x') = false := by simp; omega
        by_cases h2 : 1000 < x
        · go_wp2
          go_ret
          exact ⟨by rw [Hbad.out (fun h => by omega)]; rfl, by go_grown⟩
        · by_cases h3 : y < 0
          · go_wp2
            go_ret
            exact ⟨by rw [Hbad.out (fun h => by omega)]; rfl, by go_grown⟩
          · by_cases h4 : y' < y
            · go_wp2
              go_ret
              exact ⟨by rw [Hbad.out (fun h => by omega)]; rfl, by go_grown⟩
            · go_wp2
              go_roundw
              case rel => exact ⟨k + 1, by omega, by go_num, Hgood.out (by omega), by go_grown, by simp; omega, by rw [Hnext.out]; simp [World.cell?_alloc_past, World.cell?_setCell_same', World.cell?_setCell_other, hlw, hp0, hp1], by rw [Hnext.out]; simp [World.cell?_alloc_past, World.cell?_setCell_same', World.cell?_setCell_other, hlw, hp0, hp1], by simp [World.frozen?_alloc_past, hlw, hz0], by simp [World.frozen?_alloc_past, hlw, hz1]⟩
              case measure => simp [intOf]; omega
    · have : k = zs.length := by omega
      subst this
      go_wp2
      go_ret
      exact ⟨by rw [chartB_true ⟨hall, by omega, by omega⟩]; rfl, hb⟩

/-- The step k. -/
def atP (zs : List (Int × Int)) (k : Nat) : Int × Int := zs.getD k (0, 0)

theorem atP_is (zs : List (Int × Int)) (k : Nat) (h : k < zs.length) : atP zs k = zs[k] := by simp [atP, h]

theorem rd_at {w : World} {A : Option Addr} {n c : Nat} {zs : List (Int × Int)} (h : RdP w (.slice A n c) zs) (k : Nat) (hk : k < zs.length) :
    n = zs.length ∧ ∃ b off, A = some ⟨b, off, none⟩ ∧ b < w.heap.size ∧ w.cell? ⟨b, off + k * 2, none⟩ = some (.int .i64 (atP zs k).1) ∧ w.cell? ⟨b, off + k * 2 + 1, none⟩ = some (.int .i64 (atP zs k).2) := by
  obtain ⟨A', c', e, hl, r1⟩ := RdP_slice h
  obtain ⟨b, off, rfl, hb, h0, h1⟩ := r1 k hk
  simp only [Value.slice.injEq] at e
  refine ⟨e.2.1, b, off, e.1, hb, ?_, ?_⟩
  · rw [atP_is zs k hk]; exact h0
  · rw [atP_is zs k hk]; exact h1

theorem flatP_snoc (zs : List (Int × Int)) (p q : Int) : flatP zs ++ [.int .i64 p, .int .i64 q] = flatP (zs ++ [(p, q)]) := by simp [flatP, encP]

theorem map_step {α β : Type} (F : α → β) (zs : List α) (z : β) (j : Nat) (h : j < zs.length) : ((zs.map F).take j ++ List.replicate (zs.length - j) z).set j (F zs[j]) = (zs.map F).take (j + 1) ++ List.replicate (zs.length - (j + 1)) z := by
  have := fill_step (zs.map F) z j (by simpa using h)
  simp only [List.length_map, List.getElem_map] at this
  exact this

/-- The digits of a number, none of 0. -/
def dd (u : Nat) : List UInt8 := if u = 0 then [] else Lib.decDigits u

theorem dd_step (u : Nat) (h : u ≠ 0) : dd u = dd (u / 10) ++ [UInt8.ofNat (48 + u % 10)] := by
  unfold dd
  rw [if_neg h, Lib.decDigits]
  by_cases h1 : u < 10
  · rw [dif_pos h1, if_pos (by omega), Nat.mod_eq_of_lt h1]
    rfl
  · rw [dif_neg h1, if_neg (by omega)]

/-- A byte's cell. -/
def byteV (b : UInt8) : Value := .int .u8 (b.toNat : Int)

theorem info_byte : (Tryd.prog.info? 5).map (fun i => (i.zero, i.size, i.bytes)) = some (some (.int .u8 0), 1, 1) := by kernel_rfl

theorem dd_len (m : Nat) (h : m ≤ 9223372036854775808) : (dd m).length ≤ 20 := by
  unfold dd
  split
  · simp
  · rw [Lib.decDigits_length]
    exact Lib.nDigits_le20 m (by omega)

theorem row_news {w : World} {lo g cap : Nat} {bs : List UInt8} (h : w.ownsRow lo 5 1 (.slice (some ⟨g, 0, none⟩) bs.length cap) bs.length (bs.map byteV)) : ∀ j u, (bs.map byteV)[j]? = some u → w.cell? ((⟨g, 0, none⟩ : Addr).add j) = some u :=
  World.ownsRow.cells h rfl

theorem row_string {w : World} {lo g cap : Nat} {bs : List UInt8} (h : w.ownsRow lo 5 1 (.slice (some ⟨g, 0, none⟩) bs.length cap) bs.length (bs.map byteV)) :
    (convert 53 9 (.slice (some ⟨g, 0, none⟩) bs.length cap)).run Tryd.prog w = .ok (.string ⟨bs.toArray⟩) w :=
  run_convert_bytes_back (P := Tryd.prog) w 53 9 5 ⟨g, 0, none⟩ cap bs Tryd.underlying53 Tryd.underlying5 Tryd.underlying9 (fun j hj => row_news h j _ (by simp [hj, byteV]))

theorem byte_one (bs : List UInt8) : ∀ u ∈ bs.map byteV, u.oneCell' = true := by
  intro u hu
  obtain ⟨b, _, rfl⟩ := List.mem_map.1 hu
  rfl

/-- The loop of digits: what is left of m, and what is written. -/
def DecR (m : Nat) (w wr : World) (o : Value) (u : Nat) : Prop :=
  ∃ (bs : List UInt8) (g cap : Nat), dd m = dd u ++ bs ∧ o = .slice (some ⟨g, 0, none⟩) bs.length cap ∧ wr.ownsRow w.heap.size 5 1 o bs.length (bs.map byteV) ∧ Below w.heap.size w wr ∧ w.heap.size < wr.heap.size

set_option maxRecDepth 100000 in
theorem specDec_pos (m : Nat) (hm : m ≤ 9223372036854775807) (w : World) :
    Calls Tryd.prog 29 #[.int .i64 (m : Int)] w fun e w' => e = .returned (.string ⟨(Lib.itoa (m : Int)).toArray⟩) ∧ Below w.heap.size w w' := by
  obtain ⟨i0, hi, hz0, hz1, hz2⟩ := info_parts info_byte
  have hdl := dd_len m (by omega)
  have hF : Lib.itoa (m : Int) = Lib.decDigits m := by unfold Lib.itoa; rw [if_neg (by omega)]; simp
  rw [hF]
  clear hF
  have HR := Lib.hid (rfl : Lib.decDigits m = Lib.decDigits m)
  have hgen : ∃ F, Lib.decDigits m = F ∧ (m = 0 → F = [48]) ∧ (m ≠ 0 → F = dd m) := ⟨_, rfl, fun h => by rw [h, Lib.decDigits, dif_pos (by omega)]; rfl, fun h => by rw [dd, if_neg h]⟩
  obtain ⟨F, hF, hF0, hF1⟩ := hgen
  rw [hF]
  clear hF HR
  have HF0 := Lib.hid hF0; clear hF0
  have HF1 := Lib.hid hF1; clear hF1
  go_enter Tryd.func29, Tryd.ntmps29
  go_wp2_with fail
  go_loopw [3, 4] (fun o k wr => ∃ u : Nat, u ≤ m ∧ k = .int .i64 (u : Int) ∧ DecR m w wr o u) (fun _ k _ => (intOf k).toNat)
  case atStart => exact ⟨m, Nat.le_refl _, rfl, [], w.heap.size, 0, by simp, rfl, by simpa using World.ownsRow_lit w (e := 5) (size := 1) #[] 0 (Nat.le_refl _) (by decide) (by rfl), by go_grown, by simp⟩
  case round =>
    obtain ⟨u, hu, rfl, bs, g, cap, hdd, rfl, hown, hb, hlw⟩ := hrel
    by_cases h0 : u = 0
    · subst h0
      have hbs : dd m = bs := by simpa [dd] using hdd
      have hcv := row_string hown
      by_cases hm0 : m = 0
      · have hl0 : bs = [] := by rw [← hbs, hm0]; rfl
        subst hl0
        have HO := Lib.hid hown; clear hown
        go_wp2
        go_ret
        exact ⟨by rw [HF0.out hm0]; rfl, hb⟩
      · have hne : ((bs.length : Int) == 0) = false := by
          have : bs ≠ [] := by
            rw [← hbs, dd_step m hm0]
            simp
          have := List.length_pos_iff.2 this
          simp
          omega
        have HO := Lib.hid hown; clear hown
        have HB := Lib.hid hbs; clear hbs hdd
        go_wp2
        go_ret
        exact ⟨by rw [HF1.out hm0, HB.out]; rfl, hb⟩
    · have hst := dd_step u h0
      rw [hst, List.append_assoc] at hdd
      have hlen : bs.length ≤ 20 := by
        have := congrArg List.length hdd
        simp at this
        omega
      have hmod : (u : Int).tmod 10 = ((u % 10 : Nat) : Int) := by rw [Int.tmod_eq_emod_of_nonneg (by omega)]; omega
      have hdiv : (u : Int).tdiv 10 = ((u / 10 : Nat) : Int) := by rw [Int.tdiv_eq_ediv_of_nonneg (by omega)]; omega
      have hd10 : u % 10 < 10 := Nat.mod_lt _ (by omega)
      have hbyte : byteV (UInt8.ofNat (48 + u % 10)) = .int .u8 ((48 : Int) + ((u % 10 : Nat) : Int)) := by
        simp only [byteV]
        rw [UInt8.toNat_ofNat_of_lt' (by have : UInt8.size = 256 := rfl; omega)]
        push_cast
        rfl
      have hsz := hb.size
      have hlt10 : u / 10 < u := Nat.div_lt_self (by omega) (by omega)
      have HD := Lib.hid hdd; clear hdd hst
      have HBY := Lib.hid hbyte; clear hbyte
      generalize u / 10 = q at *
      generalize u % 10 = d at *
      have hw8 : IntKind.u8.wrap ((48 : Int) + (d : Int)) = 48 + (d : Int) := IntWalk.u8_in _ (by omega)
      have HO := Lib.hid hown; clear hown
      have hlit := World.ownsRow_lit wr (base := w.heap.size) (e := 5) (size := 1) #[.int .u8 ((48 : Int) + (d : Int))] 1 hsz (by decide) (by rfl)
      have HL := Lib.hid hlit; clear hlit
      have hone := byte_one bs
      have HONE := Lib.hid hone; clear hone
      go_wp2_with (at_builtin; refine wpList_append_own _ rfl (.tmp 21) (.tmp 22) _ rfl w.heap.size 5 i0 (.int .u8 0) 1 1 Tryd.underlying53 hi hz0 hz1 hz2 rfl (by decide) (.slice (some ⟨wr.heap.size, 0, none⟩) 1 1) 1 [.int .u8 ((48 : Int) + (d : Int))] rfl HL.out ⟨g, 0, none⟩ bs.length cap (bs.map byteV) rfl (by simp) (row_news (HO.out.alloc _)) HONE.out (by unfold maxLen; omega) (by omega) (by simp; omega) ?_; intro v2 w2 hown2 hg2 _)
      go_roundw
      case rel =>
        have hrow2 : RowF 5 1 w2 w.heap.size w2.heap.size v2 (1 + bs.length) ([.int .u8 ((48 : Int) + (d : Int))] ++ bs.map byteV) := ⟨hown2, hown2.lt⟩
        have hb2 : Below w.heap.size w w2 := grown_below (kept_trans hb (by go_grown)) hg2 (fun x hx => by simp [Value.ownBlock] at hx; omega)
        rcases RowF_form hrow2 with ⟨hz, _⟩ | ⟨g2, cap2, hv, _, _, hlt2, _, _⟩
        · omega
        · refine ⟨q, by omega, by go_num, UInt8.ofNat (48 + d) :: bs, g2, cap2, by simpa using HD.out, by rw [hv, List.length_cons, Nat.add_comm], ?_, hb2, ?_⟩
          · rw [List.map_cons, HBY.out, List.length_cons, Nat.add_comm bs.length 1]
            exact hown2
          · have := hg2.size
            simp at this
            omega
      case measure => simp [intOf]; omega

set_option maxRecDepth 100000 in
theorem specDec_neg (m : Nat) (h1m : 1 ≤ m) (hm : m ≤ 9223372036854775808) (w : World) :
    Calls Tryd.prog 29 #[.int .i64 (-(m : Int))] w fun e w' => e = .returned (.string ⟨(Lib.itoa (-(m : Int))).toArray⟩) ∧ Below w.heap.size w w' := by
  obtain ⟨i0, hi, hz0, hz1, hz2⟩ := info_parts info_byte
  have hdl := dd_len m (by omega)
  have hF : Lib.itoa (-(m : Int)) = 45 :: dd m := by unfold Lib.itoa dd; rw [if_pos (by omega), if_neg (by omega)]; simp
  rw [hF]
  clear hF
  go_enter Tryd.func29, Tryd.ntmps29
  go_wp2_with fail
  go_loopw [3, 4] (fun o k wr => ∃ u : Nat, u ≤ m ∧ k = .int .i64 (-(u : Int)) ∧ DecR m w wr o u) (fun _ k _ => (-(intOf k)).toNat)
  case atStart => exact ⟨m, Nat.le_refl _, rfl, [], w.heap.size, 0, by simp, rfl, by simpa using World.ownsRow_lit w (e := 5) (size := 1) #[] 0 (Nat.le_refl _) (by decide) (by rfl), by go_grown, by simp⟩
  case round =>
    obtain ⟨u, hu, rfl, bs, g, cap, hdd, rfl, hown, hb, hlw⟩ := hrel
    by_cases h0 : u = 0
    · subst h0
      have hbs : dd m = bs := by simpa [dd] using hdd
      have hcv := row_string hown
      have hne : ((bs.length : Int) == 0) = false := by
        have : bs ≠ [] := by
          rw [← hbs, dd_step m (by omega)]
          simp
        have := List.length_pos_iff.2 this
        simp
        omega
      have hcat : (ByteArray.mk #[45]) ++ (ByteArray.mk bs.toArray) = ByteArray.mk (45 :: bs).toArray := by
        apply ByteArray.ext
        simp [ByteArray.data_append]
      have hbl : bs.length ≤ 20 := by rw [← hbs]; exact hdl
      have HO := Lib.hid hown; clear hown
      have HB := Lib.hid hbs; clear hbs hdd
      go_wp2
      go_ret
      exact ⟨by rw [HB.out]; rfl, hb⟩
    · have hst := dd_step u h0
      rw [hst, List.append_assoc] at hdd
      have hlen : bs.length ≤ 20 := by
        have := congrArg List.length hdd
        simp at this
        omega
      have hmod : (-(u : Int)).tmod 10 = -((u % 10 : Nat) : Int) := by rw [Int.neg_tmod, Int.tmod_eq_emod_of_nonneg (by omega)]; omega
      have hdiv : (-(u : Int)).tdiv 10 = -((u / 10 : Nat) : Int) := by rw [Int.neg_tdiv, Int.tdiv_eq_ediv_of_nonneg (by omega)]; omega
      have hd10 : u % 10 < 10 := Nat.mod_lt _ (by omega)
      have hbyte : byteV (UInt8.ofNat (48 + u % 10)) = .int .u8 ((48 : Int) + ((u % 10 : Nat) : Int)) := by
        simp only [byteV]
        rw [UInt8.toNat_ofNat_of_lt' (by have : UInt8.size = 256 := rfl; omega)]
        push_cast
        rfl
      have hsz := hb.size
      have hlt10 : u / 10 < u := Nat.div_lt_self (by omega) (by omega)
      have HD := Lib.hid hdd; clear hdd hst
      have HBY := Lib.hid hbyte; clear hbyte
      generalize u / 10 = q at *
      generalize u % 10 = d at *
      have hw8 : IntKind.u8.wrap ((48 : Int) + (d : Int)) = 48 + (d : Int) := IntWalk.u8_in _ (by omega)
      have HO := Lib.hid hown; clear hown
      have hlit := World.ownsRow_lit wr (base := w.heap.size) (e := 5) (size := 1) #[.int .u8 ((48 : Int) + (d : Int))] 1 hsz (by decide) (by rfl)
      have HL := Lib.hid hlit; clear hlit
      have hone := byte_one bs
      have HONE := Lib.hid hone; clear hone
      by_cases hd0 : d = 0
      · subst hd0
        go_wp2_with (at_builtin; refine wpList_append_own _ rfl (.tmp 21) (.tmp 22) _ rfl w.heap.size 5 i0 (.int .u8 0) 1 1 Tryd.underlying53 hi hz0 hz1 hz2 rfl (by decide) (.slice (some ⟨wr.heap.size, 0, none⟩) 1 1) 1 [.int .u8 48] rfl HL.out ⟨g, 0, none⟩ bs.length cap (bs.map byteV) rfl (by simp) (row_news (HO.out.alloc _)) HONE.out (by unfold maxLen; omega) (by omega) (by simp; omega) ?_; intro v2 w2 hown2 hg2 _)
        go_roundw
        case rel =>
          have hrow2 : RowF 5 1 w2 w.heap.size w2.heap.size v2 (1 + bs.length) ([.int .u8 48] ++ bs.map byteV) := ⟨hown2, hown2.lt⟩
          have hb2 : Below w.heap.size w w2 := grown_below (kept_trans hb (by go_grown)) hg2 (fun x hx => by simp [Value.ownBlock] at hx; omega)
          rcases RowF_form hrow2 with ⟨hz, _⟩ | ⟨g2, cap2, hv, _, _, hlt2, _, _⟩
          · omega
          · refine ⟨q, by omega, by go_num, UInt8.ofNat 48 :: bs, g2, cap2, by simpa using HD.out, by rw [hv, List.length_cons, Nat.add_comm], ?_, hb2, ?_⟩
            · rw [List.map_cons, show byteV (UInt8.ofNat 48) = .int .u8 48 from rfl, List.length_cons, Nat.add_comm bs.length 1]
              exact hown2
            · have := hg2.size
              simp at this
              omega
        case measure => simp [intOf]; omega
      · have hdn : decide (-(d : Int) < 0) = true := by simp; omega
        go_wp2_with (at_builtin; refine wpList_append_own _ rfl (.tmp 21) (.tmp 22) _ rfl w.heap.size 5 i0 (.int .u8 0) 1 1 Tryd.underlying53 hi hz0 hz1 hz2 rfl (by decide) (.slice (some ⟨wr.heap.size, 0, none⟩) 1 1) 1 [.int .u8 ((48 : Int) + (d : Int))] rfl HL.out ⟨g, 0, none⟩ bs.length cap (bs.map byteV) rfl (by simp) (row_news (HO.out.alloc _)) HONE.out (by unfold maxLen; omega) (by omega) (by simp; omega) ?_; intro v2 w2 hown2 hg2 _)
        go_roundw
        case rel =>
          have hrow2 : RowF 5 1 w2 w.heap.size w2.heap.size v2 (1 + bs.length) ([.int .u8 ((48 : Int) + (d : Int))] ++ bs.map byteV) := ⟨hown2, hown2.lt⟩
          have hb2 : Below w.heap.size w w2 := grown_below (kept_trans hb (by go_grown)) hg2 (fun x hx => by simp [Value.ownBlock] at hx; omega)
          rcases RowF_form hrow2 with ⟨hz, _⟩ | ⟨g2, cap2, hv, _, _, hlt2, _, _⟩
          · omega
          · refine ⟨q, by omega, by go_num, UInt8.ofNat (48 + d) :: bs, g2, cap2, by simpa using HD.out, by rw [hv, List.length_cons, Nat.add_comm], ?_, hb2, ?_⟩
            · rw [List.map_cons, HBY.out, List.length_cons, Nat.add_comm bs.length 1]
              exact hown2
            · have := hg2.size
              simp at this
              omega
        case measure => simp [intOf]; omega

theorem specDec_any (n : Int) (h : -9223372036854775808 ≤ n ∧ n ≤ 9223372036854775807) (w : World) :
    Calls Tryd.prog 29 #[.int .i64 n] w fun e w' => e = .returned (.string ⟨(Lib.itoa n).toArray⟩) ∧ Below w.heap.size w w' := by
  rcases Int.lt_or_le n 0 with h0 | h0
  · obtain ⟨m, rfl⟩ : ∃ m : Nat, n = -(m : Int) := ⟨n.natAbs, by omega⟩
    exact specDec_neg m (by omega) (by omega) w
  · obtain ⟨m, rfl⟩ : ∃ m : Nat, n = (m : Int) := ⟨n.toNat, by omega⟩
    exact specDec_pos m (by omega) w

/-- New blocks behind the heap alone. -/
theorem below_ext {w w1 : World} (os : Array Obj) (h1 : w1.heap = w.heap ++ os) (h2 : w1.os = w.os) (h3 : w1.tape = w.tape) (h4 : w1.output = w.output) : Below w.heap.size w w1 where
  os := h2
  tape := h3
  output := h4
  size := by rw [h1]; simp
  block := fun i hi => by rw [h1]; simp [Array.getElem?_append, hi]

/-- The table of the powers of ten. -/
def PowTab (w : World) : Prop := Lib.TabIs Tryd.prog w "internal/strconv.uint64pow10" .u64 Lib.pow10Tab

theorem tab_kept {W w1 : World} {name : String} {k : IntKind} {zs : List Int} (h : Lib.TabIs Tryd.prog W name k zs) (hb : Below W.heap.size W w1) : Lib.TabIs Tryd.prog w1 name k zs := by
  unfold Lib.TabIs World.var? at *
  cases hg : (Tryd.prog).globalNamed name with
  | none => simp [hg] at h
  | some g =>
    simp only [hg, Option.bind_some] at h ⊢
    rcases Nat.lt_or_ge g W.heap.size with hlt | hge
    · rw [hb.block g hlt]
      exact h
    · rw [Array.getElem?_eq_none hge] at h
      simp at h

theorem tabIs_of_reads {P : Program} {W : World} {name : String} {k : IntKind} {zs : List Int} {g : Nat} {t e : TypeId} {n : Nat}
    (hg : P.globalNamed name = some g) (hty : (P.globals[g]?).map (·.type) = some t) (ht : P.underlying t = some (.array n e)) (he : P.underlying e = some (.int k)) (hce : P.cellsOf e = 1) (hct : P.cellsOf t = n)
    (h : Lib.VarReads P W name (Lib.tabData k zs)) : Lib.TabIs P W name k zs := by
  obtain ⟨g', t', cs, fuel, p, hg', ht', hvar, hd⟩ := h
  obtain rfl := Option.some.inj (hg.symm.trans hg')
  obtain rfl := Option.some.inj (hty.symm.trans ht')
  unfold Lib.TabIs
  rw [hvar, ← Lib.cells_of_tab ht he hce hct hd]

theorem powTab_of {W : World} (h : Lib.VarReads Tryd.prog W "internal/strconv.uint64pow10" Rows.laid_internal_strconv_uint64pow10) : PowTab W :=
  tabIs_of_reads (g := 0) (t := 87) (e := 76) (n := 20) (by kernel_rfl) (by kernel_rfl) Tryd.underlying87 Tryd.underlying76 (by kernel_rfl) (by kernel_rfl) h

theorem implDecimal_any (n : Int) (h : -9223372036854775808 ≤ n ∧ n ≤ 9223372036854775807) (w : World) (ht : PowTab w) :
    Calls Tryd.prog 21 #[.int .i64 n] w fun e w' => e = .returned (.string ⟨(Lib.itoa n).toArray⟩) ∧ Below w.heap.size w w' := by
  have H := Lib.hid (Tryd.strconv_FormatInt_10 n h.1 h.2 w ht)
  generalize Lib.itoa n = F at *
  go_enter Tryd.func21, Tryd.ntmps21
  go_wp2_with fail
  refine H.out.mono ?_
  rintro e w1 ⟨rfl, k, os, hw⟩
  have hb : Below w.heap.size w w1 := below_ext os (by rw [hw]; rfl) (by rw [hw]; rfl) (by rw [hw]; rfl) (by rw [hw]; rfl)
  clear hw
  go_wp2
  go_ret
  exact ⟨rfl, hb⟩

/-- A byte is a digit. -/
def digB (c : UInt8) : Bool := decide (48 ≤ c.toNat) && decide (c.toNat ≤ 57)

/-- What digits spell behind a number. -/
def valB (l : List UInt8) (a : Nat) : Nat := l.foldl (fun a c => a * 10 + (c.toNat - 48)) a

theorem digits_ok (u : Nat) : (Lib.decDigits u).all digB = true ∧ valB (Lib.decDigits u) 0 = u ∧ 1 ≤ (Lib.decDigits u).length ∧ (Lib.decDigits u).head? ≠ some 45 := by
  induction u using Nat.strongRecOn with
  | _ u ih =>
    rw [Lib.decDigits]
    have hb : ∀ d : Nat, d < 10 → (UInt8.ofNat (48 + d)).toNat = 48 + d := fun d hd => UInt8.toNat_ofNat_of_lt' (by have : UInt8.size = 256 := rfl; omega)
    by_cases h1 : u < 10
    · rw [dif_pos h1]
      have := hb u h1
      refine ⟨by simp [digB, this]; omega, by simp only [valB, List.foldl_cons, List.foldl_nil, this]; omega, by simp, ?_⟩
      intro he
      simp only [List.head?_cons, Option.some.injEq] at he
      rw [he] at this
      have e45 : (45 : UInt8).toNat = 45 := rfl
      omega
    · rw [dif_neg h1]
      obtain ⟨i1, i2, i3, i4⟩ := ih (u / 10) (by omega)
      have := hb (u % 10) (by omega)
      refine ⟨?_, ?_, by simp, ?_⟩
      · rw [List.all_append, i1]
        simp [digB, this]
        omega
      · simp only [valB, List.foldl_append, List.foldl_cons, List.foldl_nil, this] at i2 ⊢
        rw [i2]
        omega
      · rw [List.head?_append]
        cases hd : Lib.decDigits (u / 10) with
        | nil => rw [hd] at i3; simp at i3
        | cons c r => rw [hd] at i4; simpa using i4

theorem parse_ok (l : List UInt8) : ∀ (acc k : Nat), l.all digB = true → acc < 10 ^ k → k + l.length ≤ 18 → Lib.parseUintM (2 ^ 64 - 1) acc l = .ok (valB l acc) ∧ valB l acc < 10 ^ (k + l.length) := by
  induction l with
  | nil => intro acc k _ ha _; exact ⟨rfl, by simpa [valB] using ha⟩
  | cons c r ih =>
    intro acc k hall ha hk
    simp only [List.all_cons, Bool.and_eq_true, digB, decide_eq_true_eq] at hall
    simp only [List.length_cons] at hk ⊢
    have hp : (10 : Nat) ^ (k + 1) = 10 ^ k * 10 := Nat.pow_succ ..
    have hnext : acc * 10 + (c.toNat - 48) < 10 ^ (k + 1) := by omega
    have hle : (10 : Nat) ^ (k + 1) ≤ 10 ^ 18 := Nat.pow_le_pow_right (by omega) (by omega)
    have h18 : (10 : Nat) ^ 18 = 1000000000000000000 := by decide
    obtain ⟨j1, j2⟩ := ih (acc * 10 + (c.toNat - 48)) (k + 1) (by simpa [digB] using hall.2) hnext (by omega)
    rw [Lib.parseUintM, if_pos hall.1, if_neg (by omega), if_neg (by omega)]
    refine ⟨by rw [j1]; rfl, ?_⟩
    have : k + (r.length + 1) = k + 1 + r.length := by omega
    rw [this]
    exact j2

/-- What stands behind the sign. -/
def readT (l : List UInt8) : List UInt8 := if l.head? = some 45 then l.tail else l

def readN (l : List UInt8) : Int := if l.head? = some 45 then -(valB (readT l) 0 : Int) else (valB (readT l) 0 : Int)

def ReadP (l : List UInt8) : Prop := 1 ≤ (readT l).length ∧ (readT l).length ≤ 18 ∧ (readT l).all digB = true ∧ Lib.itoa (readN l) = l

open Classical in
/-- The number with this decimal form, and whether there is one. -/
noncomputable def readL (l : List UInt8) : Int × Bool := if ReadP l then (readN l, true) else (0, false)

theorem parse_int (l : List UInt8) (h1 : 1 ≤ (readT l).length) (h2 : (readT l).length ≤ 18) (h3 : (readT l).all digB = true) : Lib.parseIntB 64 l = .ok (readN l) := by
  obtain ⟨j1, j2⟩ := parse_ok (readT l) 0 0 h3 (by simp) (by omega)
  have hle : (10 : Nat) ^ (0 + (readT l).length) ≤ 10 ^ 18 := Nat.pow_le_pow_right (by omega) (by omega)
  have h18 : (10 : Nat) ^ 18 = 1000000000000000000 := by decide
  have hne : readT l ≠ [] := fun h => by rw [h] at h1; simp at h1
  have hu : Lib.parseUintB 64 (readT l) = .ok (valB (readT l) 0) := by rw [Lib.parseUintB, if_neg hne, j1]
  cases l with
  | nil => simp [readT] at h1
  | cons c r =>
    by_cases hc : c = 45
    · subst hc
      have ht : readT (45 :: r) = r := by simp [readT]
      have hn : readN (45 :: r) = -(valB r 0 : Int) := by simp [readN, ht]
      rw [ht] at hu j2 hle
      rw [hn, Lib.parseIntB]
      simp only [show (45 : UInt8).toNat = 45 from rfl, or_true, if_true, hu, not_true_eq_false, false_and, if_false, true_and]
      rw [if_neg (by omega)]
    · have ht : readT (c :: r) = c :: r := by simp [readT, hc]
      have hn : readN (c :: r) = (valB (c :: r) 0 : Int) := by simp [readN, ht, hc]
      rw [ht] at hu j2 hle h3
      simp only [List.all_cons, Bool.and_eq_true, digB, decide_eq_true_eq] at h3
      have h45 : ¬ c.toNat = 45 := by omega
      have h43 : ¬ c.toNat = 43 := by omega
      rw [hn, Lib.parseIntB]
      simp only [h45, h43, or_self, if_false, hu, not_false_eq_true, true_and, false_and]
      rw [if_neg (by omega)]

theorem itoa_read (v : Int) (l : List UInt8) (h : Lib.itoa v = l) : 1 ≤ (readT l).length ∧ (readT l).all digB = true ∧ readN l = v := by
  subst h
  unfold Lib.itoa
  by_cases h0 : v < 0
  · obtain ⟨i1, i2, i3, i4⟩ := digits_ok v.natAbs
    rw [if_pos h0]
    have ht : readT (45 :: Lib.decDigits v.natAbs) = Lib.decDigits v.natAbs := by simp [readT]
    refine ⟨by rw [ht]; exact i3, by rw [ht]; exact i1, ?_⟩
    rw [readN, ht, if_pos (by simp), i2]
    omega
  · obtain ⟨i1, i2, i3, i4⟩ := digits_ok v.toNat
    rw [if_neg h0]
    have ht : readT (Lib.decDigits v.toNat) = Lib.decDigits v.toNat := by simp [readT, i4]
    refine ⟨by rw [ht]; exact i3, by rw [ht]; exact i1, ?_⟩
    rw [readN, ht, if_neg i4, i2]
    omega

theorem readL_yes {l : List UInt8} {v : Int} (h : Lib.itoa v = l) (ht : (readT l).length ≤ 18) : readL l = (v, true) := by
  obtain ⟨h1, h2, h3⟩ := itoa_read v l h
  rw [readL, if_pos ⟨h1, ht, h2, by rw [h3]; exact h⟩, h3]

theorem readL_no {l : List UInt8} (h : ¬ ReadP l) : readL l = (0, false) := by rw [readL, if_neg h]

theorem trim_is (l : List UInt8) : Lib.trimPrefix l [45] = readT l := by
  cases l with
  | nil => rfl
  | cons c r =>
    by_cases hc : c = 45
    · subst hc
      simp [Lib.trimPrefix, Lib.hasPrefix, readT]
    · have : ¬ (45 : UInt8) = c := fun h => hc h.symm
      simp [Lib.trimPrefix, Lib.hasPrefix, readT, hc, this]

theorem parse_bd {l : List UInt8} {v : Int} (h : Lib.parseIntB 64 l = .ok v) : -9223372036854775808 ≤ v ∧ v ≤ 9223372036854775807 := by
  cases l with
  | nil => simp [Lib.parseIntB] at h
  | cons c r =>
    simp only [Lib.parseIntB] at h
    split at h
    · cases h
    · cases h
    · split at h
      · cases h
      · split at h
        · cases h
        · next u _ h1 h2 =>
          injection h with h
          split at h <;> omega

/-- The variable holds an error. -/
def ErrVar (w : World) (g : Nat) : Prop := g < w.heap.size ∧ ∃ te pe, w.cell? ⟨g, 0, none⟩ = some (.iface te pe)

theorem ErrVar_kept {W w1 : World} {g : Nat} (h : ErrVar W g) (hb : Below W.heap.size W w1) : ErrVar w1 g := by
  obtain ⟨hg, te, pe, hc⟩ := h
  exact ⟨Nat.lt_of_lt_of_le hg hb.size, te, pe, by rw [kept_cell hb g 0 hg]; exact hc⟩

theorem errVar_of {P : Program} {W : World} {name s : String} {d : DataW Unit} {g t : Nat} {ms : Array (String × TypeId)} (hg : P.globalNamed name = some g) (hty : (P.globals[g]?).map (·.type) = some t) (ht : P.underlying t = some (.interface ms)) (hct : P.cellsOf t = 1)
    (h : Lib.VarReads P W name (.iface s d)) : ErrVar W g := by
  obtain ⟨g', t', cs, fuel, p, hg', ht', hvar, hd⟩ := h
  obtain rfl := Option.some.inj (hg.symm.trans hg')
  obtain rfl := Option.some.inj (hty.symm.trans ht')
  have hlt : g < W.heap.size := by
    simp only [World.var?, hg, Option.bind_some] at hvar
    rcases Nat.lt_or_ge g W.heap.size with hlt | hge
    · exact hlt
    · rw [Array.getElem?_eq_none hge] at hvar; simp at hvar
  refine ⟨hlt, ?_⟩
  have hcell := World.var?_cell hg hvar 0
  cases fuel with
  | zero => simp [DataW.trod] at hd
  | succ fuel =>
    cases hl : cs.toList with
    | nil => simp [DataW.trod, ht, hl] at hd
    | cons v r =>
      cases r with
      | cons _ _ => simp [DataW.trod, ht, hl] at hd
      | nil =>
        cases v <;> simp [DataW.trod, ht, hl] at hd
        next te pe =>
          refine ⟨te, pe, ?_⟩
          rw [hcell, ← Array.getElem?_toList, hl]
          rfl

theorem parse64_any (s : ByteArray) (hs : s.size ≤ 1000000) (w : World) (h1 : ErrVar w 2) (h2 : ErrVar w 3) :
    Calls Tryd.prog 44 #[.string s, .int .i64 10, .int .i64 64] w fun e w' => ((∃ v, Lib.parseIntB 64 s.data.toList = .ok v ∧ e = .returned (.tuple #[.int .i64 v, .nilIface])) ∨ ((∀ v, Lib.parseIntB 64 s.data.toList ≠ .ok v) ∧ ∃ x t p, e = .returned (.tuple #[.int .i64 x, .iface t p]))) ∧ Below w.heap.size w w' := by
  obtain ⟨_, te1, pe1, c1⟩ := h1
  obtain ⟨_, te2, pe2, c2⟩ := h2
  rcases hp : Lib.parseIntB 64 s.data.toList with v | _ | _
  · refine (Any.strconv_ParseInt_10_at64_ok Tryd.laysC174 s (by omega) v hp w).mono ?_
    rintro e w' ⟨rfl, hw⟩
    refine ⟨Or.inl ⟨v, rfl, rfl⟩, ?_⟩
    rcases hw with rfl | ⟨t, rfl⟩
    · exact Below.refl _ _
    · exact Joins.below_bytesWorld _ _ _ _ (Nat.le_refl _)
  · refine (Any.strconv_ParseInt_10_at64_syntax Tryd.laysC174 s (by omega) hp _ w c1 (Or.inr ⟨_, _, rfl⟩)).mono ?_
    rintro e w' ⟨N, rfl, _, _, hb⟩
    exact ⟨Or.inr ⟨fun v => by simp, _, _, _, rfl⟩, hb⟩
  · refine (Any.strconv_ParseInt_10_at64_range Tryd.laysC174 s (by omega) hp _ w c2 (Or.inr ⟨_, _, rfl⟩)).mono ?_
    rintro e w' ⟨N, rfl, _, _, hb⟩
    exact ⟨Or.inr ⟨fun v => by simp, _, _, _, rfl⟩, hb⟩

/-- What reading and writing numbers wants of the world. -/
def TextW (w : World) : Prop := PowTab w ∧ ErrVar w 2 ∧ ErrVar w 3

theorem TextW_kept {W w1 : World} (h : TextW W) (hb : Below W.heap.size W w1) : TextW w1 := ⟨tab_kept h.1 hb, ErrVar_kept h.2.1 hb, ErrVar_kept h.2.2 hb⟩

theorem str_ne {a b : ByteArray} (h : ¬ a = b) : (a.toList == b.toList) = false := by
  rw [ByteArray.toList_eq, ByteArray.toList_eq, beq_eq_false_iff_ne]
  intro he
  apply h
  cases a
  cases b
  simpa [Array.toList_inj] using he

set_option maxRecDepth 100000 in
theorem implReadDec_any (s : ByteArray) (hs : s.size ≤ 1000000) (w : World) (ht : TextW w) :
    Calls Tryd.prog 38 #[.string s] w fun e w' => e = .returned (.tuple #[.int .i64 (readL s.data.toList).1, .bool (readL s.data.toList).2]) ∧ Below w.heap.size w w' := by
  have HT := Lib.hid (Tryd.strings_TrimPrefix s ⟨#[45]⟩ w)
  rw [show (ByteArray.mk #[45]).data.toList = [45] from rfl, trim_is] at HT
  have hsl : s.data.toList.length = s.size := Array.length_toList
  by_cases h18 : (readT s.data.toList).length ≤ 18
  · have HP := Lib.hid (parse64_any s hs w ht.2.1 ht.2.2)
    have hsz : (ByteArray.mk (readT s.data.toList).toArray).size = (readT s.data.toList).length := by simp [ByteArray.size]
    generalize hT : ByteArray.mk (readT s.data.toList).toArray = T at *
    have hTs : T.size ≤ 18 := by omega
    clear hsz
    have hdec : decide ((18 : Int) < (T.size : Int)) = false := by simp; omega
    have HW := Lib.hid ht; clear ht
    have H18 := Lib.hid h18; clear h18
    have HTT := Lib.hid hT; clear hT
    go_enter Tryd.func38, Tryd.ntmps38
    go_wp2_with fail
    refine HT.out.mono ?_
    rintro e w1 ⟨rfl, rfl⟩
    go_wp2_with fail
    refine HP.out.mono ?_
    rintro e w2 ⟨(⟨v, hp, rfl⟩ | ⟨hno, x, t, p, rfl⟩), hb⟩
    · have hvb := parse_bd hp
      have HD := Lib.hid (implDecimal_any v hvb w2 (tab_kept HW.out.1 hb))
      by_cases he : Lib.itoa v = s.data.toList
      · have hL := readL_yes he H18.out
        rw [he] at HD
        have hss : ByteArray.mk s.data.toList.toArray = s := by cases s; simp
        rw [hss] at HD
        have HL := Lib.hid hL; clear hL he hp
        go_wp2_with fail
        refine HD.out.mono ?_
        rintro e w3 ⟨rfl, hb3⟩
        go_wp2
        go_ret2
        exact ⟨by rw [HL.out]; rfl, kept_trans hb hb3⟩
      · have hL : readL s.data.toList = (0, false) := readL_no (fun h => by
          have h2 := parse_int _ h.1 h.2.1 h.2.2.1
          rw [hp] at h2
          injection h2 with h2
          rw [h2] at he
          exact he h.2.2.2)
        have hne : ¬ ByteArray.mk (Lib.itoa v).toArray = s := fun h => he (by rw [← h])
        generalize ByteArray.mk (Lib.itoa v).toArray = G at *
        have hne1 := str_ne hne
        have HL := Lib.hid hL; clear hL he hp
        go_wp2_with fail
        refine HD.out.mono ?_
        rintro e w3 ⟨rfl, hb3⟩
        go_wp2
        go_ret2
        exact ⟨by rw [HL.out]; rfl, kept_trans hb hb3⟩
    · have hL : readL s.data.toList = (0, false) := readL_no (fun h => hno _ (parse_int _ h.1 h.2.1 h.2.2.1))
      have HL := Lib.hid hL; clear hL
      have HN := Lib.hid hno; clear hno
      go_wp2
      go_ret2
      exact ⟨by rw [HL.out]; rfl, hb⟩
  · have hL : readL s.data.toList = (0, false) := readL_no (fun h => h18 h.2.1)
    have hsz : (ByteArray.mk (readT s.data.toList).toArray).size = (readT s.data.toList).length := by simp [ByteArray.size]
    generalize hT : ByteArray.mk (readT s.data.toList).toArray = T at *
    have hTs : 18 < T.size := by omega
    clear hsz h18 hT ht
    have HL := Lib.hid hL; clear hL
    go_enter Tryd.func38, Tryd.ntmps38
    go_wp2_with fail
    refine HT.out.mono ?_
    rintro e w1 ⟨rfl, rfl⟩
    go_wp2
    go_ret2
    exact ⟨by rw [HL.out]; rfl, Below.refl _ _⟩

theorem valB_take (l : List UInt8) (k : Nat) (h : k < l.length) : valB (l.take (k + 1)) 0 = valB (l.take k) 0 * 10 + (l[k].toNat - 48) := by
  rw [← List.take_append_getElem h, valB, valB, List.foldl_append]
  rfl

theorem num_bd {l : List UInt8} {k : Nat} (h : (l.take k).all digB = true) (hk : k ≤ 18) : valB (l.take k) 0 < 10 ^ k := by
  have hlen : (l.take k).length ≤ k := by rw [List.length_take]; omega
  have h1 := (parse_ok (l.take k) 0 0 h (by simp) (by omega)).2
  exact Nat.lt_of_lt_of_le h1 (Nat.pow_le_pow_right (by omega) (by omega))

theorem digI_B (c : UInt8) : digitI (c.toNat : Nat) = digB c := by
  simp only [digitI, digB]
  congr 1
  · by_cases h : 48 ≤ c.toNat
    · simp [h]; omega
    · simp [h]; omega
  · by_cases h : c.toNat ≤ 57
    · simp [h]; omega
    · simp [h]; omega

set_option maxRecDepth 100000 in
set_option maxHeartbeats 1600000 in
theorem specNum_any (s : ByteArray) (hs : s.size ≤ 1000000) (w : World) :
    Calls Tryd.prog 24 #[.string s] w fun e w' => e = .returned (.tuple #[.int .i64 (readL s.data.toList).1, .bool (readL s.data.toList).2]) ∧ Below w.heap.size w w' := by
  have hsl : s.data.toList.length = s.size := Array.length_toList
  by_cases h0 : s.size = 0
  · have hl0 : s.data.toList = [] := List.eq_nil_of_length_eq_zero (by omega)
    have hL : readL s.data.toList = (0, false) := readL_no (fun h => by have := h.1; rw [hl0] at this; simp [readT] at this)
    have HL := Lib.hid hL; clear hL
    have hs0 : s = ByteArray.empty := by cases s with | mk d => simp [ByteArray.size] at h0; subst h0; rfl
    generalize hF : readL s.data.toList = F at *
    clear hF hl0 hsl
    subst hs0
    go_enter Tryd.func24, Tryd.ntmps24
    go_wp2
    go_ret2
    exact ⟨by rw [HL.out]; rfl, Below.refl _ _⟩
  · have hne : s.toList.isEmpty = false := by
      rw [ByteArray.toList_eq]
      cases hl : s.data.toList with
      | nil => rw [hl] at hsl; simp at hsl; omega
      | cons a l => rfl
    have h0' : 0 < s.size := by omega
    have hhead : s.data.toList.head? = some (s[0]'h0') := by
      cases hl : s.data.toList with
      | nil => rw [hl] at hsl; simp at hsl; omega
      | cons a l =>
        have : s.data.toList[0]'(by omega) = s[0]'h0' := by simp [ByteArray.getElem_eq_getElem_data]
        simp only [hl, List.getElem_cons_zero] at this
        simp [this]
    by_cases hc : s[0]'h0' = 45
    · have hcn : (((s[0]'h0').toNat : Nat) : Int) = 45 := by rw [hc]; rfl
      have hrt : readT s.data.toList = s.data.toList.tail := by rw [readT, hhead, hc, if_pos rfl]
      have hrn : readN s.data.toList = -(valB (readT s.data.toList) 0 : Int) := by rw [readN, hhead, hc, if_pos rfl]
      have hext : (s.extract 1 s.size).data.toList = s.data.toList.tail := by
        rw [ByteArray.data_extract, Array.toList_extract, List.extract, List.take_of_length_le (by rw [List.length_drop]; omega), List.drop_one]
      have hlt : (readT s.data.toList).length = s.size - 1 := by rw [hrt, List.length_tail]; omega
      by_cases h1 : s.size - 1 < 1
      · have hL : readL s.data.toList = (0, false) := readL_no (fun h => by have := h.1; omega)
        have HL := Lib.hid hL; clear hL hrt hrn hext hlt hhead
        go_enter Tryd.func24, Tryd.ntmps24
        go_wp2
        go_ret2
        exact ⟨by rw [HL.out]; rfl, Below.refl _ _⟩
      · by_cases h2 : 18 < s.size - 1
        · have hL : readL s.data.toList = (0, false) := readL_no (fun h => by have := h.2.1; omega)
          have HL := Lib.hid hL; clear hL hrt hrn hext hlt hhead
          go_enter Tryd.func24, Tryd.ntmps24
          go_wp2
          go_ret2
          exact ⟨by rw [HL.out]; rfl, Below.refl _ _⟩
        · have hT : readT s.data.toList = (s.extract 1 s.size).data.toList := by rw [hrt, hext]
          have hTz : (s.extract 1 s.size).size = s.size - 1 := by simp
          have HT := Lib.hid hT; clear hT
          have HN := Lib.hid (hrn.trans (by rw [HT.out] : _ = -(valB (s.extract 1 s.size).data.toList 0 : Int)))
          have hTl := Lib.hid (show (s.extract 1 s.size).data.toList.length = (s.extract 1 s.size).size from Array.length_toList)
          clear hrt hrn hext hlt hhead
          go_enter Tryd.func24, Tryd.ntmps24
          go_wp2_with fail
          generalize s.extract 1 s.size = T at *
          go_loopw [5, 6] (fun n i wr => ∃ k : Nat, k ≤ T.size ∧ i = .int .i64 k ∧ n = .int .i64 ((valB (T.data.toList.take k) 0 : Nat) : Int) ∧ (T.data.toList.take k).all digB = true ∧ Below w.heap.size w wr) (fun _ i _ => T.size - (intOf i).toNat)
          case atStart => exact ⟨0, by omega, rfl, rfl, rfl, Below.refl _ _⟩
          case round =>
            obtain ⟨k, hk, rfl, rfl, hall, hb⟩ := hrel
            by_cases hlt : k < T.size
            · have hkl : k < T.data.toList.length := by rw [hTl.out]; exact hlt
              have hgk : T.data.toList[k]'hkl = T[k]'hlt := by simp [ByteArray.getElem_eq_getElem_data]
              have hbd := num_bd hall (by omega)
              have hp17 : (10 : Nat) ^ k ≤ 10 ^ 17 := Nat.pow_le_pow_right (by omega) (by omega)
              have h17 : (10 : Nat) ^ 17 = 100000000000000000 := by decide
              have hstep := valB_take T.data.toList k hkl
              have hsall : digB (T.data.toList[k]'hkl) = true → (T.data.toList.take (k + 1)).all digB = true := fun h => by
                rw [← List.take_append_getElem hkl, List.all_append, hall, Bool.true_and, List.all_cons, h]
                rfl
              have hnall : digB (T.data.toList[k]'hkl) = false → readL s.data.toList = (0, false) := fun h => readL_no (fun hp => by
                have h2 := hp.2.2.1
                rw [HT.out] at h2
                have := List.all_eq_true.1 h2 _ (List.getElem_mem hkl)
                rw [h] at this
                cases this)
              rw [hgk] at hstep hsall hnall
              rw [← digI_B] at hsall hnall
              generalize valB (T.data.toList.take k) 0 = V at *
              have HALL := Lib.hid hall; clear hall
              have HST := Lib.hid hstep; clear hstep
              have HSA := Lib.hid hsall; clear hsall
              have HNA := Lib.hid hnall; clear hnall
              clear hgk
              have hV : V < 100000000000000000 := by omega
              clear hbd hp17 h17
              cases hd : digitI ((T[k]'hlt).toNat : Nat)
              · have HD := Lib.hid hd; clear hd
                go_wp2_with (go_at_call 34; refine (digit_any _ _).mono ?_; rw [HD.out]; rintro e w' ⟨rfl, rfl⟩)
                go_ret2
                exact ⟨by rw [HNA.out HD.out]; rfl, hb⟩
              · have hdd := hd
                simp only [digitI, Bool.and_eq_true, decide_eq_true_eq] at hdd
                have HD := Lib.hid hd; clear hd
                go_wp2_with (go_at_call 34; refine (digit_any _ _).mono ?_; rw [HD.out]; rintro e w' ⟨rfl, rfl⟩)
                go_roundw
                case rel => exact ⟨k + 1, by omega, by go_num, by rw [HST.out]; congr 1; omega, HSA.out HD.out, hb⟩
                case measure => simp [intOf]; omega
            · have hkk : k = T.size := by omega
              subst hkk
              rw [List.take_of_length_le (by rw [hTl.out]; exact Nat.le_refl _)] at hall ⊢
              have hbd := num_bd (l := T.data.toList) (k := T.size) (by rw [List.take_of_length_le (by rw [hTl.out]; exact Nat.le_refl _)]; exact hall) (by omega)
              rw [List.take_of_length_le (by rw [hTl.out]; exact Nat.le_refl _)] at hbd
              have hp18 : (10 : Nat) ^ T.size ≤ 10 ^ 18 := Nat.pow_le_pow_right (by omega) (by omega)
              have h18 : (10 : Nat) ^ 18 = 1000000000000000000 := by decide
              have hRN := HN.out
              have hno : ¬ Lib.itoa (-(valB T.data.toList 0 : Int)) = s.data.toList → readL s.data.toList = (0, false) := fun h => readL_no (fun hp => h (by rw [← hRN]; exact hp.2.2.2))
              have hyes : Lib.itoa (-(valB T.data.toList 0 : Int)) = s.data.toList → readL s.data.toList = (-(valB T.data.toList 0 : Int), true) := fun h => readL_yes h (by rw [HT.out, hTl.out]; omega)
              generalize valB T.data.toList 0 = V at *
              have hV : V < 1000000000000000000 := by omega
              clear hbd hp18 h18 hall hRN
              have HD := Lib.hid (specDec_any (-(V : Int)) (by omega))
              by_cases he : Lib.itoa (-(V : Int)) = s.data.toList
              · have hL := hyes he
                rw [he] at HD
                have hss : ByteArray.mk s.data.toList.toArray = s := by cases s; simp
                rw [hss] at HD
                have HL := Lib.hid hL; clear hL he hyes hno
                go_wp2_with fail
                refine (HD.out _).mono ?_
                rintro e w3 ⟨rfl, hb3⟩
                go_wp2
                go_ret2
                exact ⟨by rw [HL.out]; rfl, kept_trans hb hb3⟩
              · have hL := hno he
                have hne2 : ¬ ByteArray.mk (Lib.itoa (-(V : Int))).toArray = s := fun h => he (by rw [← h])
                generalize ByteArray.mk (Lib.itoa (-(V : Int))).toArray = G at *
                have hne3 := str_ne hne2
                have HL := Lib.hid hL; clear hL he hyes hno
                go_wp2_with fail
                refine (HD.out _).mono ?_
                rintro e w3 ⟨rfl, hb3⟩
                go_wp2
                go_ret2
                exact ⟨by rw [HL.out]; rfl, kept_trans hb hb3⟩
    · have hcn : ((((s[0]'h0').toNat : Nat) : Int) == 45) = false := by
        have : ¬ (s[0]'h0').toNat = 45 := fun h => hc (UInt8.toNat_inj.1 (by rw [h]; rfl))
        simp
        omega
      have hne45 : ¬ s.data.toList.head? = some 45 := by rw [hhead]; simpa using hc
      have hrt : readT s.data.toList = s.data.toList := by rw [readT, if_neg hne45]
      have hrn : readN s.data.toList = (valB (readT s.data.toList) 0 : Int) := by rw [readN, if_neg hne45]
      have hlt : (readT s.data.toList).length = s.size := by rw [hrt]; exact hsl
      by_cases h2 : 18 < s.size
      · have hL : readL s.data.toList = (0, false) := readL_no (fun h => by have := h.2.1; omega)
        have HL := Lib.hid hL; clear hL hrt hrn hlt hhead hne45
        go_enter Tryd.func24, Tryd.ntmps24
        go_wp2
        go_ret2
        exact ⟨by rw [HL.out]; rfl, Below.refl _ _⟩
      · have HT := Lib.hid hrt
        have HN := Lib.hid (hrn.trans (by rw [hrt] : _ = (valB s.data.toList 0 : Int)))
        have hTl := Lib.hid hsl
        clear hrt hrn hlt hhead hne45
        have hse : s = s := rfl
        go_enter Tryd.func24, Tryd.ntmps24
        go_wp2_with fail
        go_loopw [5, 6] (fun n i wr => ∃ k : Nat, k ≤ s.size ∧ i = .int .i64 k ∧ n = .int .i64 ((valB (s.data.toList.take k) 0 : Nat) : Int) ∧ (s.data.toList.take k).all digB = true ∧ Below w.heap.size w wr) (fun _ i _ => s.size - (intOf i).toNat)
        case atStart => exact ⟨0, by omega, rfl, rfl, rfl, Below.refl _ _⟩
        case round =>
          obtain ⟨k, hk, rfl, rfl, hall, hb⟩ := hrel
          by_cases hlt : k < s.size
          · have hkl : k < s.data.toList.length := by rw [hTl.out]; exact hlt
            have hgk : s.data.toList[k]'hkl = s[k]'hlt := by simp [ByteArray.getElem_eq_getElem_data]
            have hbd := num_bd hall (by omega)
            have hp17 : (10 : Nat) ^ k ≤ 10 ^ 17 := Nat.pow_le_pow_right (by omega) (by omega)
            have h17 : (10 : Nat) ^ 17 = 100000000000000000 := by decide
            have hstep := valB_take s.data.toList k hkl
            have hsall : digB (s.data.toList[k]'hkl) = true → (s.data.toList.take (k + 1)).all digB = true := fun h => by
              rw [← List.take_append_getElem hkl, List.all_append, hall, Bool.true_and, List.all_cons, h]
              rfl
            have hnall : digB (s.data.toList[k]'hkl) = false → readL s.data.toList = (0, false) := fun h => readL_no (fun hp => by
              have h2 := hp.2.2.1
              rw [HT.out] at h2
              have := List.all_eq_true.1 h2 _ (List.getElem_mem hkl)
              rw [h] at this
              cases this)
            rw [hgk] at hstep hsall hnall
            rw [← digI_B] at hsall hnall
            generalize valB (s.data.toList.take k) 0 = V at *
            have HALL := Lib.hid hall; clear hall
            have HST := Lib.hid hstep; clear hstep
            have HSA := Lib.hid hsall; clear hsall
            have HNA := Lib.hid hnall; clear hnall
            clear hgk
            have hV : V < 100000000000000000 := by omega
            clear hbd hp17 h17
            cases hd : digitI ((s[k]'hlt).toNat : Nat)
            · have HD := Lib.hid hd; clear hd
              go_wp2_with (go_at_call 34; refine (digit_any _ _).mono ?_; rw [HD.out]; rintro e w' ⟨rfl, rfl⟩)
              go_ret2
              exact ⟨by rw [HNA.out HD.out]; rfl, hb⟩
            · have hdd := hd
              simp only [digitI, Bool.and_eq_true, decide_eq_true_eq] at hdd
              have HD := Lib.hid hd; clear hd
              go_wp2_with (go_at_call 34; refine (digit_any _ _).mono ?_; rw [HD.out]; rintro e w' ⟨rfl, rfl⟩)
              go_roundw
              case rel => exact ⟨k + 1, by omega, by go_num, by rw [HST.out]; congr 1; omega, HSA.out HD.out, hb⟩
              case measure => simp [intOf]; omega
          · have hkk : k = s.size := by omega
            subst hkk
            rw [List.take_of_length_le (by rw [hTl.out]; exact Nat.le_refl _)] at hall ⊢
            have hbd := num_bd (l := s.data.toList) (k := s.size) (by rw [List.take_of_length_le (by rw [hTl.out]; exact Nat.le_refl _)]; exact hall) (by omega)
            rw [List.take_of_length_le (by rw [hTl.out]; exact Nat.le_refl _)] at hbd
            have hp18 : (10 : Nat) ^ s.size ≤ 10 ^ 18 := Nat.pow_le_pow_right (by omega) (by omega)
            have h18 : (10 : Nat) ^ 18 = 1000000000000000000 := by decide
            have hRN := HN.out
            have hno : ¬ Lib.itoa ((valB s.data.toList 0 : Int)) = s.data.toList → readL s.data.toList = (0, false) := fun h => readL_no (fun hp => h (by rw [← hRN]; exact hp.2.2.2))
            have hyes : Lib.itoa ((valB s.data.toList 0 : Int)) = s.data.toList → readL s.data.toList = ((valB s.data.toList 0 : Int), true) := fun h => readL_yes h (by rw [HT.out, hTl.out]; omega)
            generalize valB s.data.toList 0 = V at *
            have hV : V < 1000000000000000000 := by omega
            clear hbd hp18 h18 hall hRN
            have HD := Lib.hid (specDec_any ((V : Int)) (by omega))
            by_cases he : Lib.itoa ((V : Int)) = s.data.toList
            · have hL := hyes he
              rw [he] at HD
              have hss : ByteArray.mk s.data.toList.toArray = s := by cases s; simp
              rw [hss] at HD
              have HL := Lib.hid hL; clear hL he hyes hno
              go_wp2_with fail
              refine (HD.out _).mono ?_
              rintro e w3 ⟨rfl, hb3⟩
              go_wp2
              go_ret2
              exact ⟨by rw [HL.out]; rfl, kept_trans hb hb3⟩
            · have hL := hno he
              have hne2 : ¬ ByteArray.mk (Lib.itoa ((V : Int))).toArray = s := fun h => he (by rw [← h])
              generalize ByteArray.mk (Lib.itoa ((V : Int))).toArray = G at *
              have hne3 := str_ne hne2
              have HL := Lib.hid hL; clear hL he hyes hno
              go_wp2_with fail
              refine (HD.out _).mono ?_
              rintro e w3 ⟨rfl, hb3⟩
              go_wp2
              go_ret2
              exact ⟨by rw [HL.out]; rfl, kept_trans hb hb3⟩

/-- The text of a step. -/
def stepB (z : Int × Int) : List UInt8 := Lib.itoa z.1 ++ 58 :: Lib.itoa z.2

/-- The text of steps. -/
def textB (zs : List (Int × Int)) : List UInt8 := Lib.join (zs.map stepB) [32]

theorem textB_step (zs : List (Int × Int)) (k : Nat) (h : k < zs.length) : textB (zs.take (k + 1)) = textB (zs.take k) ++ ((if k = 0 then [] else [32]) ++ stepB zs[k]) := by
  cases zs with
  | nil => simp at h
  | cons z r =>
    cases k with
    | zero => simp [textB, Lib.join_one, Lib.join_nil]
    | succ m =>
      have hr : (r.map stepB)[m]? = some (stepB (r[m]'(by simpa using h))) := by rw [List.getElem?_map, List.getElem?_eq_getElem (by simpa using h)]; rfl
      have hs := Lib.joinTail_take_succ [32] (r.map stepB) m _ hr
      simp only [textB, List.take_succ_cons, List.map_cons, List.map_take, Lib.join_cons, hs, List.getElem_cons_succ]
      simp [List.append_assoc]

theorem textB_len (zs : List (Int × Int)) (h : ∀ k, (hk : k < zs.length) → (stepB zs[k]).length ≤ 43) (k : Nat) (hk : k ≤ zs.length) : (textB (zs.take k)).length ≤ 44 * k := by
  induction k with
  | zero => simp [textB, Lib.join_nil]
  | succ k ih =>
    rw [textB_step zs k hk, List.length_append, List.length_append]
    have h1 := ih (by omega)
    have h2 := h k hk
    split <;> simp <;> omega

theorem stepB_len {x y : Int} (hx : -9223372036854775808 ≤ x ∧ x ≤ 9223372036854775807) (hy : -9223372036854775808 ≤ y ∧ y ≤ 9223372036854775807) : (stepB (x, y)).length ≤ 43 := by
  have h1 := Lib.itoa_length_le x hx.1 hx.2
  have h2 := Lib.itoa_length_le y hy.1 hy.2
  simp only [stepB, List.length_append, List.length_cons]
  omega

noncomputable def chartTextL (zs : List (Int × Int)) : List UInt8 := if chartB zs then textB zs else []

theorem cat_size (l : List UInt8) : (ByteArray.mk l.toArray).size = l.length := by simp [ByteArray.size]

def stepV (z : Int × Int) : Value := .string ⟨(stepB z).toArray⟩

theorem info_text : (Tryd.prog.info? 9).map (fun i => (i.zero, i.size, i.bytes)) = some (some (.string ⟨#[]⟩), 1, 16) := by kernel_rfl

theorem cat2 (X Y : List UInt8) : ByteArray.mk X.toArray ++ ByteArray.mk #[58] ++ ByteArray.mk Y.toArray = ByteArray.mk (X ++ 58 :: Y).toArray := by
  rw [show ByteArray.mk #[58] = ByteArray.mk ([58] : List UInt8).toArray from rfl, ByteArray.mk_append_mk, ByteArray.mk_append_mk]
  simp

set_option maxRecDepth 100000 in
theorem implChartText_any (v : Value) (zs : List (Int × Int)) (w : World) (h : RdP w v zs) (ht : PowTab w) :
    Calls Tryd.prog 8 #[v] w fun e w' => e = .returned (.string ⟨(chartTextL zs).toArray⟩) ∧ Below w.heap.size w w' := by
  have HC := Lib.hid (implChart_any v zs w h)
  obtain ⟨A, c, rfl, hl, _⟩ := RdP_slice h
  have H := Lib.hid h; clear h
  have HT := Lib.hid ht; clear ht
  by_cases hch : ChartP zs
  · have hcb := chartB_true hch
    rw [hcb] at HC
    rw [show chartTextL zs = textB zs by simp [chartTextL, hcb]]
    have hn := hch.2
    have Hat := Lib.hid (fun (k : Nat) (hk : k < zs.length) => (hch.1 k hk hk).1)
    have hfl := textB_len zs (fun k hk => by have := (hch.1 k hk hk).1; exact stepB_len (x := zs[k].1) (y := zs[k].2) (by omega) (by omega)) zs.length (Nat.le_refl _)
    rw [List.take_of_length_le (Nat.le_refl _)] at hfl
    have hfl2 : (textB zs).length ≤ 880 := by omega
    clear hfl
    have Hstep := Lib.hid (fun (j : Nat) (h : j < zs.length) => map_step stepV zs (Value.string ⟨#[]⟩) j h)
    have Hend := Lib.hid (show (zs.map stepV).take zs.length = zs.map stepV from List.take_of_length_le (by simp))
    have hmk := run_make_row' (P := Tryd.prog) 40 9 (.string ⟨#[]⟩) 16 Tryd.underlying40 info_text rfl .i64 .i64 zs.length (by omega) (by omega)
    have Hrow0 := Lib.hid (fun (wa : World) (hwa : w.heap.size ≤ wa.heap.size) => (by
      have := World.ownsRow_lit wa (base := w.heap.size) (e := 9) (size := 1) (madeCells #[.string ⟨#[]⟩] zs.length) zs.length hwa (by unfold maxLen; omega) (by rw [size_madeCells]; simp)
      rw [toList_madeCells_one] at this
      exact this : (wa.alloc (.cells (madeCells #[.string ⟨#[]⟩] zs.length) 9)).ownsRow w.heap.size 9 1 (.slice (some ⟨wa.heap.size, 0, none⟩) zs.length zs.length) zs.length (List.replicate zs.length (Value.string ⟨#[]⟩))))
    have Hjoin := Lib.hid (fun (bk : Nat) (w1 : World) (hc : ∀ (j : Nat) x, (zs.map fun z => ByteArray.mk (stepB z).toArray)[j]? = some x → w1.cell? ⟨bk, 0 + j, none⟩ = some (.string x)) (hbk : bk < w1.heap.size) =>
      Tryd.strings_Join bk 0 zs.length (zs.map fun z => ByteArray.mk (stepB z).toArray) ⟨#[32]⟩ w1 hc hbk (by simp; omega) (by simp) (by
        have e : (zs.map fun z => ByteArray.mk (stepB z).toArray).map (·.data.toList) = zs.map stepB := by simp
        rw [e]
        show (textB zs).length ≤ _
        omega))
    clear hcb hch
    go_enter Tryd.func8, Tryd.ntmps8
    go_wp2_with fail
    refine HC.out.mono ?_
    rintro e w1 ⟨rfl, hb⟩
    have hs1 := hb.size
    go_wp2_with fail
    generalize hg : w1.heap.size = g at *
    go_loopw [14] (fun i wr => ∃ k : Nat, k ≤ zs.length ∧ i = .int .i64 k ∧ wr.ownsRow w.heap.size 9 1 (.slice (some ⟨g, 0, none⟩) zs.length zs.length) zs.length ((zs.map stepV).take k ++ List.replicate (zs.length - k) (Value.string ⟨#[]⟩)) ∧ g < wr.heap.size ∧ Below w.heap.size w wr) (fun i _ => zs.length - (intOf i).toNat)
    case atStart => exact ⟨0, by omega, rfl, by subst hg; simpa using Hrow0.out w1 hs1, by simp; omega, hb.alloc hb.size _⟩
    case round =>
      obtain ⟨k, hk, rfl, hown, hlw, hb⟩ := hrel
      by_cases hlt : k < zs.length
      · obtain ⟨_, b, off, rfl, hbl, hc0, hc1⟩ := rd_at H.out k hlt
        rw [atP_is zs k hlt] at hc0 hc1
        rw [← kept_cell hb b _ hbl] at hc0 hc1
        have hat := Hat.out k hlt
        have hlen : ((zs.map stepV).take k ++ List.replicate (zs.length - k) (Value.string ⟨#[]⟩)).length = zs.length * 1 := hown.1
        obtain ⟨u0, hu0⟩ : ∃ u, wr.cell? ⟨g, k, none⟩ = some u := by
          rw [hown.cellAt _ (by omega)]
          exact ⟨_, List.getElem?_eq_getElem (by omega)⟩
        have hz0 := hown.frozenAt k
        have hnext := Hstep.out k hlt
        rw [show stepV zs[k] = .string ⟨(Lib.itoa zs[k].1 ++ 58 :: Lib.itoa zs[k].2).toArray⟩ from rfl] at hnext
        have Hown := Lib.hid hown; clear hown hlen
        generalize zs[k].1 = x at *
        generalize zs[k].2 = y at *
        have hlx := Lib.itoa_length_le x (by omega) (by omega)
        have hly := Lib.itoa_length_le y (by omega) (by omega)
        have z2 := cat_size (Lib.itoa x)
        have z3 := cat_size (Lib.itoa y)
        rw [← cat2] at hnext
        have Hnext := Lib.hid hnext; clear hnext
        generalize hbx : ByteArray.mk (Lib.itoa x).toArray = bx at *
        generalize hby : ByteArray.mk (Lib.itoa y).toArray = by' at *
        have hq1 : ¬ 9223372036854775807 < bx.size + 1 := by omega
        have hq2 : ¬ 9223372036854775807 < bx.size + 1 + by'.size := by omega
        clear z2 z3
        have fx : (wr.alloc (.cells #[.int .i64 x, .int .i64 y] 36)).cell? ⟨wr.heap.size, 0, none⟩ = some (.int .i64 x) := by simp
        have fy : (wr.alloc (.cells #[.int .i64 x, .int .i64 y] 36)).cell? ⟨wr.heap.size, 1, none⟩ = some (.int .i64 y) := by simp
        have fu : (wr.alloc (.cells #[.int .i64 x, .int .i64 y] 36)).cell? ⟨g, k, none⟩ = some u0 := by rw [World.cell?_alloc_past _ _ _ hlw]; exact hu0
        have fz : (wr.alloc (.cells #[.int .i64 x, .int .i64 y] 36)).frozen? ⟨g, k, none⟩ = false := by rw [World.frozen?_alloc_past _ _ _ hlw]; exact hz0
        have frow := Lib.hid (Hown.out.alloc (.cells #[.int .i64 x, .int .i64 y] 36))
        have fb := hb.alloc hb.size (.cells #[.int .i64 x, .int .i64 y] 36)
        have fg : g < (wr.alloc (.cells #[.int .i64 x, .int .i64 y] 36)).heap.size := by simp; omega
        have fq : wr.heap.size < (wr.alloc (.cells #[.int .i64 x, .int .i64 y] 36)).heap.size := by simp
        have ft := tab_kept HT.out fb
        have hne1 : ¬ g = wr.heap.size := by omega
        go_wp2_with fail
        generalize hwb : wr.alloc (.cells #[.int .i64 x, .int .i64 y] 36) = wb at *
        generalize hqq : wr.heap.size = q at *
        have FT := Lib.hid ft; clear ft
        clear hwb
        go_region_held3 (fun w' => w'.cell? ⟨q, 0, none⟩ = some (.int .i64 x) ∧ w'.cell? ⟨q, 1, none⟩ = some (.int .i64 y)) (go_keep)
          ((go_at_call 21; refine (implDecimal_any _ (by omega) _ ?ht).mono ?_; (case ht => first | exact FT.out | exact tab_kept FT.out (by assumption)); rintro e w2 ⟨rfl, hb1⟩; replace hb1 := kept_trans (a := wb) (by go_grown) hb1; have hcl := kept_cell hb1; have hu1 := (kept_cell hb1 g k fg).trans fu; have hz1 := (kept_frozen hb1 g k fg).trans fz))
        have hB : Below wb.heap.size wb w2 := by assumption
        have hst := (own_kept frow.out hB).stored k (.string (bx ++ ⟨#[58]⟩ ++ by'))
        rw [Hnext.out] at hst
        have hszB := hB.size
        have hgB := grown_below (kept_trans fb hB) hst.2 (fun x hx => by simp at hx; omega)
        have Hs := Lib.hid hst.1
        have Hg := Lib.hid hgB
        clear hst hgB
        go_wp2
        go_roundw
        case rel => exact ⟨k + 1, by omega, by go_num, Hs.out, by simp; omega, Hg.out⟩
        case measure => simp [intOf]; omega
      · have hkn : k = zs.length := by omega
        subst hkn
        rw [Hend.out, Nat.sub_self] at hown
        have hj := Hjoin.out g wr (fun j x hx => by
          rw [Nat.zero_add, hown.cellAt j (by
            have := (List.getElem?_eq_some_iff.1 hx).1
            simp at this
            omega)]
          rw [List.getElem?_map] at hx
          obtain ⟨z, hz, rfl⟩ := Option.map_eq_some_iff.1 hx
          simp [hz, stepV]) hlw
        rw [show (zs.map fun z => ByteArray.mk (stepB z).toArray).length = zs.length by simp, show Lib.join ((zs.map fun z => ByteArray.mk (stepB z).toArray).map (·.data.toList)) (ByteArray.mk #[32]).data.toList = textB zs by rw [List.map_map]; rfl] at hj
        have HO := Lib.hid hown; clear hown
        have HJ := Lib.hid hj; clear hj
        go_wp2_with fail
        refine HJ.out.mono ?_
        rintro e w2 ⟨rfl, hb2⟩
        go_wp2
        go_ret
        exact ⟨rfl, kept_trans hb hb2⟩
  · have hcb := chartB_false hch
    rw [hcb] at HC
    rw [show chartTextL zs = [] by simp [chartTextL, hcb]]
    clear hcb hch
    go_enter Tryd.func8, Tryd.ntmps8
    go_wp2_with fail
    refine HC.out.mono ?_
    rintro e w1 ⟨rfl, hb⟩
    go_wp2
    go_ret
    exact ⟨rfl, hb⟩

/-- The cells of a list of strings. -/
def strV (ss : List ByteArray) : List Value := ss.map Value.string

theorem strV_at (ss : List ByteArray) (k : Nat) (h : k < ss.length) : (strV ss)[k]? = some (.string ss[k]) := by simp [strV, h]

/-- The slice value reads as a list of strings. -/
def RdS (w : World) (v : Value) (ss : List ByteArray) : Prop := RdF w v ss.length 1 (strV ss)

theorem RdS_at {w : World} {v : Value} {ss : List ByteArray} (h : RdS w v ss) : ∃ A c, v = .slice A ss.length c ∧ ss.length ≤ 9223372036854775807 ∧
    ∀ k, (hk : k < ss.length) → ∃ b off, A = some ⟨b, off, none⟩ ∧ b < w.heap.size ∧ w.cell? ⟨b, off + k, none⟩ = some (.string ss[k]) := by
  obtain ⟨hl, hx, A, c, rfl, hr⟩ := h
  refine ⟨A, c, rfl, hl, fun k hk => ?_⟩
  obtain ⟨b, off, rfl, hlt, h0⟩ := hr k (by omega)
  rw [strV_at ss k hk] at h0
  exact ⟨b, off, rfl, hlt, h0⟩

/-- The pieces of a text between bytes c, from a byte on; the open one began at 'from'. -/
def restW (s : ByteArray) (c : UInt8) (pos beg : Nat) : List ByteArray :=
  if h : pos < s.size then (if s.data.toList.getD pos 0 = c then s.extract beg pos :: restW s c (pos + 1) (pos + 1) else restW s c (pos + 1) beg) else [s.extract beg s.size]
termination_by s.size - pos

theorem restW_skip (s : ByteArray) (c : UInt8) (beg : Nat) (n : Nat) : ∀ pos, pos + n ≤ s.size → (∀ j, j < n → s.data.toList.getD (pos + j) 0 ≠ c) → restW s c pos beg = restW s c (pos + n) beg := by
  induction n with
  | zero => intro pos _ _; rfl
  | succ n ih =>
    intro pos h1 h2
    rw [restW, dif_pos (by omega), if_neg (by simpa using h2 0 (by omega)), ih (pos + 1) (by omega) (fun j hj => by rw [show pos + 1 + j = pos + (j + 1) by omega]; exact h2 (j + 1) (by omega))]
    congr 1
    omega

theorem dec_fact (s : ByteArray) (pos : Nat) (h : pos < s.size) :
    (s.data.toList.getD pos 0 = 32 ∧ Utf8.decode s pos = (32, 1)) ∨ ((Utf8.decode s pos).1 ≠ 32 ∧ 1 ≤ (Utf8.decode s pos).2 ∧ pos + (Utf8.decode s pos).2 ≤ s.size ∧ ∀ j, j < (Utf8.decode s pos).2 → s.data.toList.getD (pos + j) 0 ≠ 32) := by
  have hl : s.data.toList.length = s.size := Array.length_toList
  have e32 : ∀ x : UInt8, x = 32 ↔ x.toNat = 32 := fun x => ⟨fun h => by rw [h]; rfl, fun h => UInt8.toNat_inj.1 (by rw [h]; rfl)⟩
  rw [Lib.decode_N, hl]
  simp only [e32, ne_eq]
  generalize hb0 : (s.data.toList.getD pos 0).toNat = b0
  generalize hb1 : (s.data.toList.getD (pos + 1) 0).toNat = b1
  generalize hb2 : (s.data.toList.getD (pos + 2) 0).toNat = b2
  generalize hb3 : (s.data.toList.getD (pos + 3) 0).toNat = b3
  have hlt : b0 < 256 := by rw [← hb0]; exact (s.data.toList.getD pos 0).toNat_lt
  have hj : ∀ j, (s.data.toList.getD (pos + j) 0).toNat = 32 → j < 4 → (j = 0 ∧ b0 = 32) ∨ (j = 1 ∧ b1 = 32) ∨ (j = 2 ∧ b2 = 32) ∨ (j = 3 ∧ b3 = 32) := by
    intro j hh hj4
    rcases (show j = 0 ∨ j = 1 ∨ j = 2 ∨ j = 3 by omega) with rfl | rfl | rfl | rfl
    · exact Or.inl ⟨rfl, by rw [← hb0]; exact hh⟩
    · exact Or.inr (Or.inl ⟨rfl, by rw [← hb1]; exact hh⟩)
    · exact Or.inr (Or.inr (Or.inl ⟨rfl, by rw [← hb2]; exact hh⟩))
    · exact Or.inr (Or.inr (Or.inr ⟨rfl, by rw [← hb3]; exact hh⟩))
  rcases Lib.decodeN_shape (s.size - pos) b0 b1 b2 b3 with ⟨h1, he⟩ | ⟨h1, h2, h3, h4, he⟩ | ⟨h1, h2, h3, h4, h5, h6, he⟩ | ⟨h1, h2, h3, h4, h5, h6, h7, he⟩ | he
  · by_cases hb : b0 = 32
    · exact Or.inl ⟨hb, by rw [he, hb]⟩
    · refine Or.inr ?_
      rw [he]
      refine ⟨hb, by simp, by simp; omega, fun j hlt hh => ?_⟩
      have := hj j hh (by simp at hlt; omega)
      simp at hlt
      omega
  · refine Or.inr ?_
    rw [he]
    refine ⟨by simp only; omega, by simp, by simp only; omega, fun j hlt hh => ?_⟩
    simp only at hlt
    have := hj j hh (by omega)
    omega
  · refine Or.inr ?_
    rw [he]
    refine ⟨by simp only; omega, by simp, by simp only; omega, fun j hlt hh => ?_⟩
    simp only at hlt
    have := hj j hh (by omega)
    omega
  · refine Or.inr ?_
    rw [he]
    refine ⟨by simp only; omega, by simp, by simp only; omega, fun j hlt hh => ?_⟩
    simp only at hlt
    have := hj j hh (by omega)
    omega
  · by_cases hb : b0 = 32
    · have := Lib.decodeN_ascii (s.size - pos) b0 b1 b2 b3 (by omega)
      rw [this] at he
      simp at he
      omega
    · refine Or.inr ?_
      rw [he]
      refine ⟨by simp, by simp, by simp; omega, fun j hlt hh => ?_⟩
      simp only at hlt
      have := hj j hh (by omega)
      omega

def blankP (x : Nat) : Bool := decide (x = 32)

def neB (x : ByteArray) : Bool := decide (x.size ≠ 0)

theorem spans_rest (s : ByteArray) : ∀ (f pos beg : Nat) (acc : List (Nat × Nat)), pos ≤ s.size → s.size - pos ≤ f → beg ≤ pos →
    (Lib.closeSpans s (Lib.spansFromP blankP s f pos (if beg < pos then some beg else none) acc)).map (fun x => s.extract x.1 x.2) = acc.map (fun x => s.extract x.1 x.2) ++ (restW s 32 pos beg).filter neB := by
  have hend : ∀ (beg : Nat) (acc : List (Nat × Nat)), beg ≤ s.size → (Lib.closeSpans s (acc, if beg < s.size then some beg else none)).map (fun x => s.extract x.1 x.2) = acc.map (fun x => s.extract x.1 x.2) ++ (restW s 32 s.size beg).filter neB := by
    intro beg acc hb
    rw [restW, dif_neg (by omega)]
    by_cases h : beg < s.size
    · rw [if_pos h]
      have : neB (s.extract beg s.size) = true := by simp [neB]; omega
      simp [Lib.closeSpans, this]
    · rw [if_neg h]
      have : neB (s.extract beg s.size) = false := by simp [neB]; omega
      simp [Lib.closeSpans, this]
  intro f
  induction f with
  | zero =>
    intro pos beg acc h1 h2 h3
    obtain rfl : pos = s.size := by omega
    exact hend beg acc h3
  | succ f ih =>
    intro pos beg acc h1 h2 h3
    by_cases hp : pos < s.size
    · rw [Lib.spansFromP.eq_def]
      simp only [hp, if_true]
      rcases dec_fact s pos hp with ⟨hb, hd⟩ | ⟨hr, hw1, hw2, hnb⟩
      · have hpb : blankP 32 = true := rfl
        rw [restW, dif_pos hp, if_pos hb, hd]
        simp only [hpb, if_true]
        have hi := fun acc => ih (pos + 1) (pos + 1) acc (by omega) (by omega) (Nat.le_refl _)
        simp only [Nat.lt_irrefl, if_false] at hi
        by_cases hbp : beg < pos
        · rw [if_pos hbp]
          have : neB (s.extract beg pos) = true := by simp [neB]; omega
          simp only [hi]
          simp [this]
        · rw [if_neg hbp]
          have : neB (s.extract beg pos) = false := by simp [neB]; omega
          simp only [hi]
          simp [this]
      · have hpb : blankP (Utf8.decode s pos).1 = false := by simp [blankP, hr]
        rw [restW_skip s 32 beg _ pos hw2 hnb]
        simp only [hpb, Bool.false_eq_true, if_false]
        have hi := ih (pos + (Utf8.decode s pos).2) beg acc hw2 (by omega) (by omega)
        rw [if_pos (by omega)] at hi
        by_cases hbp : beg < pos
        · rw [if_pos hbp]
          exact hi
        · obtain rfl : beg = pos := by omega
          rw [if_neg hbp]
          exact hi
    · obtain rfl : pos = s.size := by omega
      rw [Lib.spansFromP_end _ _ _ _ _ _ hp]
      exact hend beg acc h3

/-- The words of a text. -/
def wordsL (s : ByteArray) : List ByteArray := (restW s 32 0 0).filter neB

theorem fields_words (s : ByteArray) : Lib.goFieldsP blankP s = wordsL s := by
  have := spans_rest s s.size 0 0 [] (by omega) (by omega) (Nat.le_refl _)
  simpa [Lib.goFieldsP, Lib.spansOfP, wordsL] using this

theorem restW_no {s : ByteArray} {c : UInt8} {pos beg : Nat} (h : pos < s.size) (hc : s.data.toList.getD pos 0 ≠ c) : restW s c pos beg = restW s c (pos + 1) beg := by rw [restW, dif_pos h, if_neg hc]

theorem restW_yes {s : ByteArray} {c : UInt8} {pos beg : Nat} (h : pos < s.size) (hc : s.data.toList.getD pos 0 = c) : restW s c pos beg = s.extract beg pos :: restW s c (pos + 1) (pos + 1) := by rw [restW, dif_pos h, if_pos hc]

theorem restW_end (s : ByteArray) (c : UInt8) (beg : Nat) : restW s c s.size beg = [s.extract beg s.size] := by rw [restW, dif_neg (by omega)]

theorem restW_len (s : ByteArray) (c : UInt8) : ∀ n pos beg, s.size - pos = n → (restW s c pos beg).length ≤ n + 1 := by
  intro n
  induction n with
  | zero => intro pos beg h; rw [restW, dif_neg (by omega)]; simp
  | succ n ih =>
    intro pos beg h
    rw [restW, dif_pos (by omega)]
    split
    · have := ih (pos + 1) (pos + 1) (by omega)
      simp only [List.length_cons]
      omega
    · have := ih (pos + 1) beg (by omega)
      omega

theorem info_str : (Tryd.prog.info? 9).map (fun i => (i.zero, i.size, i.bytes)) = some (some (.string ⟨#[]⟩), 1, 16) := by kernel_rfl

/-- append of one string to a row of the call's own. -/
theorem wp_appendS {ops : Array Oper} {rest : List Oper} {o : Oper} {a : Act} {Q : Exit → Act → World → Prop} {W wr : World} (hgd : o.guard = none) (s x : Operand)
    (ho : o.op = .call { callee := .builtin .append, args := #[s, x], argTypes := #[40, 40] })
    (lo : Nat) (v : Value) (ss : List ByteArray) (z : ByteArray) (hs : a.eval s = v) (hrow : RowF 9 1 wr lo wr.heap.size v ss.length (strV ss)) (hx : a.eval x = .slice (some ⟨wr.heap.size, 0, none⟩) 1 1)
    (hW : Below W.heap.size W wr) (hlo : W.heap.size ≤ lo) (hlo2 : lo ≤ wr.heap.size) (hn : ss.length < 1000000000)
    (h : ∀ v' w', RowF 9 1 w' lo w'.heap.size v' (ss ++ [z]).length (strV (ss ++ [z])) → Below W.heap.size W w' → wr.heap.size ≤ w'.heap.size → wpList Tryd.prog ops Q rest (a.put o.dst v') w') :
    wpList Tryd.prog ops Q (o :: rest) a (wr.alloc (.cells #[.string z] 9)) := by
  obtain ⟨i0, hi, hz0, hz1, hz2⟩ := info_parts info_str
  refine wpList_append_own _ hgd s x _ ho lo 9 i0 (.string ⟨#[]⟩) 1 16 Tryd.underlying40 hi hz0 hz1 hz2 rfl (by decide) v ss.length _ hs (hrow.1.alloc _) ⟨wr.heap.size, 0, none⟩ 1 1 [.string z] hx rfl ?_ ?_ ?_ ?_ ?_ ?_
  · intro j u hj
    match j with
    | 0 => simp at hj; subst hj; simp [Addr.add]
    | j + 1 => simp at hj
  · intro u hu; simp at hu; subst hu; rfl
  · unfold maxLen; omega
  · omega
  · simp; omega
  · intro v' w' hown hg _
    rw [show strV ss ++ [Value.string z] = strV (ss ++ [z]) by simp [strV]] at hown
    have hrow' : RowF 9 1 w' lo w'.heap.size v' (ss ++ [z]).length (strV (ss ++ [z])) := ⟨by simpa using hown, hown.lt⟩
    refine h v' w' hrow' ?_ (Nat.le_trans (by simp) hg.size)
    refine grown_below (hW.alloc hW.size _) hg (fun g hg2 => ?_)
    have := (hrow.2 g hg2).1
    omega

set_option maxRecDepth 100000 in
theorem specSplit_any (s : ByteArray) (c : UInt8) (hs : s.size ≤ 1000000) (w : World) :
    Calls Tryd.prog 23 #[.string s, .int .u8 (c.toNat : Int)] w fun e w' => ∃ v, e = .returned v ∧ RowF 9 1 w' w.heap.size w'.heap.size v (restW s c 0 0).length (strV (restW s c 0 0)) ∧ Below w.heap.size w w' := by
  have hsl : s.data.toList.length = s.size := Array.length_toList
  have hlenW := restW_len s c s.size 0 0 rfl
  go_enter Tryd.func23, Tryd.ntmps23
  go_wp2_with fail
  go_loopw [5, 6, 7] (fun o b i wr => ∃ (k beg : Nat) (ps : List ByteArray) (ov : Value), k ≤ s.size ∧ beg ≤ k ∧ ov = o ∧ b = .int .i64 beg ∧ i = .int .i64 k ∧ RowF 9 1 wr w.heap.size wr.heap.size ov ps.length (strV ps) ∧ ps ++ restW s c k beg = restW s c 0 0 ∧ Below w.heap.size w wr) (fun _ _ i _ => s.size - (intOf i).toNat)
  case atStart => exact ⟨0, 0, [], _, by omega, by omega, rfl, rfl, rfl, ⟨World.ownsRow_lit w #[] 0 (Nat.le_refl _) (by decide) (by rfl), fun g hg => by simp [Value.ownBlock] at hg; subst hg; simp⟩, rfl, by go_grown⟩
  case round =>
    obtain ⟨k, beg, ps, ov, hk, hbk, ho, rfl, rfl, hrow, hps, hb⟩ := hrel
    subst ho
    have hsz := hb.size
    have hpl : ps.length ≤ 1000001 := by
      have := congrArg List.length hps
      simp only [List.length_append] at this
      omega
    by_cases hlt : k < s.size
    · have hgk : s.data.toList.getD k 0 = s[k]'hlt := by
        rw [List.getD_eq_getElem?_getD, List.getElem?_eq_getElem (by omega)]
        simp [ByteArray.getElem_eq_getElem_data]
      by_cases hc : s[k]'hlt = c
      · have hcn : ((((s[k]'hlt).toNat : Nat) : Int) == ((c.toNat : Nat) : Int)) = true := by rw [hc]; simp
        have hnx : ps ++ [s.extract beg k] ++ restW s c (k + 1) (k + 1) = restW s c 0 0 := by
          rw [← hps, restW_yes hlt (by rw [hgk]; exact hc)]
          simp
        have HR := Lib.hid hrow; clear hrow
        have HN := Lib.hid hnx; clear hnx hps hgk
        have HC := Lib.hid hc; clear hc
        go_wp2_with (at_builtin; refine wp_appendS rfl (.tmp 20) (.tmp 25) rfl w.heap.size _ ps (s.extract beg k) rfl HR.out rfl hb (Nat.le_refl _) hsz (by omega) ?_; intro v' w' hrow' hb' _)
        go_roundw
        case rel => exact ⟨k + 1, k + 1, ps ++ [s.extract beg k], v', by omega, by omega, rfl, by go_num, by go_num, hrow', HN.out, hb'⟩
        case measure => simp [intOf]; omega
      · have hcn : ((((s[k]'hlt).toNat : Nat) : Int) == ((c.toNat : Nat) : Int)) = false := by
          have : ¬ (s[k]'hlt).toNat = c.toNat := fun h => hc (UInt8.toNat_inj.1 h)
          simp
          omega
        have hnx : ps ++ restW s c (k + 1) beg = restW s c 0 0 := by rw [← hps, restW_no hlt (by rw [hgk]; exact hc)]
        have HR := Lib.hid hrow; clear hrow
        have HN := Lib.hid hnx; clear hnx hps hgk
        have HC := Lib.hid hc; clear hc
        go_wp2
        go_roundw
        case rel => exact ⟨k + 1, beg, ps, ov, by omega, by omega, rfl, rfl, by go_num, HR.out, HN.out, hb⟩
        case measure => simp [intOf]; omega
    · have hkk : k = s.size := by omega
      subst hkk
      rw [restW_end] at hps
      have HR := Lib.hid hrow; clear hrow
      have HN := Lib.hid hps; clear hps
      go_wp2_with (at_builtin; refine wp_appendS rfl (.tmp 29) (.tmp 33) rfl w.heap.size _ ps (s.extract beg s.size) rfl HR.out rfl hb (Nat.le_refl _) hsz (by omega) ?_; intro v' w' hrow' hb' _)
      go_ret
      exact ⟨_, rfl, by rw [← HN.out]; exact hrow', hb'⟩

theorem isBlank_any (x : Nat) (hx : x ≤ 1114111) (w : World) :
    Calls Tryd.prog 36 #[.int .i32 (x : Int)] w fun e w' => e = .returned (.bool (blankP x)) ∧ ∃ q, w' = w.drewN q := by
  unfold blankP
  by_cases h : x = 32
  · subst h
    go_enter Tryd.func36, Tryd.ntmps36
    go_wp2
    go_ret
    exact ⟨rfl, 0, rfl⟩
  · have h2 : ¬ ((x : Int) = 32) := by omega
    have h3 : ((x : Int) == 32) = false := by simpa using h2
    rw [decide_eq_false h]
    go_enter Tryd.func36, Tryd.ntmps36
    go_wp2
    go_ret
    exact ⟨rfl, 0, rfl⟩

theorem implWords_any (s : ByteArray) (hs : s.size ≤ 1000000) (w : World) :
    Calls Tryd.prog 25 #[.string s] w fun e w' => ∃ v, e = .returned v ∧ RowF 9 1 w' w.heap.size w'.heap.size v (wordsL s).length (strV (wordsL s)) ∧ Below w.heap.size w w' := by
  have hp : PredAtRunes Tryd.prog 36 #[] blankP w := fun W x hx _ => isBlank_any x hx W
  have hF := Tryd.strings_FieldsFunc_runes 36 #[] (enters_of Tryd.func36 (by kernel_rfl) rfl) blankP s w (by omega) hp
  rw [fields_words] at hF
  generalize wordsL s = ws at *
  have HF := Lib.hid hF; clear hF hp
  go_enter Tryd.func25, Tryd.ntmps25
  go_wp2_with fail
  refine HF.out.mono ?_
  rintro e w1 ⟨A, rfl, hA, hown, hb⟩
  have hown2 : w1.ownsRow w.heap.size 9 1 (.slice (some ⟨A, 0, none⟩) ws.length ws.length) ws.length (strV ws) := hown
  clear hown
  go_wp2
  go_ret
  exact ⟨_, rfl, ⟨hown2, fun g hg => ⟨(hown2.lt g hg).1, (hown2.lt g hg).2⟩⟩, hb⟩

theorem join2 (x y : List UInt8) (r : List (List UInt8)) (c : UInt8) : Lib.join (x :: y :: r) [c] = x ++ c :: Lib.join (y :: r) [c] := by
  rw [Lib.join_cons, Lib.join_cons]
  simp [Lib.joinTail]

theorem head_uniq (c : UInt8) : ∀ (x y A B : List UInt8), c ∉ x → c ∉ y → (A = [] ∨ ∃ r, A = c :: r) → (B = [] ∨ ∃ r, B = c :: r) → x ++ A = y ++ B → x = y ∧ A = B := by
  intro x
  induction x with
  | nil =>
    intro y A B hx hy hA hB h
    cases y with
    | nil => exact ⟨rfl, h⟩
    | cons b y =>
      rcases hA with rfl | ⟨r, rfl⟩
      · simp at h
      · simp at h
        exact absurd (by rw [h.1]; simp) hy
  | cons a x ih =>
    intro y A B hx hy hA hB h
    cases y with
    | nil =>
      rcases hB with rfl | ⟨r, rfl⟩
      · simp at h
      · simp at h
        exact absurd (by rw [h.1]; simp) hx
    | cons b y =>
      simp only [List.cons_append, List.cons.injEq] at h
      simp only [List.mem_cons, not_or] at hx hy
      obtain ⟨h1, h2⟩ := ih y A B hx.2 hy.2 hA hB h.2
      exact ⟨by rw [h.1, h1], h2⟩

theorem split_uniq (c : UInt8) : ∀ (ps qs : List (List UInt8)), ps ≠ [] → qs ≠ [] → (∀ x ∈ ps, c ∉ x) → (∀ x ∈ qs, c ∉ x) → Lib.join ps [c] = Lib.join qs [c] → ps = qs := by
  intro ps
  induction ps with
  | nil => intro qs h; exact absurd rfl h
  | cons x ps ih =>
    intro qs _ hq hp1 hq1 h
    cases qs with
    | nil => exact absurd rfl hq
    | cons y qs =>
      cases ps with
      | nil =>
        cases qs with
        | nil => simpa [Lib.join_one] using h
        | cons y2 qs =>
          rw [Lib.join_one, join2] at h
          have := hp1 x (by simp)
          rw [h] at this
          simp at this
      | cons x2 ps =>
        cases qs with
        | nil =>
          rw [Lib.join_one, join2] at h
          have := hq1 y (by simp)
          rw [← h] at this
          simp at this
        | cons y2 qs =>
          rw [join2, join2] at h
          obtain ⟨h1, h2⟩ := head_uniq c x y _ _ (hp1 x (by simp)) (hq1 y (by simp)) (Or.inr ⟨_, rfl⟩) (Or.inr ⟨_, rfl⟩) h
          rw [h1, ih (y2 :: qs) (by simp) (by simp) (fun z hz => hp1 z (by simp [List.mem_cons] at hz ⊢; exact Or.inr hz)) (fun z hz => hq1 z (by simp [List.mem_cons] at hz ⊢; exact Or.inr hz)) (by simpa using h2)]

/-- The pieces of a text between bytes c. -/
def restL (s : ByteArray) (c : UInt8) : List (List UInt8) := (restW s c 0 0).map fun x => x.data.toList

theorem restW_ne (s : ByteArray) (c : UInt8) : ∀ n pos beg, s.size - pos = n → restW s c pos beg ≠ [] := by
  intro n
  induction n with
  | zero => intro pos beg h; rw [restW, dif_neg (by omega)]; simp
  | succ n ih =>
    intro pos beg h
    rw [restW, dif_pos (by omega)]
    split
    · simp
    · exact ih (pos + 1) beg (by omega)

theorem restW_join (s : ByteArray) (c : UInt8) : ∀ n pos beg, s.size - pos = n → beg ≤ pos → pos ≤ s.size → Lib.join ((restW s c pos beg).map fun x => x.data.toList) [c] = s.data.toList.drop beg := by
  have hl : s.data.toList.length = s.size := Array.length_toList
  intro n
  induction n with
  | zero =>
    intro pos beg h h1 h2
    obtain rfl : pos = s.size := by omega
    rw [restW_end, List.map_cons, List.map_nil, Lib.join_one, Lib.extract_eq]
    simp only []
    rw [List.take_of_length_le (by rw [List.length_drop, hl]; exact Nat.le_refl _)]
  | succ n ih =>
    intro pos beg h h1 h2
    by_cases hc : s.data.toList.getD pos 0 = c
    · rw [restW_yes (by omega) hc]
      have hih := ih (pos + 1) (pos + 1) (by omega) (Nat.le_refl _) (by omega)
      have hne := restW_ne s c n (pos + 1) (pos + 1) (by omega)
      generalize restW s c (pos + 1) (pos + 1) = R at *
      cases R with
      | nil => exact absurd rfl hne
      | cons y r =>
        rw [List.map_cons, List.map_cons, join2, ← List.map_cons (f := fun x : ByteArray => x.data.toList), hih, Lib.extract_eq]
        simp only []
        have hg : s.data.toList[pos]'(by omega) = c := by
          rw [← hc]
          simp [List.getD, List.getElem?_eq_getElem (show pos < s.data.toList.length by omega)]
        have hd : s.data.toList.drop pos = c :: s.data.toList.drop (pos + 1) := by
          rw [List.drop_eq_getElem_cons (by omega), hg]
        rw [← hd]
        have := List.take_append_drop (pos - beg) (s.data.toList.drop beg)
        rw [List.drop_drop, show beg + (pos - beg) = pos by omega] at this
        exact this
    · rw [restW_no (by omega) hc]
      exact ih (pos + 1) beg (by omega) (by omega) (by omega)

theorem restW_free (s : ByteArray) (c : UInt8) : ∀ n pos beg, s.size - pos = n → beg ≤ pos → pos ≤ s.size → (∀ j, beg ≤ j → j < pos → s.data.toList.getD j 0 ≠ c) → ∀ x ∈ restW s c pos beg, c ∉ x.data.toList := by
  have hl : s.data.toList.length = s.size := Array.length_toList
  have hex : ∀ beg pos, beg ≤ pos → pos ≤ s.size → (∀ j, beg ≤ j → j < pos → s.data.toList.getD j 0 ≠ c) → c ∉ (s.extract beg pos).data.toList := by
    intro beg pos h1 h2 h3 hm
    rw [Lib.extract_eq] at hm
    simp only [] at hm
    obtain ⟨j, hj, hv⟩ := List.mem_iff_getElem.1 hm
    simp only [List.length_take, List.length_drop] at hj
    rw [List.getElem_take, List.getElem_drop] at hv
    refine h3 (beg + j) (by omega) (by omega) ?_
    rw [← hv]
    simp [List.getD, List.getElem?_eq_getElem (show beg + j < s.data.toList.length by omega)]
  intro n
  induction n with
  | zero =>
    intro pos beg h h1 h2 h3 x hx
    obtain rfl : pos = s.size := by omega
    rw [restW_end] at hx
    simp at hx
    subst hx
    exact hex _ _ h1 h2 h3
  | succ n ih =>
    intro pos beg h h1 h2 h3 x hx
    by_cases hc : s.data.toList.getD pos 0 = c
    · rw [restW_yes (by omega) hc] at hx
      rcases List.mem_cons.1 hx with rfl | hx
      · exact hex _ _ h1 h2 h3
      · exact ih (pos + 1) (pos + 1) (by omega) (Nat.le_refl _) (by omega) (fun j h4 h5 => by omega) x hx
    · rw [restW_no (by omega) hc] at hx
      refine ih (pos + 1) beg (by omega) (by omega) (by omega) (fun j h4 h5 => ?_) x hx
      by_cases he : j = pos
      · subst he; exact hc
      · exact h3 j h4 (by omega)

theorem cut_no (l : List UInt8) (c : UInt8) (h : c ∉ l) : Lib.cut l [c] = (l, [], false) := by
  have hi : ∀ l : List UInt8, c ∉ l → Lib.indexByte l c = -1 := by
    intro l
    induction l with
    | nil => intro _; rfl
    | cons b l ih =>
      intro h
      simp only [List.mem_cons, not_or] at h
      have hb : (b == c) = false := by simpa using fun e => h.1 e.symm
      simp [Lib.indexByte, hb, ih h.2]
  unfold Lib.cut
  rw [Lib.index_one, hi l h, if_neg (by omega)]

theorem cut_yes (a b : List UInt8) (c : UInt8) (h : c ∉ a) : Lib.cut (a ++ c :: b) [c] = (a, b, true) := by
  have hi : ∀ a : List UInt8, c ∉ a → Lib.indexByte (a ++ c :: b) c = (a.length : Int) := by
    intro a
    induction a with
    | nil => intro _; simp [Lib.indexByte]
    | cons x a ih =>
      intro h
      simp only [List.mem_cons, not_or] at h
      have hb : (x == c) = false := by simpa using fun e => h.1 e.symm
      have := ih h.2
      simp only [List.cons_append, Lib.indexByte, hb, this, Bool.false_eq_true, if_false, List.length_cons]
      rw [if_neg (by simp)]
      push_cast
      try rfl
  unfold Lib.cut
  rw [Lib.index_one, hi a h, if_pos (by omega)]
  simp

/-- The step with this text, and whether there is one. -/
noncomputable def stepL (p : List UInt8) : (Int × Int) × Bool :=
  if (readL (Lib.cut p [58]).1).2 && (readL (Lib.cut p [58]).2.1).2 then (((readL (Lib.cut p [58]).1).1, (readL (Lib.cut p [58]).2.1).1), true) else ((0, 0), false)

theorem readL_back {l : List UInt8} (h : (readL l).2 = true) : Lib.itoa (readL l).1 = l := by
  by_cases hp : ReadP l
  · rw [readL, if_pos hp]
    exact hp.2.2.2
  · rw [readL_no hp] at h
    cases h

theorem readL_colon {l : List UInt8} (h : (58 : UInt8) ∈ l) : readL l = (0, false) := by
  refine readL_no fun hp => ?_
  have hm : (58 : UInt8) ∈ readT l := by
    unfold readT
    cases l with
    | nil => simp at h
    | cons a l =>
      by_cases ha : a = 45
      · subst ha
        simp only [List.head?_cons, if_true, List.tail_cons]
        simpa using h
      · rw [if_neg (by simpa using ha)]
        exact h
  have := List.all_eq_true.1 hp.2.2.1 58 hm
  exact absurd this (by decide)

theorem readL_nil : readL [] = (0, false) := readL_no fun hp => by have := hp.1; simp [readT] at this

theorem stepL_one {p : List UInt8} (h : (58 : UInt8) ∉ p) : stepL p = ((0, 0), false) := by
  rw [stepL, cut_no p 58 h]
  simp [readL_nil]

theorem stepL_two {a b : List UInt8} (h : (58 : UInt8) ∉ a) : stepL (a ++ 58 :: b) = if (readL a).2 && (readL b).2 then (((readL a).1, (readL b).1), true) else ((0, 0), false) := by
  rw [stepL, cut_yes a b 58 h]

theorem first_of (c : UInt8) : ∀ p : List UInt8, c ∈ p → ∃ a b, p = a ++ c :: b ∧ c ∉ a := by
  intro p
  induction p with
  | nil => intro h; simp at h
  | cons x p ih =>
    intro h
    by_cases hx : x = c
    · subst hx
      exact ⟨[], p, rfl, by simp⟩
    · obtain ⟨a, b, rfl, ha⟩ := ih (by
        rcases List.mem_cons.1 h with h | h
        · exact absurd h.symm hx
        · exact h)
      exact ⟨x :: a, b, rfl, by simp only [List.mem_cons, not_or]; exact ⟨fun e => hx e.symm, ha⟩⟩

theorem stepL_back {p : List UInt8} (h : (stepL p).2 = true) : stepB (stepL p).1 = p := by
  by_cases hm : (58 : UInt8) ∈ p
  · obtain ⟨a, b, rfl, ha⟩ := first_of 58 p hm
    rw [stepL_two ha] at h ⊢
    cases h1 : (readL a).2 <;> cases h2 : (readL b).2 <;> simp [h1, h2] at h ⊢
    rw [stepB, readL_back h1, readL_back h2]
  · rw [stepL_one hm] at h
    cases h

noncomputable def stepsOk (ps : List (List UInt8)) : Bool := ps.all fun p => (stepL p).2

noncomputable def stepsV (ps : List (List UInt8)) : List (Int × Int) := ps.map fun p => (stepL p).1

open Classical in
/-- The chart with this text, and whether there is one. -/
noncomputable def readCh (s : ByteArray) : List (Int × Int) × Bool :=
  if stepsOk (restL s 32) && chartB (stepsV (restL s 32)) then (stepsV (restL s 32), true) else ([], false)

/-- The words of a text, as bytes. -/
def wordsB (s : ByteArray) : List (List UInt8) := (wordsL s).map fun x => x.data.toList

theorem wordsB_rest (s : ByteArray) : wordsB s = (restL s 32).filter fun x => decide (x ≠ []) := by
  unfold wordsB wordsL restL
  rw [List.filter_map]
  congr 1
  apply List.filter_congr
  intro x _
  have : x.data.toList.length = x.size := Array.length_toList
  rcases hx : x.data.toList with _ | ⟨a, l⟩
  · rw [hx] at this
    have h0 : x.size = 0 := by simpa using this.symm
    simp [neB, h0, hx]
  · rw [hx] at this
    have h0 : x.size ≠ 0 := by simp at this; omega
    simp [neB, h0, hx]

theorem steps_map : ∀ ps : List (List UInt8), stepsOk ps = true → (stepsV ps).map stepB = ps
  | [], _ => rfl
  | p :: ps, h => by
    simp only [stepsOk, List.all_cons, Bool.and_eq_true] at h
    simp only [stepsV, List.map_cons]
    rw [stepL_back h.1]
    have := steps_map ps h.2
    unfold stepsV at this
    rw [this]

theorem readCh_words (s : ByteArray) : readCh s = if stepsOk (wordsB s) && chartB (stepsV (wordsB s)) && decide (textB (stepsV (wordsB s)) = s.data.toList) then (stepsV (wordsB s), true) else ([], false) := by
  have hj : Lib.join (restL s 32) [32] = s.data.toList := by simpa [restL] using restW_join s 32 s.size 0 0 rfl (Nat.le_refl _) (Nat.zero_le _)
  have hf : ∀ x ∈ restL s 32, (32 : UInt8) ∉ x := by
    intro x hx
    obtain ⟨y, hy, rfl⟩ := List.mem_map.1 hx
    exact restW_free s 32 s.size 0 0 rfl (Nat.le_refl _) (Nat.zero_le _) (fun j _ h => by omega) y hy
  have hn : restL s 32 ≠ [] := by simpa [restL] using restW_ne s 32 s.size 0 0 rfl
  have hw := wordsB_rest s
  unfold readCh
  generalize wordsB s = W at *
  generalize restL s 32 = R at *
  by_cases h1 : (stepsOk W && chartB (stepsV W) && decide (textB (stepsV W) = s.data.toList)) = true
  · rw [if_pos h1]
    simp only [Bool.and_eq_true, decide_eq_true_eq] at h1
    obtain ⟨⟨h2, h3⟩, h4⟩ := h1
    have hWn : W ≠ [] := by
      intro he
      subst he
      have := (chartB_iff.1 h3).2.1
      simp [stepsV] at this
    have : R = W := by
      refine split_uniq 32 R W hn hWn hf (fun x hx => hf x ?_) ?_
      · rw [hw] at hx; exact (List.mem_filter.1 hx).1
      · rw [hj, ← h4, textB, steps_map W h2]
    rw [this, h2, h3]
    rfl
  · rw [if_neg h1]
    by_cases h2 : (stepsOk R && chartB (stepsV R)) = true
    · exfalso
      apply h1
      simp only [Bool.and_eq_true] at h2
      have hWR : W = R := by
        rw [hw]
        apply List.filter_eq_self.2
        intro x hx
        have := List.all_eq_true.1 h2.1 x hx
        have hb := stepL_back this
        rw [decide_eq_true_eq]
        rintro rfl
        have hc := congrArg List.length hb
        simp [stepB] at hc
      rw [hWR]
      simp only [Bool.and_eq_true, decide_eq_true_eq]
      exact ⟨h2, by rw [textB, steps_map R h2.1, hj]⟩
    · rw [if_neg h2]

theorem restW_sz (s : ByteArray) (c : UInt8) : ∀ n pos beg, s.size - pos = n → ∀ x ∈ restW s c pos beg, x.size ≤ s.size := by
  have hex : ∀ a b, (s.extract a b).size ≤ s.size := fun a b => by rw [ByteArray.size_extract]; omega
  intro n
  induction n with
  | zero =>
    intro pos beg h x hx
    rw [restW, dif_neg (by omega)] at hx
    simp at hx
    subst hx
    exact hex _ _
  | succ n ih =>
    intro pos beg h x hx
    rw [restW, dif_pos (by omega)] at hx
    split at hx
    · rcases List.mem_cons.1 hx with rfl | hx
      · exact hex _ _
      · exact ih (pos + 1) (pos + 1) (by omega) x hx
    · exact ih (pos + 1) beg (by omega) x hx

/-- The step of a word. -/
noncomputable def stV (x : ByteArray) : Int × Int := (stepL x.data.toList).1

theorem stepL_parts (p : ByteArray) : ((restW p 58 0 0).length ≠ 2 ∧ (stepL p.data.toList).2 = false) ∨ ∃ a b, restW p 58 0 0 = [a, b] ∧ a.size ≤ p.size ∧ b.size ≤ p.size ∧
    ((((readL a.data.toList).2 = false ∨ (readL b.data.toList).2 = false) ∧ (stepL p.data.toList).2 = false) ∨
      ((readL a.data.toList).2 = true ∧ (readL b.data.toList).2 = true ∧ (stepL p.data.toList).2 = true ∧ stV p = ((readL a.data.toList).1, (readL b.data.toList).1))) := by
  have hj : Lib.join ((restW p 58 0 0).map fun x => x.data.toList) [58] = p.data.toList := by simpa using restW_join p 58 p.size 0 0 rfl (Nat.le_refl _) (Nat.zero_le _)
  have hf := restW_free p 58 p.size 0 0 rfl (Nat.le_refl _) (Nat.zero_le _) (fun j _ h => by omega)
  have hn := restW_ne p 58 p.size 0 0 rfl
  have hz := restW_sz p 58 p.size 0 0 rfl
  unfold stV
  generalize p.data.toList = l at *
  generalize restW p 58 0 0 = R at *
  match R with
  | [] => exact absurd rfl hn
  | [a] =>
    have := hf a (by simp)
    rw [List.map_cons, List.map_nil, Lib.join_one] at hj
    subst hj
    exact Or.inl ⟨by simp, by rw [stepL_one this]⟩
  | [a, b] =>
    have := hf a (by simp)
    rw [List.map_cons, List.map_cons, List.map_nil, join2, Lib.join_one] at hj
    subst hj
    refine Or.inr ⟨a, b, rfl, hz a (by simp), hz b (by simp), ?_⟩
    rw [stepL_two this]
    cases h1 : (readL a.data.toList).2 <;> cases h2 : (readL b.data.toList).2 <;> simp
  | a :: b :: c :: r =>
    have := hf a (by simp)
    rw [List.map_cons, List.map_cons, List.map_cons, join2, join2] at hj
    subst hj
    refine Or.inl ⟨by simp, ?_⟩
    rw [stepL_two this, readL_colon (l := b.data.toList ++ 58 :: _) (by simp)]
    simp

theorem readCh_bad {s : ByteArray} (k : Nat) (h : k < (restW s 32 0 0).length) (hb : (stepL (restW s 32 0 0)[k].data.toList).2 = false) : readCh s = ([], false) := by
  have : stepsOk (restL s 32) = false := by
    rw [stepsOk, List.all_eq_false]
    exact ⟨_, List.mem_map.2 ⟨_, List.getElem_mem h, rfl⟩, by simpa using hb⟩
  rw [readCh, this]
  simp

theorem readCh_end {s : ByteArray} (h : ∀ k, (hk : k < (restW s 32 0 0).length) → (stepL (restW s 32 0 0)[k].data.toList).2 = true) :
    readCh s = if chartB ((restW s 32 0 0).map stV) then ((restW s 32 0 0).map stV, true) else ([], false) := by
  have h1 : stepsOk (restL s 32) = true := by
    rw [stepsOk, List.all_eq_true]
    intro x hx
    obtain ⟨y, hy, rfl⟩ := List.mem_map.1 hx
    obtain ⟨k, hk, rfl⟩ := List.mem_iff_getElem.1 hy
    exact h k hk
  have h2 : stepsV (restL s 32) = (restW s 32 0 0).map stV := by
    rw [stepsV, restL, List.map_map]
    rfl
  rw [readCh, h1, h2]
  simp

theorem RowF_wide {e sz : Nat} {w : World} {lo hi hi' : Nat} {v : Value} {n : Nat} {xs : List Value} (h : RowF e sz w lo hi v n xs) (hh : hi ≤ hi') : RowF e sz w lo hi' v n xs :=
  ⟨h.1, fun g hg => ⟨(h.2 g hg).1, by have := (h.2 g hg).2; omega⟩⟩

/-- append of one pair to a row of the call's own, and where the new row lies. -/
theorem wp_appendG {ops : Array Oper} {rest : List Oper} {o : Oper} {a : Act} {Q : Exit → Act → World → Prop} {W wr : World} (hgd : o.guard = none) (s x : Operand)
    (ho : o.op = .call { callee := .builtin .append, args := #[s, x], argTypes := #[25, 25] })
    (lo : Nat) (v : Value) (zs : List (Int × Int)) (p q : Int) (hs : a.eval s = v) (hrow : RowF 36 2 wr lo wr.heap.size v zs.length (flatP zs)) (hx : a.eval x = .slice (some ⟨wr.heap.size, 0, none⟩) 1 1)
    (hW : Below W.heap.size W wr) (hlo : W.heap.size ≤ lo) (hlo2 : lo ≤ wr.heap.size) (hn : zs.length < 1000000000)
    (h : ∀ v' w', RowF 36 2 w' lo w'.heap.size v' (zs ++ [(p, q)]).length (flatP (zs ++ [(p, q)])) → Below W.heap.size W w' → wr.heap.size ≤ w'.heap.size →
      wr.grownBy w' v.ownBlock → (∀ g, v'.ownBlock = some g → v.ownBlock = some g ∨ wr.heap.size ≤ g) → wpList Tryd.prog ops Q rest (a.put o.dst v') w') :
    wpList Tryd.prog ops Q (o :: rest) a (wr.alloc (.cells #[.int .i64 p, .int .i64 q] 36)) := by
  obtain ⟨i0, hi, hz0, hz1, hz2⟩ := info_parts info_step
  refine wpList_append_own_at _ hgd s x _ ho lo 36 i0 (.agg #[.int .i64 0, .int .i64 0]) 2 16 Tryd.underlying25 hi hz0 hz1 hz2 rfl (by decide) v zs.length _ hs (hrow.1.alloc _) ⟨wr.heap.size, 0, none⟩ 1 1 [.int .i64 p, .int .i64 q] hx rfl ?_ ?_ ?_ ?_ ?_ ?_
  · intro j u hj
    match j with
    | 0 => simp at hj; subst hj; simp [Addr.add]
    | 1 => simp at hj; subst hj; simp [Addr.add]
    | j + 2 => simp at hj
  · intro u hu; simp at hu; rcases hu with rfl | rfl <;> rfl
  · unfold maxLen; omega
  · omega
  · simp; omega
  · intro v' w' hown hg _ hat
    rw [flatP_snoc] at hown
    have hrow' : RowF 36 2 w' lo w'.heap.size v' (zs ++ [(p, q)]).length (flatP (zs ++ [(p, q)])) := ⟨by simpa using hown, hown.lt⟩
    have hal : Below wr.heap.size wr (wr.alloc (.cells #[.int .i64 p, .int .i64 q] 36)) := by go_grown
    refine h v' w' hrow' ?_ (Nat.le_trans (by simp) hg.size) ?_ ?_
    · refine grown_below (hW.alloc hW.size _) hg (fun g hg2 => ?_)
      have := (hrow.2 g hg2).1
      omega
    · exact grown_step ⟨hal.os, hal.tape, hal.output, hal.size, fun i hi _ => hal.block i hi⟩ hg
    · intro g hg2
      rcases hat with h1 | h1
      · exact Or.inl (by rw [← h1]; exact hg2)
      · rw [h1] at hg2
        refine Or.inr ?_
        have := Option.some.inj hg2
        simp at this
        omega

theorem RdS_cell {w : World} {A : Option Addr} {n c : Nat} {ss : List ByteArray} (h : RdS w (.slice A n c) ss) : ∀ k, (hk : k < ss.length) → ∃ b off, A = some ⟨b, off, none⟩ ∧ b < w.heap.size ∧ w.cell? ⟨b, off + k, none⟩ = some (.string ss[k]) := by
  obtain ⟨A', c', he, _, r⟩ := RdS_at h
  cases he
  exact r

set_option maxRecDepth 100000 in
theorem specReadChart_any (s : ByteArray) (hs : s.size ≤ 1000000) (w : World) :
    Calls Tryd.prog 10 #[.string s] w fun e w' => ∃ v', e = .returned (.tuple #[v', .bool (readCh s).2]) ∧ RowF 36 2 w' w.heap.size w'.heap.size v' (readCh s).1.length (flatP (readCh s).1) ∧ Below w.heap.size w w' := by
  have HP := Lib.hid (fun w => specSplit_any s 32 hs w)
  have hlen := restW_len s 32 s.size 0 0 rfl
  have hbad := @readCh_bad s
  have hend := @readCh_end s
  have hsz := restW_sz s 32 s.size 0 0 rfl
  generalize readCh s = R at *
  generalize restW s 32 0 0 = ps at *
  have hpl : ps.length ≤ 1000001 := by omega
  clear hlen
  have Hbad := Lib.hid hbad; clear hbad
  have Hend := Lib.hid hend; clear hend
  have Hsz := Lib.hid hsz; clear hsz
  go_enter Tryd.func10, Tryd.ntmps10
  go_wp2_with fail
  refine (HP.out _).mono ?_
  rintro e w1 ⟨v1, rfl, r1, b1⟩
  obtain ⟨A, c, rfl, hl, r⟩ := RdS_at (RowF_rd r1 : RdS w1 v1 ps)
  clear r
  have hs1 := b1.size
  simp at hs1
  simp only [World.alloc, Array.size_push] at r1
  have hs0 : w.heap.size ≤ w1.heap.size := by omega
  have r0 : RowF 36 2 (w.alloc (.cells #[] 36)) w.heap.size (w.heap.size + 1) (.slice (some ⟨w.heap.size, 0, none⟩) 0 0) 0 [] := ⟨World.ownsRow_lit w #[] 0 (Nat.le_refl _) (by decide) (by rfl), fun g hg => by simp [Value.ownBlock] at hg; subst hg; simp⟩
  replace r0 := RowF_kept r0 b1
  have b0 : Below w.heap.size w w1 := kept_trans (by go_grown) b1
  go_wp2_with fail
  go_loopw [4, 6] (fun o i wr => ∃ (k : Nat) (ov : Value), k ≤ ps.length ∧ ov = o ∧ i = .int .i64 k ∧ RowF 36 2 wr w.heap.size wr.heap.size ov ((ps.take k).map stV).length (flatP ((ps.take k).map stV)) ∧ Below w.heap.size w wr ∧ RowF 9 1 wr (w.heap.size + 1) w1.heap.size (.slice A ps.length c) ps.length (strV ps) ∧ w1.heap.size ≤ wr.heap.size ∧ (∀ g, ov.ownBlock = some g → g < w.heap.size + 1 ∨ w1.heap.size ≤ g) ∧ ∀ j, (hj : j < ps.length) → j < k → (stepL ps[j].data.toList).2 = true) (fun _ i _ => ps.length - (intOf i).toNat)
  case atStart => exact ⟨0, _, by omega, rfl, rfl, ⟨r0.1, fun g hg => ⟨(r0.2 g hg).1, by have := (r0.2 g hg).2; omega⟩⟩, b0, r1, Nat.le_refl _, fun g hg => Or.inl (r0.2 g hg).2, fun j _ hj => by omega⟩
  case round =>
    obtain ⟨k, ov, hk, ho, rfl, hrow, hb, hstr, h1r, hfar, hall⟩ := hrel
    subst ho
    have hsz := hb.size
    by_cases hlt : k < ps.length
    · obtain ⟨b, off, rfl, hbl, hc⟩ := RdS_cell (RowF_rd hstr) k hlt
      have HST := Lib.hid hstr; clear hstr
      have HFAR := Lib.hid hfar; clear hfar
      have hps := Hsz.out ps[k] (List.getElem_mem hlt)
      have hSP := stepL_parts ps[k]
      have hbd := Hbad.out k hlt
      have hal2 : (stepL ps[k].data.toList).2 = true → ∀ j, (hj : j < ps.length) → j < k + 1 → (stepL ps[j].data.toList).2 = true := fun h j hj hj2 => by
        by_cases he : j = k
        · subst he; exact h
        · exact hall j hj (by omega)
      have hnext : (ps.take (k + 1)).map stV = (ps.take k).map stV ++ [stV ps[k]] := by
        rw [← List.take_append_getElem hlt, List.map_append]
        rfl
      have hul : ((ps.take k).map stV).length ≤ 1000001 := by rw [List.length_map, List.length_take]; omega
      have HSP2 := Lib.hid (fun w => specSplit_any ps[k] 58 (by omega) w)
      generalize (ps.take k).map stV = us at *
      generalize (stepL ps[k].data.toList).2 = ok at *
      generalize stV ps[k] = z at *
      obtain ⟨x0, y0⟩ := z
      generalize restW ps[k] 58 0 0 = qs at *
      generalize ps[k] = x at *
      have HA := Lib.hid hall; clear hall
      have HA2 := Lib.hid hal2; clear hal2
      have HW := Lib.hid hrow; clear hrow
      have HN := Lib.hid hnext; clear hnext
      have HBD := Lib.hid hbd; clear hbd
      rcases hSP with ⟨hq, hok⟩ | ⟨a, b2, rfl, ha, hb2, hcase⟩
      · have HBR := Lib.hid (HBD.out hok)
        subst hok
        go_wp2_with fail
        refine (HSP2.out _).mono ?_
        rintro e w2 ⟨v2, rfl, r2, b2⟩
        obtain ⟨A2, c2, rfl, hl2, r2'⟩ := RdS_at (RowF_rd r2 : RdS w2 v2 qs)
        clear r2 r2'
        have hq2 : ¬ ((qs.length : Int) = 2) := by omega
        have hq3 : decide ((qs.length : Int) = 2) = false := decide_eq_false hq2
        go_wp2
        go_ret2
        exact ⟨_, by rw [HBR.out]; rfl, by rw [HBR.out]; exact RowF_nil _ _ _ _ _, kept_trans hb b2⟩
      · have HNa := Lib.hid (fun w => specNum_any a (by omega) w)
        have HNb := Lib.hid (fun w => specNum_any b2 (by omega) w)
        generalize readL a.data.toList = ra at *
        generalize readL b2.data.toList = rb at *
        obtain ⟨xa, oka⟩ := ra
        obtain ⟨xb, okb⟩ := rb
        simp only [Prod.mk.injEq] at hcase
        cases oka <;> cases okb
        all_goals
          simp only [Bool.false_eq_true, true_or, or_true, or_self, false_and, and_false, or_false, true_and, false_or, reduceCtorEq] at hcase
        all_goals
          have HCA := Lib.hid hcase; clear hcase
          go_wp2_with fail
          refine (HSP2.out _).mono ?_
          rintro e w2 ⟨v2, rfl, r2, hb2⟩
          obtain ⟨A2, c2, rfl, hl2, r2'⟩ := RdS_at (RowF_rd r2 : RdS w2 v2 [a, b2])
          clear r2
          obtain ⟨ba, offa, rfl, hba, hca⟩ := r2' 0 (by simp)
          obtain ⟨bb, offb, hAe, hbb, hcb⟩ := r2' 1 (by simp)
          cases hAe
          clear r2'
          simp only [List.getElem_cons_zero, List.getElem_cons_succ, List.length_cons, List.length_nil, Nat.zero_add, Nat.reduceAdd, Nat.add_zero] at hca hcb hl2
          have hbW := kept_trans hb hb2
          have hst2 := RowF_kept HST.out hb2
          have hrow2 := RowF_kept HW.out hb2
          have hsz2 := hb2.size
          have HW2 := Lib.hid hrow2; clear hrow2
          simp only [List.length_cons, List.length_nil, Nat.zero_add, Nat.reduceAdd]
          go_wp2_with fail
          refine (HNa.out _).mono ?_
          rintro e w3 ⟨rfl, hb3⟩
          rw [← kept_cell hb3 ba _ hba] at hcb
          have hrow3 := RowF_kept HW2.out hb3
          have hsz3 := hb3.size
          have HW3 := Lib.hid hrow3; clear hrow3
          replace hbW := kept_trans hbW hb3
          replace hst2 := RowF_kept hst2 hb3
          go_wp2_with fail
          refine (HNb.out _).mono ?_
          rintro e w4 ⟨rfl, hb4⟩
          have hrow4 := RowF_kept HW3.out hb4
          have hsz4 := hb4.size
          have HW4 := Lib.hid hrow4; clear hrow4
          replace hbW := kept_trans hbW hb4
          replace hst2 := RowF_kept hst2 hb4
          have HST2 := Lib.hid hst2; clear hst2
        rotate_left 3
        ·
          obtain ⟨hok, hz⟩ := HCA.out
          have hal := HA2.out hok
          clear hok HA2 HA HBD
          obtain ⟨hz1, hz2⟩ := hz
          subst hz1
          subst hz2
          have HAL := Lib.hid hal; clear hal
          go_wp2_with (at_builtin; go_must (refine wp_appendG rfl (.tmp 49) (.tmp 53) rfl w.heap.size ov us _ _ rfl (RowF_wide HW4.out (by omega)) rfl hbW (Nat.le_refl _) (by omega) (by omega) ?_); intro v' w' hrow' hb' hs' hgr hat)
          have hst3 := RowF_far HST2.out hgr HFAR.out
          have hfar3 : ∀ g, v'.ownBlock = some g → g < w.heap.size + 1 ∨ w1.heap.size ≤ g := fun g hg => (hat g hg).elim (HFAR.out g) (fun h => Or.inr (by omega))
          have HST3 := Lib.hid hst3; clear hst3
          have HFAR3 := Lib.hid hfar3; clear hfar3 hat
          go_roundw
          case rel => exact ⟨k + 1, v', by omega, rfl, by go_num, by rw [HN.out]; exact hrow', hb', HST3.out, by omega, HFAR3.out, HAL.out⟩
          case measure => simp [intOf]; omega
        all_goals
          have HBR := Lib.hid (HBD.out HCA.out)
          go_wp2
          go_ret2
          exact ⟨_, by rw [HBR.out]; rfl, by rw [HBR.out]; exact RowF_nil _ _ _ _ _, hbW⟩
    · have hkk : k = ps.length := by omega
      subst hkk
      rw [List.take_of_length_le (Nat.le_refl _)] at hrow
      have he := Hend.out (fun j hj => hall j hj hj)
      clear hall
      have hch := fun v w h => specChart_any v (ps.map stV) w h
      generalize ps.map stV = us at *
      have HE := Lib.hid he; clear he
      have HC := Lib.hid (hch _ _ (RowF_rd hrow)); clear hch
      have HW := Lib.hid hrow; clear hrow
      cases hcb : chartB us
      all_goals
        rw [hcb] at HC HE
        go_wp2_with fail
        refine HC.out.mono ?_
        rintro e w2 ⟨rfl, hb2⟩
        have hrow2 := RowF_kept HW.out hb2
        have hsz2 := hb2.size
        have HW2 := Lib.hid hrow2; clear hrow2
        go_wp2
        go_ret2
        first
          | exact ⟨_, by rw [HE.out]; rfl, by rw [HE.out]; exact RowF_nil _ _ _ _ _, kept_trans hb hb2⟩
          | exact ⟨_, by rw [HE.out]; rfl, by rw [HE.out]; exact ⟨HW2.out.1, fun g hg => ⟨(HW2.out.2 g hg).1, by have := (HW2.out.2 g hg).2; omega⟩⟩, kept_trans hb hb2⟩

theorem readCh_wbad {s : ByteArray} (k : Nat) (h : k < (wordsL s).length) (hb : (stepL (wordsL s)[k].data.toList).2 = false) : readCh s = ([], false) := by
  have : stepsOk (wordsB s) = false := by
    rw [stepsOk, List.all_eq_false]
    exact ⟨_, List.mem_map.2 ⟨_, List.getElem_mem h, rfl⟩, by simpa using hb⟩
  rw [readCh_words, this]
  simp

theorem readCh_wend {s : ByteArray} (h : ∀ k, (hk : k < (wordsL s).length) → (stepL (wordsL s)[k].data.toList).2 = true) :
    readCh s = if chartB ((wordsL s).map stV) && decide (textB ((wordsL s).map stV) = s.data.toList) then ((wordsL s).map stV, true) else ([], false) := by
  have h1 : stepsOk (wordsB s) = true := by
    rw [stepsOk, List.all_eq_true]
    intro x hx
    obtain ⟨y, hy, rfl⟩ := List.mem_map.1 hx
    obtain ⟨k, hk, rfl⟩ := List.mem_iff_getElem.1 hy
    exact h k hk
  have h2 : stepsV (wordsB s) = (wordsL s).map stV := by
    rw [stepsV, wordsB, List.map_map]
    rfl
  rw [readCh_words, h1, h2]
  simp

theorem cut_len (l : List UInt8) (c : UInt8) : (Lib.cut l [c]).1.length ≤ l.length ∧ (Lib.cut l [c]).2.1.length ≤ l.length := by
  unfold Lib.cut
  split
  · simp only [List.length_take, List.length_drop]
    omega
  · simp

/-- The library's bound of a search has been laid. -/
def MaxW (w : World) : Prop := 1 < w.heap.size ∧ ∃ m, w.cell? ⟨1, 0, none⟩ = some (.int .i64 m)

theorem MaxW_kept {W w1 : World} (h : MaxW W) (hb : Below W.heap.size W w1) : MaxW w1 := by
  obtain ⟨h1, m, h2⟩ := h
  exact ⟨Nat.lt_of_lt_of_le h1 hb.size, m, by rw [kept_cell hb _ _ h1]; exact h2⟩

theorem MaxW_alloc {W : World} (h : MaxW W) (o : Obj) : MaxW (W.alloc o) := MaxW_kept h (by go_grown)

set_option maxRecDepth 100000 in
theorem readStep_any (p : ByteArray) (hp : p.size ≤ 1000000) (w : World) (ht : TextW w) (hm : MaxW w) :
    Calls Tryd.prog 26 #[.string p] w fun e w' => e = .returned (.tuple #[.agg #[.int .i64 (stepL p.data.toList).1.1, .int .i64 (stepL p.data.toList).1.2], .bool (stepL p.data.toList).2]) ∧ Below w.heap.size w w' := by
  have hl : p.data.toList.length = p.size := Array.length_toList
  obtain ⟨hm1, m, hm2⟩ := MaxW_alloc hm (.cells #[.int .i64 0, .int .i64 0] 36)
  have hC := Tryd.strings_Cut p ⟨#[58]⟩ m _ (by omega) hm2
  rw [show (ByteArray.mk #[58]).data.toList = [58] from rfl] at hC
  obtain ⟨hc1, hc2⟩ := cut_len p.data.toList 58
  unfold stepL
  generalize Lib.cut p.data.toList [58] = C at *
  obtain ⟨l, r, f⟩ := C
  simp only [] at hC hc1 hc2 ⊢
  have HNl := Lib.hid (fun w ht => implReadDec_any ⟨l.toArray⟩ (by rw [cat_size]; omega) w ht)
  have HNr := Lib.hid (fun w ht => implReadDec_any ⟨r.toArray⟩ (by rw [cat_size]; omega) w ht)
  rw [show (ByteArray.mk l.toArray).data.toList = l by simp] at HNl
  rw [show (ByteArray.mk r.toArray).data.toList = r by simp] at HNr
  generalize ByteArray.mk l.toArray = bl at *
  generalize ByteArray.mk r.toArray = br at *
  generalize readL l = ra at *
  generalize readL r = rb at *
  obtain ⟨xa, oka⟩ := ra
  obtain ⟨xb, okb⟩ := rb
  have HC := Lib.hid hC; clear hC
  have HT := Lib.hid (TextW_kept ht (show Below w.heap.size w (w.alloc (.cells #[.int .i64 0, .int .i64 0] 36)) by go_grown))
  clear ht hm hm2
  cases oka <;> cases okb
  all_goals
    simp only [Bool.and_true, Bool.and_false, Bool.and_self, Bool.true_and, Bool.false_and, if_true, Bool.false_eq_true, if_false]
    go_enter Tryd.func26, Tryd.ntmps26
    go_wp2_with fail
    refine HC.out.mono ?_
    rintro e w1 ⟨rfl, q, rfl⟩
    go_wp2_with fail
    refine (HNl.out _ (TextW_kept HT.out (kept_drewN (Below.refl _ _) _))).mono ?_
    rintro e w2 ⟨rfl, hb2⟩
    have hbW : Below w.heap.size w w2 := kept_trans (kept_drewN (by go_grown) _) hb2
    have hblk : w2.heap[w.heap.size]? = some (.cells #[.int .i64 0, .int .i64 0] 36) := by
      rw [hb2.block _ (by simp)]
      exact heap_alloc_new w _
    have HT2 := Lib.hid (TextW_kept (TextW_kept HT.out (kept_drewN (Below.refl _ _) q)) hb2)
    clear hb2
  rotate_left 2
  iterate 2
    · go_wp2_with fail
      refine (HNr.out _ HT2.out).mono ?_
      rintro e w3 ⟨rfl, hb3⟩
      have hblk3 : w3.heap[w.heap.size]? = some (.cells #[.int .i64 0, .int .i64 0] 36) := by
        rw [hb3.block _ (Array.getElem?_eq_some_iff.1 hblk).1]
        exact hblk
      have hcl0 : w3.cell? ⟨w.heap.size, 0, none⟩ = some (.int .i64 0) := by simp [World.cell?, hblk3]
      have hcl1 : w3.cell? ⟨w.heap.size, 1, none⟩ = some (.int .i64 0) := by simp [World.cell?, hblk3]
      have hf0 : w3.frozen? ⟨w.heap.size, 0, none⟩ = false := by simp [World.frozen?, hblk3]
      have hf1 : w3.frozen? ⟨w.heap.size, 1, none⟩ = false := by simp [World.frozen?, hblk3]
      replace hbW := kept_trans hbW hb3
      clear hblk hblk3
      go_wp2
      (try simp only [Exit.inBlock, Exit.then])
      first
        | refine bodyPost_ret (v := .tuple #[.agg #[.int .i64 0, .int .i64 0], .bool false]) ?_ rfl ⟨rfl, ?_⟩
        | refine bodyPost_ret (v := .tuple #[.agg #[.int .i64 xa, .int .i64 xb], .bool true]) ?_ rfl ⟨rfl, ?_⟩
      · rw [results_cell_tmp rfl]
        go_simp
      · exact (hbW.setCell (Nat.le_refl _) _).setCell (Nat.le_refl _) _
  all_goals
    have hcl0 : w2.cell? ⟨w.heap.size, 0, none⟩ = some (.int .i64 0) := by simp [World.cell?, hblk]
    have hcl1 : w2.cell? ⟨w.heap.size, 1, none⟩ = some (.int .i64 0) := by simp [World.cell?, hblk]
    have hf0 : w2.frozen? ⟨w.heap.size, 0, none⟩ = false := by simp [World.frozen?, hblk]
    have hf1 : w2.frozen? ⟨w.heap.size, 1, none⟩ = false := by simp [World.frozen?, hblk]
    clear hblk
    go_wp2
    (try simp only [Exit.inBlock, Exit.then])
    refine bodyPost_ret (v := .tuple #[.agg #[.int .i64 0, .int .i64 0], .bool false]) ?_ rfl ⟨rfl, ?_⟩
    · rw [results_cell_tmp rfl]
      go_simp
    · exact (hbW.setCell (Nat.le_refl _) _).setCell (Nat.le_refl _) _

theorem wordsL_sz (s : ByteArray) : ∀ x ∈ wordsL s, x.size ≤ s.size := fun x hx => restW_sz s 32 s.size 0 0 rfl x (List.mem_filter.1 hx).1

set_option maxRecDepth 100000 in
theorem implReadChart_any (s : ByteArray) (hs : s.size ≤ 1000000) (w : World) (ht : TextW w) (hm : MaxW w) :
    Calls Tryd.prog 11 #[.string s] w fun e w' => ∃ v', e = .returned (.tuple #[v', .bool (readCh s).2]) ∧ RowF 36 2 w' w.heap.size w'.heap.size v' (readCh s).1.length (flatP (readCh s).1) ∧ Below w.heap.size w w' := by
  have HP := Lib.hid (fun w => implWords_any s hs w)
  have hlen : (wordsL s).length ≤ 1000001 := by
    have := restW_len s 32 s.size 0 0 rfl
    exact Nat.le_trans (List.length_filter_le _ _) (by omega)
  have hbad := @readCh_wbad s
  have hend := @readCh_wend s
  have hsz := wordsL_sz s
  generalize readCh s = R at *
  generalize wordsL s = ps at *
  have Hbad := Lib.hid hbad; clear hbad
  have Hend := Lib.hid hend; clear hend
  have Hsz := Lib.hid hsz; clear hsz
  have HT := Lib.hid ht; clear ht
  have HM := Lib.hid hm; clear hm
  go_enter Tryd.func11, Tryd.ntmps11
  go_wp2_with fail
  refine (HP.out _).mono ?_
  rintro e w1 ⟨v1, rfl, r1, b1⟩
  obtain ⟨A, c, rfl, hl, r⟩ := RdS_at (RowF_rd r1 : RdS w1 v1 ps)
  clear r
  have hs1 := b1.size
  simp at hs1
  simp only [World.alloc, Array.size_push] at r1
  have hs0 : w.heap.size ≤ w1.heap.size := by omega
  have r0 : RowF 36 2 (w.alloc (.cells #[] 36)) w.heap.size (w.heap.size + 1) (.slice (some ⟨w.heap.size, 0, none⟩) 0 0) 0 [] := ⟨World.ownsRow_lit w #[] 0 (Nat.le_refl _) (by decide) (by rfl), fun g hg => by simp [Value.ownBlock] at hg; subst hg; simp⟩
  replace r0 := RowF_kept r0 b1
  have b0 : Below w.heap.size w w1 := kept_trans (by go_grown) b1
  go_wp2_with fail
  go_loopw [4, 13] (fun o i wr => ∃ (k : Nat) (ov : Value), k ≤ ps.length ∧ ov = o ∧ i = .int .i64 k ∧ RowF 36 2 wr w.heap.size wr.heap.size ov ((ps.take k).map stV).length (flatP ((ps.take k).map stV)) ∧ Below w.heap.size w wr ∧ RowF 9 1 wr (w.heap.size + 1) w1.heap.size (.slice A ps.length c) ps.length (strV ps) ∧ w1.heap.size ≤ wr.heap.size ∧ (∀ g, ov.ownBlock = some g → g < w.heap.size + 1 ∨ w1.heap.size ≤ g) ∧ ∀ j, (hj : j < ps.length) → j < k → (stepL ps[j].data.toList).2 = true) (fun _ i _ => ps.length - (intOf i).toNat)
  case atStart => exact ⟨0, _, by omega, rfl, rfl, ⟨r0.1, fun g hg => ⟨(r0.2 g hg).1, by have := (r0.2 g hg).2; omega⟩⟩, b0, r1, Nat.le_refl _, fun g hg => Or.inl (r0.2 g hg).2, fun j _ hj => by omega⟩
  case round =>
    obtain ⟨k, ov, hk, ho, rfl, hrow, hb, hstr, h1r, hfar, hall⟩ := hrel
    subst ho
    have hsz := hb.size
    by_cases hlt : k < ps.length
    · obtain ⟨b, off, rfl, hbl, hc⟩ := RdS_cell (RowF_rd hstr) k hlt
      have HST := Lib.hid hstr; clear hstr
      have HFAR := Lib.hid hfar; clear hfar
      have hps := Hsz.out ps[k] (List.getElem_mem hlt)
      have hbd := Hbad.out k hlt
      have hal2 : (stepL ps[k].data.toList).2 = true → ∀ j, (hj : j < ps.length) → j < k + 1 → (stepL ps[j].data.toList).2 = true := fun h j hj hj2 => by
        by_cases he : j = k
        · subst he; exact h
        · exact hall j hj (by omega)
      have hnext : (ps.take (k + 1)).map stV = (ps.take k).map stV ++ [stV ps[k]] := by
        rw [← List.take_append_getElem hlt, List.map_append]
        rfl
      have hul : ((ps.take k).map stV).length ≤ 1000001 := by rw [List.length_map, List.length_take]; omega
      have HRS := Lib.hid (readStep_any ps[k] (by omega) wr (TextW_kept HT.out hb) (MaxW_kept HM.out hb))
      rw [show stV ps[k] = (stepL ps[k].data.toList).1 from rfl] at hnext
      generalize (ps.take k).map stV = us at *
      generalize stepL ps[k].data.toList = so at *
      obtain ⟨⟨x0, y0⟩, ok⟩ := so
      generalize ps[k] = x at *
      simp only [] at hbd hal2 hnext
      have HA := Lib.hid hall; clear hall
      have HA2 := Lib.hid hal2; clear hal2
      have HW := Lib.hid hrow; clear hrow
      have HN := Lib.hid hnext; clear hnext
      have HBD := Lib.hid hbd; clear hbd
      cases ok
      · have HBR := Lib.hid (HBD.out rfl)
        go_wp2_with fail
        refine HRS.out.mono ?_
        rintro e w2 ⟨rfl, hb2⟩
        have hbW := kept_trans hb hb2
        have hszW := hbW.size
        go_wp2
        go_ret2
        exact ⟨_, by rw [HBR.out]; rfl, by rw [HBR.out]; exact RowF_nil _ _ _ _ _, by go_grown⟩
      · have HAL := Lib.hid (HA2.out rfl)
        go_wp2_with fail
        refine HRS.out.mono ?_
        rintro e w2 ⟨rfl, hb2⟩
        have hbW := kept_trans hb hb2
        have hszW := hbW.size
        have hst2 := RowF_kept HST.out hb2
        have hrow2 := RowF_kept HW.out hb2
        have hsz2 := hb2.size
        have hbA : Below w2.heap.size w2 (w2.alloc (.cells #[.int .i64 x0, .int .i64 y0] 36)) := by go_grown
        replace hst2 := RowF_kept hst2 hbA
        replace hrow2 := RowF_kept hrow2 hbA
        replace hbW := kept_trans hbW hbA
        have hszA := hbA.size
        have HST2 := Lib.hid hst2; clear hst2
        have HW2 := Lib.hid hrow2; clear hrow2
        go_wp2_with (at_builtin; go_must (refine wp_appendG rfl (.tmp 24) (.tmp 26) rfl w.heap.size ov us _ _ rfl (RowF_wide HW2.out (by omega)) (by simp [Act.eval]) hbW (Nat.le_refl _) (by omega) (by omega) ?_); intro v' w' hrow' hb' hs' hgr hat)
        have hst3 := RowF_far HST2.out hgr HFAR.out
        have hfar3 : ∀ g, v'.ownBlock = some g → g < w.heap.size + 1 ∨ w1.heap.size ≤ g := fun g hg => (hat g hg).elim (HFAR.out g) (fun h => Or.inr (by omega))
        have HST3 := Lib.hid hst3; clear hst3
        have HFAR3 := Lib.hid hfar3; clear hfar3 hat
        go_roundw
        case rel => exact ⟨k + 1, v', by omega, rfl, by go_num, by rw [HN.out]; exact hrow', hb', HST3.out, by omega, HFAR3.out, HAL.out⟩
        case measure => simp [intOf]; omega
    · have hkk : k = ps.length := by omega
      subst hkk
      rw [List.take_of_length_le (Nat.le_refl _)] at hrow
      have he := Hend.out (fun j hj => hall j hj hj)
      clear hall
      have HC := Lib.hid (implChart_any ov (ps.map stV) wr (RowF_rd hrow))
      have HX := Lib.hid (fun w1 h ht => implChartText_any ov (ps.map stV) w1 h ht)
      generalize ps.map stV = us at *
      have HE := Lib.hid he; clear he
      have HW := Lib.hid hrow; clear hrow
      cases hcb : chartB us
      · rw [hcb] at HC HE
        have HBR := Lib.hid (show R = ([], false) by rw [HE.out]; try simp)
        go_wp2_with fail
        refine HC.out.mono ?_
        rintro e w2 ⟨rfl, hb2⟩
        have hbW := kept_trans hb hb2
        go_wp2
        go_ret2
        exact ⟨_, by rw [HBR.out]; rfl, by rw [HBR.out]; exact RowF_nil _ _ _ _ _, hbW⟩
      · have HCT := Lib.hid (show chartTextL us = textB us by simp [chartTextL, hcb])
        rw [hcb] at HC HE
        rw [HCT.out] at HX
        by_cases htx : textB us = s.data.toList
        · have HBR := Lib.hid (show R = (us, true) by rw [HE.out]; try simp [htx])
          have hse : (ByteArray.mk (textB us).toArray) = s := by rw [htx]; try simp
          rw [hse] at HX
          have heq : (s.toList == s.toList) = true := by simp
          go_wp2_with fail
          refine HC.out.mono ?_
          rintro e w2 ⟨rfl, hb2⟩
          have hbW := kept_trans hb hb2
          have hrow2 := RowF_kept HW.out hb2
          have hsz2 := hb2.size
          have HW2 := Lib.hid hrow2; clear hrow2
          go_wp2_with fail
          refine (HX.out _ (RowF_rd HW2.out) (TextW_kept HT.out hbW).1).mono ?_
          rintro e w3 ⟨rfl, hb3⟩
          have hrow3 := RowF_kept HW2.out hb3
          have hsz3 := hb3.size
          have HW3 := Lib.hid hrow3; clear hrow3
          replace hbW := kept_trans hbW hb3
          go_wp2
          go_ret2
          exact ⟨_, by rw [HBR.out]; rfl, by rw [HBR.out]; exact RowF_wide HW3.out (by omega), hbW⟩
        · have HBR := Lib.hid (show R = ([], false) by rw [HE.out]; try simp [htx])
          have hne : ¬ ((ByteArray.mk (textB us).toArray) = s) := fun e => htx (by rw [← e])
          have hne2 := str_ne hne
          generalize ByteArray.mk (textB us).toArray = tx at *
          go_wp2_with fail
          refine HC.out.mono ?_
          rintro e w2 ⟨rfl, hb2⟩
          have hbW := kept_trans hb hb2
          have hrow2 := RowF_kept HW.out hb2
          have HW2 := Lib.hid hrow2; clear hrow2
          go_wp2_with fail
          refine (HX.out _ (RowF_rd HW2.out) (TextW_kept HT.out hbW).1).mono ?_
          rintro e w3 ⟨rfl, hb3⟩
          replace hbW := kept_trans hbW hb3
          go_wp2
          go_ret2
          exact ⟨_, by rw [HBR.out]; rfl, by rw [HBR.out]; exact RowF_nil _ _ _ _ _, hbW⟩

theorem readCh_len (s : ByteArray) (hs : s.size ≤ 1000000) : (readCh s).1.length ≤ 1000001 := by
  have := restW_len s 32 s.size 0 0 rfl
  unfold readCh
  split
  · simp only [stepsV, restL, List.length_map]
    omega
  · simp

theorem maxW_of {W : World} (h : W.ShapedOpen Tryd.prog) : MaxW W := by
  obtain ⟨m, hm⟩ := cell_of_shapedOpen_int (zero := #[.int .i64 0]) (t := 3) (g := 1) h (of_decide_eq_true (by kernel_rfl)) (by kernel_rfl) rfl (by kernel_rfl) (by kernel_rfl) Tryd.underlying3
  refine ⟨?_, m, hm⟩
  rcases Nat.lt_or_ge 1 W.heap.size with h1 | h1
  · exact h1
  · simp [World.cell?, Array.getElem?_eq_none h1] at hm

theorem walk_FnExactReadChart (s : ByteArray) (hs : s.size ≤ maxLen) (w : World) (ht : TextW w) (hm : MaxW w) :
    Calls Tryd.prog 4 #[.string s] w fun e w' => e = .returned (.bool true) ∧ Below w.heap.size w w' := by
  unfold maxLen at hs
  by_cases hl : s.size ≤ 1000000
  · have hS := fun w => specReadChart_any s hl w
    have hI := fun w ht hm => implReadChart_any s hl w ht hm
    have hlen := readCh_len s hl
    generalize readCh s = F at *
    obtain ⟨zs, ok⟩ := F
    simp only [] at hS hI hlen
    have HS := Lib.hid hS; clear hS
    have HI := Lib.hid hI; clear hI
    have HT := Lib.hid ht; clear ht
    have HM := Lib.hid hm; clear hm
    go_enter Tryd.func4, Tryd.ntmps4
    go_wp2_with fail
    refine (HS.out _).mono ?_
    rintro e w1 ⟨vW, rfl, rW, b1⟩
    have z1 := b1.size
    go_wp2_with fail
    refine (HI.out _ (TextW_kept HT.out b1) (MaxW_kept HM.out b1)).mono ?_
    rintro e w2 ⟨vG, rfl, rG, b2⟩
    have z2 := b2.size
    replace rW := RowF_kept rW b2
    replace b2 := kept_trans b1 b2
    go_wp2_with fail
    refine (eqC_same _ _ _ _ (RowF_rd rG) (RowF_rd rW)).mono ?_
    rintro e w3 ⟨rfl, b3⟩
    have z3 := b3.size
    replace rW := RowF_kept rW b3
    replace rG := RowF_kept rG b3
    replace b3 := kept_trans b2 b3
    cases ok
    all_goals
      go_wp2_with fail
      refine (markC_any _ _ _ _ 101 _ rG (by omega) (by omega)).mono ?_
      rintro e w4 ⟨rfl, mrG, g4⟩
      have z4 := g4.size
      replace rW := RowF_far rW g4 (fun g hg => by have := (rG).2 g hg; omega)
      have b4 := grown_below b3 g4 (fun g hg => by have := (rG).2 g hg; omega)
      clear rG
      go_wp2_with fail
      refine (heldC_same _ _ 101 _ (RowF_rd mrG) (by omega) (by omega)).mono ?_
      rintro e w' ⟨rfl, rfl⟩
      go_wp2_with fail
      refine (HI.out _ (TextW_kept HT.out b4) (MaxW_kept HM.out b4)).mono ?_
      rintro e w5 ⟨vH, rfl, rH, b5⟩
      have z5 := b5.size
      replace rW := RowF_kept rW b5
      replace mrG := RowF_kept mrG b5
      replace b5 := kept_trans b4 b5
      go_wp2_with fail
      refine (eqC_same _ _ _ _ (RowF_rd rH) (RowF_rd rW)).mono ?_
      rintro e w6 ⟨rfl, b6⟩
      replace mrG := RowF_kept mrG b6
      replace b6 := kept_trans b5 b6
      go_wp2_with fail
      refine (heldC_same _ _ 101 _ (RowF_rd mrG) (by omega) (by omega)).mono ?_
      rintro e w' ⟨rfl, rfl⟩
      go_wp2
      go_ret
      exact ⟨rfl, b6⟩
  · go_enter Tryd.func4, Tryd.ntmps4
    go_wp2
    go_ret
    exact ⟨rfl, Below.refl _ _⟩

end Go.Proofs.YtapnihkgalbddabDoor
namespace Go.Proofs.YtapnihkgalbddabDoor.fnExactReadChart
open Go.ChangeShapes Go.WideShapes Go.ChangeAt Go.RowKit
set_option linter.unusedVariables false
set_option linter.unusedSimpArgs false
open Go.Joins Go.ChangeMaps
/-- A world for the witness: the settled one, the listed variables holding what their initialisers lay. -/
noncomputable def laidWorld (os : Os) : World := { World.holding Tryd.prog os ⟨#[.cells #[.string ⟨#[118, 97, 108, 117, 101, 32, 111, 117, 116, 32, 111, 102, 32, 114, 97, 110, 103, 101]⟩] 113, .cells #[.string ⟨#[105, 110, 118, 97, 108, 105, 100, 32, 115, 121, 110, 116, 97, 120]⟩] 113], #[], []⟩ with heap := ((((((World.holding Tryd.prog os ⟨#[.cells #[.string ⟨#[118, 97, 108, 117, 101, 32, 111, 117, 116, 32, 111, 102, 32, 114, 97, 110, 103, 101]⟩] 113, .cells #[.string ⟨#[105, 110, 118, 97, 108, 105, 100, 32, 115, 121, 110, 116, 97, 120]⟩] 113], #[], []⟩).heap.modify 4 (fun | .cells _ t frozen => .cells #[.int .u8 0, .int .u8 1, .int .u8 28, .int .u8 2, .int .u8 29, .int .u8 14, .int .u8 24, .int .u8 3, .int .u8 30, .int .u8 22, .int .u8 20, .int .u8 15, .int .u8 25, .int .u8 17, .int .u8 4, .int .u8 8, .int .u8 31, .int .u8 27, .int .u8 13, .int .u8 23, .int .u8 21, .int .u8 19, .int .u8 16, .int .u8 7, .int .u8 26, .int .u8 12, .int .u8 18, .int .u8 6, .int .u8 11, .int .u8 5, .int .u8 10, .int .u8 9] t frozen | o => o)).modify 5 (fun | .cells _ t frozen => .cells #[.int .u8 0, .int .u8 1, .int .u8 56, .int .u8 2, .int .u8 57, .int .u8 49, .int .u8 28, .int .u8 3, .int .u8 61, .int .u8 58, .int .u8 42, .int .u8 50, .int .u8 38, .int .u8 29, .int .u8 17, .int .u8 4, .int .u8 62, .int .u8 47, .int .u8 59, .int .u8 36, .int .u8 45, .int .u8 43, .int .u8 51, .int .u8 22, .int .u8 53, .int .u8 39, .int .u8 33, .int .u8 30, .int .u8 24, .int .u8 18, .int .u8 12, .int .u8 5, .int .u8 63, .int .u8 55, .int .u8 48, .int .u8 27, .int .u8 60, .int .u8 41, .int .u8 37, .int .u8 16, .int .u8 46, .int .u8 35, .int .u8 44, .int .u8 21, .int .u8 52, .int .u8 32, .int .u8 23, .int .u8 11, .int .u8 54, .int .u8 26, .int .u8 40, .int .u8 15, .int .u8 34, .int .u8 20, .int .u8 31, .int .u8 10, .int .u8 25, .int .u8 14, .int .u8 19, .int .u8 9, .int .u8 13, .int .u8 8, .int .u8 7, .int .u8 6] t frozen | o => o)).modify 0 (fun | .cells _ t frozen => .cells #[.int .u64 1, .int .u64 10, .int .u64 100, .int .u64 1000, .int .u64 10000, .int .u64 100000, .int .u64 1000000, .int .u64 10000000, .int .u64 100000000, .int .u64 1000000000, .int .u64 10000000000, .int .u64 100000000000, .int .u64 1000000000000, .int .u64 10000000000000, .int .u64 100000000000000, .int .u64 1000000000000000, .int .u64 10000000000000000, .int .u64 100000000000000000, .int .u64 1000000000000000000, .int .u64 10000000000000000000] t frozen | o => o)).modify 3 (fun | .cells _ t frozen => .cells #[.iface 111 (.pointer (some ⟨11, 0, none⟩))] t frozen | o => o)).modify 2 (fun | .cells _ t frozen => .cells #[.iface 111 (.pointer (some ⟨12, 0, none⟩))] t frozen | o => o)) }
theorem laid_met (os : Os) : laidMet Tryd.prog Rows.fnExactReadChartRow.laid ((laidWorld os).forCall (fun _ _ => 0) ⟨#[], #[.string ByteArray.empty], []⟩).memory :=
  laidMet_of_run' 16 (by kernel_rfl) (by kernel_rfl)
theorem reads (os : Os) {H : Type} (enc : TypeId × Value → H) : ∃ places, DataW.whole enc Tryd.prog ((laidWorld os).forCall (fun _ _ => 0) ⟨#[], #[.string ByteArray.empty], []⟩).memory Tryd.f4.params.toList Rows.fnExactReadChartSpec.vars false (#[.string ByteArray.empty] : Array Value).toList 16 = some ([.lit (.string [])], [], places) :=
  ⟨[], by kernel_rfl⟩
set_option maxRecDepth 100000 in
theorem lifted (os : Os) (started : os.Started) (H : Type) (enc : TypeId × Value → H) (F : Stop.Interp) :
    ReturnsInHanded {} Tryd.checked os 4 .any ((OpenSpec.ofChange Rows.fnExactReadChartSpec).preRow enc Tryd.prog Tryd.f4 Rows.fnExactReadChartRow.domain false Rows.fnExactReadChartRow.laid) (((OpenSpec.ofChange Rows.fnExactReadChartSpec).at F).post enc Tryd.prog Tryd.f4 false true false false) := by
  obtain ⟨places, hx⟩ := reads os enc
  refine returnsInHanded_of_row (C := Tryd.checked) (s := OpenSpec.ofChange Rows.fnExactReadChartSpec) (show ownKnob Tryd.prog.godebug = none by kernel_rfl) started (by kernel_rfl) Tryd.func4
    (witness_row_atRef (enc := enc) (C := Tryd.checked) false (laidWorld os) #[.string ByteArray.empty] rfl (by kernel_rfl) (by kernel_rfl) (by kernel_rfl)
      (OpenSpec.preRow_of_cond 16 hx (by kernel_rfl) (fun k hk => by cases hk) (by kernel_rfl) (laid_met os))) ?_
  intro W base args ds gs before hval0 hW _ _ _ hL hSh _
  have hval : ∀ (j : Nat) t v, Tryd.f4.params[j]? = some t → args[j]? = some v → Value.okWide Tryd.prog W .any base t v := hval0
  have hW' := hW
  obtain ⟨p, q, hA0, hV, rfl, hfz, hnd⟩ := hW
  have hA : DataW.TrodAll enc Tryd.prog W 0 (fun _ => true) true Tryd.f4.params.toList args.toList ds p := hA0
  rw [Tryd.params4] at hA hval
  obtain ⟨v0, vs0, d0, ds0, p0, q0, hargs, rfl, rfl, h0, r0⟩ := trodAll_cons hA
  obtain ⟨rfl, rfl, rfl⟩ := trodAll_nil r0
  obtain rfl : args = #[v0] := by cases args; simp_all
  obtain ⟨rfl, rfl⟩ := trodVars_none hV
  obtain ⟨a0, rfl, rfl, rfl, w0⟩ := open_string Tryd.underlying9 (hval 0 9 v0 rfl rfl) h0
  clear hA0 hval0
  refine (walk_FnExactReadChart (w := W) a0 w0 ⟨powTab_of (Lib.laidMet.reads (w := W) hL (.tail _ (.tail _ (.head _)))), errVar_of (by kernel_rfl) (by kernel_rfl) Tryd.underlying58 (by kernel_rfl) (Lib.laidMet.reads (w := W) hL (.tail _ (.tail _ (.tail _ (.tail _ (.head _)))))), errVar_of (by kernel_rfl) (by kernel_rfl) Tryd.underlying58 (by kernel_rfl) (Lib.laidMet.reads (w := W) hL (.tail _ (.tail _ (.tail _ (.head _)))))⟩ (maxW_of hSh)).mono fun e W' ⟨he, hb⟩ => ?_
  subst he
  exact ⟨_, rfl, law_postV (B := 4) (by kernel_rfl) (by kernel_rfl) (by kernel_rfl) rfl Tryd.underlying4 hW' rfl hb⟩
theorem said : Rows.FnExactReadChartSaid :=
  OpenClaim.holds_of_cond 4 Tryd.f4 rfl rfl rfl rfl rfl rfl rfl ⟨rfl, rfl, rfl, rfl, rfl⟩ rfl rfl rfl rfl rfl (by kernel_rfl) Tryd.func4 (by kernel_rfl)
    (of_decide_eq_true (by kernel_rfl)) (by unfold Func.isWrapper; first | (rw [if_pos (by decide +kernel)]; kernel_rfl) | (rw [if_neg (by decide +kernel)]; exact ⟨rfl, rfl⟩))
    (fun os started H enc _ F => by rw [OpenClaim.pre_eq_preRow]; exact lifted os started H enc F)
theorem plain (f : FuncId) (fn : Func) (hf : Tryd.pinned.checked.prog.funcNamed "loop.example/g00932/laws.FnExactReadChart" = some f) (hfn : Tryd.pinned.checked.prog.funcs[f]? = some fn) :
    true = Tryd.pinned.checked.prog.looks [] ∧ ∀ (j : Nat) t, fn.params[j]? = some t → Tryd.pinned.checked.prog.wantsStandIn t = false := by
  obtain rfl : f = 4 := Option.some.inj ((show Tryd.prog.funcNamed "loop.example/g00932/laws.FnExactReadChart" = some 4 by kernel_rfl).symm.trans hf) |>.symm
  obtain rfl : fn = Tryd.f4 := (Option.some.inj (Tryd.func4.symm.trans hfn)).symm
  refine ⟨by kernel_rfl, fun j t ht => ?_⟩
  have hall : (Tryd.f4.params.toList.all fun t => !Tryd.pinned.checked.prog.wantsStandIn t) = true := by kernel_rfl
  have := List.all_eq_true.mp hall t (by simpa using Array.mem_of_getElem? ht)
  simpa using this
/-- The statement: the card of the law: for every input it returns true, the arguments and the listed variables read afterwards as before. -/
theorem proved : Rows.FnExactReadChartCardSaid :=
  Claim7.holds_tied_plain_at .later [] _ _ _ _ said (fun _ h => by cases h) (by kernel_rfl) (fun _ h => by cases h) fnExactReadChart_row_tie rfl ⟨rfl, rfl⟩ (by kernel_rfl) rfl plain (by kernel_rfl)
end Go.Proofs.YtapnihkgalbddabDoor.fnExactReadChart
