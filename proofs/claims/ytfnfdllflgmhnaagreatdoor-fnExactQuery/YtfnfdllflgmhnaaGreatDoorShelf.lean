/-
  DERIVED: THE SHELF's CONTRACTS AT THIS DUMP, IN PLAIN WORDS (tools/lay-plain.mjs out of 'TryzShelfR.lean', which tools/lay-shelf.mjs wrote): THE SAME DECLARATIONS UNDER THE SAME NAMES: 'import', 'namespace', 'open', 'def', 'theorem' AND NOTHING ELSE: no command of the shelf's: FOR A HAND-IN. Each laying: the table of numbers ('.._ren') and one theorem, a field a fact of the dump's own or the kernel's comparison; each contract: ONE APPLICATION.
-/
import Derived.Shelf.Strings.Fields
import Derived.Test.YtfnfdllflgmhnaaGreatDoorProg
namespace Go.Proofs
open Go.Shelf
def Tryz.lays157_ren : Go.Shelf.Ren := ⟨fun | 157 => 146 | 229 => 183 | 199 => 184 | 261 => 207 | 311 => 212 | 312 => 213 | n => n, fun | 9 => 9 | 31 => 27 | 3 => 3 | 5 => 5 | 4 => 4 | 119 => 248 | 0 => 0 | 40 => 250 | 152 => 271 | 21 => 21 | 154 => 273 | 51 => 274 | 141 => 276 | 196 => 288 | 193 => 285 | 198 => 291 | 49 => 289 | 194 => 286 | 201 => 294 | 226 => 296 | 46 => 188 | 227 => 297 | n => n, fun | 0 => 0 | 6 => 1 | n => n⟩
theorem Tryz.lays157 : Go.Proofs.Lays.n157 Tryz.prog Tryz.lays157_ren := {
  mixed := by kernel_rfl
  f157 := Tryz.func146.trans (congrArg some (by kernel_rfl))
  f199 := Tryz.func184.trans (congrArg some (by kernel_rfl))
  f229 := Tryz.func183.trans (congrArg some (by kernel_rfl))
  f261 := Tryz.func207.trans (congrArg some (by kernel_rfl))
  f311 := Tryz.func212.trans (congrArg some (by kernel_rfl))
  f312 := Tryz.func213.trans (congrArg some (by kernel_rfl))
  t0 := Tryz.underlying0
  a0 := Tryz.isAgg0
  z0 := Tryz.sizeOf0
  v0 := Tryz.zeroValue0
  t3 := Tryz.underlying3
  a3 := Tryz.isAgg3
  z3 := Tryz.sizeOf3
  v3 := Tryz.zeroValue3
  t4 := Tryz.underlying4
  a4 := Tryz.isAgg4
  z4 := Tryz.sizeOf4
  v4 := Tryz.zeroValue4
  t5 := Tryz.underlying5
  a5 := Tryz.isAgg5
  z5 := Tryz.sizeOf5
  v5 := Tryz.zeroValue5
  t9 := Tryz.underlying9
  a9 := Tryz.isAgg9
  z9 := Tryz.sizeOf9
  v9 := Tryz.zeroValue9
  t21 := Tryz.underlying21
  a21 := Tryz.isAgg21
  z21 := Tryz.sizeOf21
  v21 := Tryz.zeroValue21
  t31 := Tryz.underlying27
  a31 := Tryz.isAgg27
  z31 := Tryz.sizeOf27
  v31 := Tryz.zeroValue27
  t40 := Tryz.underlying250
  a40 := Tryz.isAgg250
  z40 := Tryz.sizeOf250
  v40 := Tryz.zeroValue250
  t46 := Tryz.underlying188
  a46 := Tryz.isAgg188
  z46 := Tryz.sizeOf188
  v46 := Tryz.zeroValue188
  t49 := Tryz.underlying289
  a49 := Tryz.isAgg289
  z49 := Tryz.sizeOf289
  v49 := Tryz.zeroValue289
  t51 := Tryz.underlying274
  a51 := Tryz.isAgg274
  z51 := Tryz.sizeOf274
  v51 := Tryz.zeroValue274
  t119 := Tryz.underlying248
  a119 := Tryz.isAgg248
  z119 := Tryz.sizeOf248
  t141 := Tryz.underlying276
  a141 := Tryz.isAgg276
  z141 := Tryz.sizeOf276
  v141 := Tryz.zeroValue276
  t152 := Tryz.underlying271
  a152 := Tryz.isAgg271
  z152 := Tryz.sizeOf271
  v152 := Tryz.zeroValue271
  t154 := Tryz.underlying273
  a154 := Tryz.isAgg273
  z154 := Tryz.sizeOf273
  v154 := Tryz.zeroValue273
  t193 := Tryz.underlying285
  a193 := Tryz.isAgg285
  z193 := Tryz.sizeOf285
  v193 := Tryz.zeroValue285
  t194 := Tryz.underlying286
  a194 := Tryz.isAgg286
  z194 := Tryz.sizeOf286
  v194 := Tryz.zeroValue286
  t196 := Tryz.underlying288
  a196 := Tryz.isAgg288
  z196 := Tryz.sizeOf288
  v196 := Tryz.zeroValue288
  t198 := Tryz.underlying291
  a198 := Tryz.isAgg291
  z198 := Tryz.sizeOf291
  v198 := Tryz.zeroValue291
  t201 := Tryz.underlying294
  a201 := Tryz.isAgg294
  z201 := Tryz.sizeOf294
  v201 := Tryz.zeroValue294
  t226 := Tryz.underlying296
  a226 := Tryz.isAgg296
  z226 := Tryz.sizeOf296
  v226 := Tryz.zeroValue296
  t227 := Tryz.underlying297
  a227 := Tryz.isAgg297
  z227 := Tryz.sizeOf297
  v227 := Tryz.zeroValue297
  g0 := by kernel_rfl
  g6 := by kernel_rfl }
open Go.RowKit Go.Lib in
/-- strings.Fields, the table by 'Lib.TabIs' (as strings.TrimSpace's contract). 'hg': the table's number, by its name: at a dump 'by kernel_rfl'. (LAID: no walk: one application.) -/
theorem Tryz.strings_Fields (s : ByteArray) (w : World) (hs : s.size < 4294967281) (hascii : ∀ (j : Nat) b, s.data.toList[j]? = some b → b.toNat < 128) (htab : Lib.TabIs Tryz.prog w "strings.asciiSpace" .u8 Lib.asciiSpaceTab) :
    Calls Tryz.prog 146 #[.string s] w fun e w' =>
      e = .returned (.slice (some ⟨w.heap.size, 0, none⟩) (Lib.fields s.data.toList).length (Lib.fields s.data.toList).length) ∧ w' = w.alloc (.cells ((Lib.fields s.data.toList).map fun l => Value.string ⟨l.toArray⟩).toArray 9) := Any.strings_Fields Tryz.lays157 (by kernel_rfl) (by kernel_rfl) s w hs hascii htab
end Go.Proofs
