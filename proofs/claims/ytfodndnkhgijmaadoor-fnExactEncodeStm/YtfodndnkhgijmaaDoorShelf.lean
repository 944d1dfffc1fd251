/-
  DERIVED: THE SHELF's CONTRACTS AT THIS DUMP, IN PLAIN WORDS (tools/lay-plain.mjs out of 'TrydShelfR.lean', which tools/lay-shelf.mjs wrote): THE SAME DECLARATIONS UNDER THE SAME NAMES: 'import', 'namespace', 'open', 'def', 'theorem' AND NOTHING ELSE: no command of the shelf's: FOR A HAND-IN. Each laying: the table of numbers ('.._ren') and one theorem, a field a fact of the dump's own or the kernel's comparison; each contract: ONE APPLICATION.
-/
import Derived.Shelf.Strings.Fields
import Derived.Test.YtfodndnkhgijmaaDoorProg
namespace Go.Proofs
open Go.Shelf
def Tryd.lays157_ren : Go.Shelf.Ren := ⟨fun | 157 => 71 | 229 => 107 | 199 => 108 | 261 => 122 | 311 => 129 | 312 => 130 | n => n, fun | 9 => 9 | 31 => 108 | 3 => 3 | 5 => 5 | 4 => 4 | 119 => 158 | 0 => 0 | 40 => 160 | 152 => 173 | 21 => 21 | 154 => 175 | 51 => 176 | 141 => 178 | 196 => 194 | 193 => 191 | 198 => 197 | 49 => 195 | 194 => 192 | 201 => 200 | 226 => 202 | 46 => 145 | 227 => 203 | n => n, fun | 0 => 0 | 6 => 1 | n => n⟩
theorem Tryd.lays157 : Go.Proofs.Lays.n157 Tryd.prog Tryd.lays157_ren := {
  mixed := by kernel_rfl
  f157 := Tryd.func71.trans (congrArg some (by kernel_rfl))
  f199 := Tryd.func108.trans (congrArg some (by kernel_rfl))
  f229 := Tryd.func107.trans (congrArg some (by kernel_rfl))
  f261 := Tryd.func122.trans (congrArg some (by kernel_rfl))
  f311 := Tryd.func129.trans (congrArg some (by kernel_rfl))
  f312 := Tryd.func130.trans (congrArg some (by kernel_rfl))
  t0 := Tryd.underlying0
  a0 := Tryd.isAgg0
  z0 := Tryd.sizeOf0
  v0 := Tryd.zeroValue0
  t3 := Tryd.underlying3
  a3 := Tryd.isAgg3
  z3 := Tryd.sizeOf3
  v3 := Tryd.zeroValue3
  t4 := Tryd.underlying4
  a4 := Tryd.isAgg4
  z4 := Tryd.sizeOf4
  v4 := Tryd.zeroValue4
  t5 := Tryd.underlying5
  a5 := Tryd.isAgg5
  z5 := Tryd.sizeOf5
  v5 := Tryd.zeroValue5
  t9 := Tryd.underlying9
  a9 := Tryd.isAgg9
  z9 := Tryd.sizeOf9
  v9 := Tryd.zeroValue9
  t21 := Tryd.underlying21
  a21 := Tryd.isAgg21
  z21 := Tryd.sizeOf21
  v21 := Tryd.zeroValue21
  t31 := Tryd.underlying108
  a31 := Tryd.isAgg108
  z31 := Tryd.sizeOf108
  v31 := Tryd.zeroValue108
  t40 := Tryd.underlying160
  a40 := Tryd.isAgg160
  z40 := Tryd.sizeOf160
  v40 := Tryd.zeroValue160
  t46 := Tryd.underlying145
  a46 := Tryd.isAgg145
  z46 := Tryd.sizeOf145
  v46 := Tryd.zeroValue145
  t49 := Tryd.underlying195
  a49 := Tryd.isAgg195
  z49 := Tryd.sizeOf195
  v49 := Tryd.zeroValue195
  t51 := Tryd.underlying176
  a51 := Tryd.isAgg176
  z51 := Tryd.sizeOf176
  v51 := Tryd.zeroValue176
  t119 := Tryd.underlying158
  a119 := Tryd.isAgg158
  z119 := Tryd.sizeOf158
  t141 := Tryd.underlying178
  a141 := Tryd.isAgg178
  z141 := Tryd.sizeOf178
  v141 := Tryd.zeroValue178
  t152 := Tryd.underlying173
  a152 := Tryd.isAgg173
  z152 := Tryd.sizeOf173
  v152 := Tryd.zeroValue173
  t154 := Tryd.underlying175
  a154 := Tryd.isAgg175
  z154 := Tryd.sizeOf175
  v154 := Tryd.zeroValue175
  t193 := Tryd.underlying191
  a193 := Tryd.isAgg191
  z193 := Tryd.sizeOf191
  v193 := Tryd.zeroValue191
  t194 := Tryd.underlying192
  a194 := Tryd.isAgg192
  z194 := Tryd.sizeOf192
  v194 := Tryd.zeroValue192
  t196 := Tryd.underlying194
  a196 := Tryd.isAgg194
  z196 := Tryd.sizeOf194
  v196 := Tryd.zeroValue194
  t198 := Tryd.underlying197
  a198 := Tryd.isAgg197
  z198 := Tryd.sizeOf197
  v198 := Tryd.zeroValue197
  t201 := Tryd.underlying200
  a201 := Tryd.isAgg200
  z201 := Tryd.sizeOf200
  v201 := Tryd.zeroValue200
  t226 := Tryd.underlying202
  a226 := Tryd.isAgg202
  z226 := Tryd.sizeOf202
  v226 := Tryd.zeroValue202
  t227 := Tryd.underlying203
  a227 := Tryd.isAgg203
  z227 := Tryd.sizeOf203
  v227 := Tryd.zeroValue203
  g0 := by kernel_rfl
  g6 := by kernel_rfl }
open Go.RowKit Go.Lib in
/-- strings.Fields, the table by 'Lib.TabIs' (as strings.TrimSpace's contract). 'hg': the table's number, by its name: at a dump 'by kernel_rfl'. (LAID: no walk: one application.) -/
theorem Tryd.strings_Fields (s : ByteArray) (w : World) (hs : s.size < 4294967281) (hascii : ∀ (j : Nat) b, s.data.toList[j]? = some b → b.toNat < 128) (htab : Lib.TabIs Tryd.prog w "strings.asciiSpace" .u8 Lib.asciiSpaceTab) :
    Calls Tryd.prog 71 #[.string s] w fun e w' =>
      e = .returned (.slice (some ⟨w.heap.size, 0, none⟩) (Lib.fields s.data.toList).length (Lib.fields s.data.toList).length) ∧ w' = w.alloc (.cells ((Lib.fields s.data.toList).map fun l => Value.string ⟨l.toArray⟩).toArray 9) := Any.strings_Fields Tryd.lays157 (by kernel_rfl) (by kernel_rfl) s w hs hascii htab
end Go.Proofs
