/- What the library is told to do: texts cut and joined, found in others, copied. -/
import Derived.Test.YtbinejcnoogoiaaDoorProg
import Derived.Test.YtbinejcnoogoiaaDoorUT
import Derived.Test.YtbinejcnoogoiaaDoorE20
import Derived.Shelf.Strings.Split
import Derived.Shelf.Strings.OnBuilder
import Derived.Shelf.Strings.BuilderRune
import Derived.Shelf.Pu.Clone
set_option linter.unusedVariables false
set_option linter.unusedSimpArgs false
namespace Go.Proofs.YtbinejcnoogoiaaDoor
open Go.Proofs.YtbinejcnoogoiaaDoor.Pad Go.Proofs.YtbinejcnoogoiaaDoor.Pad.Route Go.Shelf Go.RowKit
theorem hm : Tryd.prog.follows .mixedOrders = true := by kernel_rfl
def gl0 : List AV := Go.Proofs.YtbinejcnoogoiaaDoor.Pad.Utf.utf8First
def gl1 : List AV := Go.Proofs.YtbinejcnoogoiaaDoor.Pad.Utf.acceptR
instance : Globs Tryd.prog := ⟨[(0, gl0), (1, gl1)]⟩
def ren : Go.Shelf.Ren := { f := fun n => match n with | 0 => 0 | 1 => 1 | 2 => 2 | 138 => 42 | 143 => 38 | 144 => 29 | 146 => 23 | 156 => 30 | 165 => 39 | 166 => 40 | 168 => 26 | 169 => 27 | 195 => 47 | 196 => 25 | 197 => 48 | 217 => 50 | 218 => 49 | 219 => 45 | 221 => 33 | 224 => 52 | 225 => 51 | 240 => 35 | 241 => 46 | 242 => 36 | 259 => 34 | 260 => 55 | 266 => 56 | 267 => 53 | 268 => 41 | 276 => 43 | 277 => 54 | 278 => 44 | 314 => 57 | 316 => 37 | 347 => 58 | 348 => 59 | 349 => 60 | 350 => 61 | 351 => 62 | 352 => 63 | 353 => 64 | 354 => 65 | 355 => 66 | 356 => 67 | 357 => 68 | 358 => 69 | 359 => 70 | 360 => 71 | 361 => 72 | 362 => 74 | 366 => 75 | 367 => 80 | n => n, t := fun n => match n with | 0 => 0 | 1 => 1 | 2 => 2 | 3 => 3 | 4 => 4 | 5 => 5 | 6 => 6 | 7 => 7 | 8 => 8 | 9 => 9 | 10 => 10 | 11 => 11 | 12 => 12 | 13 => 13 | 14 => 14 | 15 => 15 | 16 => 16 | 17 => 17 | 18 => 18 | 19 => 19 | 20 => 20 | 21 => 21 | 22 => 55 | 27 => 68 | 31 => 35 | 37 => 47 | 40 => 23 | 46 => 65 | 51 => 75 | 53 => 72 | 55 => 78 | 61 => 44 | 67 => 56 | 68 => 45 | 69 => 33 | 70 => 46 | 71 => 48 | 72 => 49 | 73 => 69 | 74 => 50 | 75 => 51 | 76 => 52 | 77 => 70 | 79 => 53 | 80 => 54 | 81 => 88 | 101 => 41 | 103 => 27 | 104 => 34 | 105 => 76 | 106 => 77 | 111 => 24 | 113 => 59 | 114 => 79 | 119 => 61 | 126 => 66 | 127 => 67 | 136 => 60 | 137 => 62 | 138 => 63 | 139 => 64 | 146 => 81 | 150 => 71 | 151 => 82 | 164 => 73 | 165 => 74 | 166 => 80 | 229 => 31 | 238 => 83 | 239 => 84 | 240 => 85 | 241 => 86 | 242 => 87 | 243 => 89 | 244 => 90 | 245 => 91 | 246 => 92 | 247 => 93 | 248 => 94 | 249 => 95 | n => n, g := fun n => match n with | 1 => 2 | 3 => 0 | 4 => 1 | n => n }
theorem lays221 : Lays.n221 Tryd.prog ren := by
  constructor
  all_goals first | kernel_rfl | (intro w; kernel_rfl)
theorem lays138 : Lays.n138 Tryd.prog ren := by
  constructor
  all_goals first | kernel_rfl | (intro w; kernel_rfl)
theorem lays144 : Lays.n144 Tryd.prog ren := by
  constructor
  all_goals first | kernel_rfl | (intro w; kernel_rfl)
theorem lays156 : Lays.n156 Tryd.prog ren := by
  constructor
  all_goals first | kernel_rfl | (intro w; kernel_rfl)
theorem extra : Builder.Extra Tryd.prog ren where
  sizeBuilder := by kernel_rfl
  liesBuilder := by kernel_rfl
  t5 := by kernel_rfl
  a5 := by intro w; kernel_rfl
  z5 := by intro w; kernel_rfl
  v5 := by intro w; kernel_rfl
  infoByte := by kernel_rfl
  cellsByte := by kernel_rfl
  sizeByte := by kernel_rfl
  neB5 := by decide
end Go.Proofs.YtbinejcnoogoiaaDoor

