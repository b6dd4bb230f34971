/- What the library is told to do: texts found in others, cut, copied, compared, sorted. -/
import Derived.Test.YtnhelmnenhphjaaProg
import Derived.Test.YtnhelmnenhphjaaUO
import Derived.Test.YtnhelmnenhphjaaE22
import Derived.WalkKit
import Derived.Shelf.Strings.Search3
import Derived.Shelf.Strings.LastIndex
import Derived.Shelf.Small.Wraps
import Derived.Shelf.Small.Strs
import Derived.Shelf.Pu.Clone
import Derived.Shelf.Slices.CompactS
import Derived.Shelf.SlSortCmp.NoneTotal
set_option linter.unusedVariables false
set_option linter.unusedSimpArgs false
namespace Go.Proofs.Ytnhelmnenhphjaa
open Go.Proofs.Ytnhelmnenhphjaa.Pad Go.Proofs.Ytnhelmnenhphjaa.Pad.Under Go.Shelf Go.RowKit
theorem hm : Try.prog.follows .mixedOrders = true := by kernel_rfl
instance : Globs Try.prog := ⟨[]⟩
def ren : Go.Shelf.Ren := { f := fun n => match n with | 0 => 0 | 1 => 1 | 2 => 2 | 103 => 39 | 106 => 36 | 125 => 45 | 128 => 61 | 129 => 62 | 143 => 29 | 148 => 32 | 194 => 37 | 206 => 64 | 210 => 47 | 213 => 46 | 217 => 48 | 219 => 40 | 222 => 42 | 223 => 43 | 224 => 50 | 225 => 49 | 265 => 63 | 266 => 65 | 267 => 51 | 269 => 52 | 314 => 66 | 316 => 41 | 329 => 68 | 330 => 69 | 347 => 73 | 348 => 74 | 349 => 75 | 350 => 76 | 351 => 77 | 352 => 78 | 353 => 79 | 354 => 80 | 355 => 81 | 356 => 82 | 357 => 83 | 358 => 84 | 359 => 85 | 360 => 86 | 361 => 87 | 366 => 88 | n => n, t := fun n => match n with | 0 => 0 | 1 => 1 | 2 => 2 | 3 => 3 | 4 => 4 | 5 => 5 | 6 => 6 | 7 => 7 | 8 => 8 | 9 => 9 | 10 => 10 | 11 => 11 | 12 => 12 | 13 => 13 | 14 => 14 | 15 => 15 | 16 => 16 | 17 => 17 | 18 => 18 | 19 => 19 | 20 => 20 | 21 => 21 | 22 => 25 | 23 => 27 | 24 => 23 | 25 => 24 | 27 => 41 | 31 => 28 | 33 => 39 | 37 => 50 | 46 => 48 | 47 => 47 | 51 => 52 | 52 => 63 | 53 => 65 | 54 => 64 | 55 => 45 | 69 => 26 | 80 => 75 | 81 => 81 | 101 => 30 | 102 => 43 | 114 => 49 | 127 => 51 | 131 => 61 | 146 => 53 | 151 => 54 | 164 => 89 | 182 => 56 | 183 => 57 | 218 => 66 | 219 => 67 | 220 => 68 | 222 => 70 | 228 => 72 | 229 => 73 | 238 => 76 | 239 => 77 | 240 => 78 | 241 => 79 | 242 => 80 | 243 => 82 | 244 => 83 | 245 => 84 | 246 => 85 | 247 => 86 | 248 => 87 | 249 => 88 | n => n, g := fun n => match n with | 1 => 0 | n => n }
def renS : Go.Shelf.Ren := { f := fun n => match n with | 0 => 0 | 1 => 1 | 2 => 2 | 6 => 34 | 14 => 44 | 15 => 45 | 20 => 53 | 21 => 54 | 22 => 55 | 23 => 56 | 24 => 57 | 25 => 58 | 26 => 59 | 27 => 60 | 28 => 61 | 29 => 62 | 46 => 67 | 47 => 68 | 48 => 69 | 49 => 70 | 50 => 71 | 57 => 72 | 60 => 73 | 61 => 74 | 62 => 75 | 63 => 76 | 64 => 77 | 65 => 78 | 66 => 79 | 67 => 80 | 68 => 81 | 69 => 82 | 70 => 83 | 71 => 84 | 72 => 85 | 73 => 86 | 74 => 87 | 75 => 88 | n => n, t := fun n => match n with | 0 => 0 | 1 => 1 | 2 => 2 | 3 => 3 | 4 => 4 | 5 => 5 | 6 => 6 | 7 => 7 | 8 => 8 | 9 => 9 | 10 => 10 | 11 => 11 | 12 => 12 | 13 => 13 | 14 => 14 | 15 => 15 | 16 => 16 | 17 => 17 | 18 => 18 | 19 => 19 | 20 => 20 | 21 => 21 | 22 => 28 | 23 => 42 | 24 => 9 | 25 => 41 | 37 => 46 | 38 => 47 | 39 => 48 | 44 => 55 | 45 => 56 | 46 => 57 | 47 => 58 | 48 => 59 | 49 => 60 | 50 => 61 | 51 => 62 | 52 => 63 | 53 => 52 | 54 => 64 | 55 => 65 | 66 => 66 | 67 => 67 | 68 => 68 | 69 => 69 | 70 => 70 | 71 => 71 | 76 => 72 | 77 => 73 | 78 => 74 | 81 => 75 | 82 => 76 | 83 => 77 | 84 => 78 | 85 => 79 | 86 => 80 | 87 => 81 | 88 => 82 | 89 => 83 | 90 => 84 | 91 => 51 | 92 => 85 | 93 => 86 | 94 => 87 | 95 => 88 | 96 => 89 | n => n, g := fun n => match n with  | n => n }
def renPu : Go.Shelf.Ren := { f := fun n => match n with | 0 => 0 | 1 => 1 | 2 => 2 | 25 => 41 | 35 => 62 | 41 => 73 | 42 => 74 | 43 => 75 | 44 => 76 | 45 => 77 | 46 => 78 | 47 => 79 | 48 => 80 | 49 => 81 | 50 => 82 | 51 => 83 | 52 => 84 | 53 => 85 | 54 => 86 | 55 => 87 | 59 => 88 | n => n, t := fun n => match n with | 0 => 0 | 1 => 1 | 2 => 2 | 3 => 3 | 4 => 4 | 5 => 5 | 6 => 6 | 7 => 7 | 8 => 8 | 9 => 9 | 10 => 10 | 11 => 11 | 12 => 12 | 13 => 13 | 14 => 14 | 15 => 15 | 16 => 16 | 17 => 17 | 18 => 18 | 19 => 19 | 20 => 20 | 21 => 21 | 22 => 65 | 36 => 48 | 37 => 50 | 42 => 26 | 47 => 51 | 53 => 64 | 57 => 49 | 60 => 52 | 63 => 47 | 64 => 63 | 67 => 75 | 68 => 76 | 69 => 77 | 70 => 78 | 71 => 79 | 72 => 80 | 73 => 81 | 74 => 82 | 75 => 83 | 76 => 84 | 77 => 85 | 78 => 86 | 79 => 87 | 80 => 88 | 81 => 89 | n => n, g := fun n => match n with  | n => n }
theorem lays143 : Lays.n143 Try.prog ren := by
  constructor
  all_goals first | kernel_rfl | (intro w; kernel_rfl)
theorem lays148 : Lays.n148 Try.prog ren := by
  constructor
  all_goals first | kernel_rfl | (intro w; kernel_rfl)
theorem lays103 : Lays.n103 Try.prog ren := by
  constructor
  all_goals first | kernel_rfl | (intro w; kernel_rfl)
theorem lays106 : Lays.n106 Try.prog ren := by
  constructor
  all_goals first | kernel_rfl | (intro w; kernel_rfl)
theorem lays194 : Lays.n194 Try.prog ren := by
  constructor
  all_goals first | kernel_rfl | (intro w; kernel_rfl)
theorem laysClone : LaysPu.n25 Try.prog renPu := by
  constructor
  all_goals first | kernel_rfl | (intro w; kernel_rfl)
theorem bears {P : Program} {f : FuncId} {B : Func} (h1 : (((P.funcs[f]?).map (·.name)).getD "" == "runtime.NumGoroutine") = false) (h2 : P.funcs[f]? = some { B with name := ((P.funcs[f]?).map (·.name)).getD "" }) : Bears P f B := ⟨_, h1, h2⟩
theorem laysSort : SlLaysF.n6 Try.prog renS := by
  constructor
  all_goals first | kernel_rfl | (intro w; kernel_rfl) | exact bears (by kernel_rfl) (by kernel_rfl)
end Go.Proofs.Ytnhelmnenhphjaa

