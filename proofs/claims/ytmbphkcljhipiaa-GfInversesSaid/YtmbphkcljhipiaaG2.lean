/- The laws of gf. -/
import Derived.Test.YtmbphkcljhipiaaG1
set_option linter.unusedVariables false
set_option linter.unusedSimpArgs false
namespace Go.Proofs.Ytmbphkcljhipiaa
open Go.Proofs.Ytmbphkcljhipiaa.Pad Go.Proofs.Ytmbphkcljhipiaa.Pad.Gf
/-- padlock/padlocklaw06.awake -/
def rc14 : RC :=
  (.seq
   (.reg false [⟨(some 0), .mov (.c (.bool false)), none⟩] [])
   (.seq
    (.reg false [⟨(some 1), .call 8 [(false, (.c (.int .u8 87))), (false, (.c (.int .u8 131)))], none⟩,
      ⟨(some 2), .bin .eql false (.t 1) (.c (.int .u8 193)), none⟩,
      ⟨(some 3), .mov (.t 2), none⟩,
      ⟨(some 4), .call 15 [(false, (.c (.int .u8 0)))], (some (3, true))⟩,
      ⟨(some 5), .bin .eql false (.t 4) (.c (.int .u8 99)), (some (3, true))⟩,
      ⟨(some 6), .pick (.t 3) (.t 5) (.c (.bool false)), none⟩,
      ⟨(some 7), .mov (.t 6), none⟩,
      ⟨(some 8), .call 15 [(false, (.c (.int .u8 83)))], (some (7, true))⟩,
      ⟨(some 9), .bin .eql false (.t 8) (.c (.int .u8 237)), (some (7, true))⟩,
      ⟨(some 10), .pick (.t 7) (.t 9) (.c (.bool false)), none⟩,
      ⟨(some 11), .mov (.t 10), none⟩,
      ⟨(some 12), .call 19 [(false, (.c (.int .u8 99)))], (some (11, true))⟩,
      ⟨(some 13), .bin .eql false (.t 12) (.c (.int .u8 0)), (some (11, true))⟩,
      ⟨(some 14), .pick (.t 11) (.t 13) (.c (.bool false)), none⟩,
      ⟨(some 15), .mov (.t 14), none⟩,
      ⟨(some 16), .call 10 [(false, (.c (.int .u8 0)))], (some (15, true))⟩,
      ⟨(some 17), .bin .eql false (.t 16) (.c (.int .u8 0)), (some (15, true))⟩,
      ⟨(some 18), .pick (.t 15) (.t 17) (.c (.bool false)), none⟩,
      ⟨(some 19), .mov (.t 18), none⟩,
      ⟨(some 20), .call 12 [(false, (.c (.int .u8 0))), (false, (.c (.int .u64 0)))], (some (19, true))⟩,
      ⟨(some 21), .bin .eql false (.t 20) (.c (.int .u8 1)), (some (19, true))⟩,
      ⟨(some 22), .pick (.t 19) (.t 21) (.c (.bool false)), none⟩,
      ⟨(some 23), .mov (.t 22), none⟩,
      ⟨(some 24), .build [(.int .u8 0), (.int .u8 0), (.int .u8 0), (.int .u8 0)] [(0, 1, (.c (.int .u8 219))), (1, 1, (.c (.int .u8 19))), (2, 1, (.c (.int .u8 83))), (3, 1, (.c (.int .u8 69)))], (some (23, true))⟩,
      ⟨(some 25), .call 17 [(false, (.t 24))], (some (23, true))⟩,
      ⟨(some 26), .build [(.int .u8 0), (.int .u8 0), (.int .u8 0), (.int .u8 0)] [(0, 1, (.c (.int .u8 142))), (1, 1, (.c (.int .u8 77))), (2, 1, (.c (.int .u8 161))), (3, 1, (.c (.int .u8 188)))], (some (23, true))⟩,
      ⟨(some 27), .beq false (some [.i, .i, .i, .i]) (.t 25) (.t 26), (some (23, true))⟩,
      ⟨(some 28), .pick (.t 23) (.t 27) (.c (.bool false)), none⟩,
      ⟨(some 29), .mov (.t 28), none⟩,
      ⟨(some 30), .build [(.int .u8 0), (.int .u8 0), (.int .u8 0), (.int .u8 0)] [(0, 1, (.c (.int .u8 1))), (1, 1, (.c (.int .u8 1))), (2, 1, (.c (.int .u8 1))), (3, 1, (.c (.int .u8 1)))], (some (29, true))⟩,
      ⟨(some 31), .call 20 [(false, (.t 30))], (some (29, true))⟩,
      ⟨(some 32), .build [(.int .u8 0), (.int .u8 0), (.int .u8 0), (.int .u8 0)] [(0, 1, (.c (.int .u8 1))), (1, 1, (.c (.int .u8 1))), (2, 1, (.c (.int .u8 1))), (3, 1, (.c (.int .u8 1)))], (some (29, true))⟩,
      ⟨(some 33), .beq false (some [.i, .i, .i, .i]) (.t 31) (.t 32), (some (29, true))⟩,
      ⟨(some 34), .pick (.t 29) (.t 33) (.c (.bool false)), none⟩,
      ⟨(some 0), .mov (.t 34), none⟩] [0])
    .ret))
def rs14 : List RS := [.tmp 0]
/-- padlock/padlocklaw06.GfMuls -/
def rc3 : RC :=
  (.seq
   (.reg false [⟨(some 6), .mov (.c (.bool false)), none⟩] [0, 1, 2])
   (.seq
    (.reg false [⟨(some 7), .mov (.t 0), none⟩,
      ⟨(some 8), .mov (.t 1), none⟩,
      ⟨(some 9), .call 8 [(false, (.t 7)), (false, (.t 8))], none⟩,
      ⟨(some 10), .mov (.t 0), none⟩,
      ⟨(some 11), .mov (.t 1), none⟩,
      ⟨(some 12), .call 9 [(false, (.t 10)), (false, (.t 11))], none⟩,
      ⟨(some 13), .bin .eql false (.t 9) (.t 12), none⟩,
      ⟨(some 14), .mov (.t 13), none⟩,
      ⟨(some 15), .mov (.t 0), (some (14, true))⟩,
      ⟨(some 16), .call 10 [(false, (.t 15))], (some (14, true))⟩,
      ⟨(some 17), .mov (.t 0), (some (14, true))⟩,
      ⟨(some 18), .call 11 [(false, (.t 17))], (some (14, true))⟩,
      ⟨(some 19), .bin .eql false (.t 16) (.t 18), (some (14, true))⟩,
      ⟨(some 20), .pick (.t 14) (.t 19) (.c (.bool false)), none⟩,
      ⟨(some 21), .mov (.t 20), none⟩,
      ⟨(some 22), .mov (.t 0), (some (21, true))⟩,
      ⟨(some 23), .mov (.t 2), (some (21, true))⟩,
      ⟨(some 24), .bin .rem false (.t 23) (.c (.int .u8 20)), (some (21, true))⟩,
      ⟨(some 25), .conv true .u64 (.t 24), (some (21, true))⟩,
      ⟨(some 26), .call 12 [(false, (.t 22)), (false, (.t 25))], (some (21, true))⟩,
      ⟨(some 27), .mov (.t 0), (some (21, true))⟩,
      ⟨(some 28), .mov (.t 2), (some (21, true))⟩,
      ⟨(some 29), .bin .rem false (.t 28) (.c (.int .u8 20)), (some (21, true))⟩,
      ⟨(some 30), .conv true .i64 (.t 29), (some (21, true))⟩,
      ⟨(some 31), .call 13 [(false, (.t 27)), (false, (.t 30))], (some (21, true))⟩,
      ⟨(some 32), .bin .eql false (.t 26) (.t 31), (some (21, true))⟩,
      ⟨(some 33), .pick (.t 21) (.t 32) (.c (.bool false)), none⟩,
      ⟨(some 34), .mov (.t 33), none⟩,
      ⟨(some 35), .call 14 [], (some (34, true))⟩,
      ⟨(some 36), .pick (.t 34) (.t 35) (.c (.bool false)), none⟩,
      ⟨(some 6), .mov (.t 36), none⟩] [6])
    .ret))
def rs3 : List RS := [.tmp 6]
/-- padlock/padlocklaw06.GfBoxes -/
def rc4 : RC :=
  (.seq
   (.reg false [⟨(some 3), .box (.t 1), none⟩,
     ⟨(some 4), .mov (.c (.bool false)), none⟩] [0, 3])
   (.seq
    (.reg true [⟨(some 5), .mov (.t 0), none⟩,
      ⟨(some 6), .call 15 [(false, (.t 5))], none⟩,
      ⟨(some 7), .mov (.t 0), none⟩,
      ⟨(some 8), .call 16 [(false, (.t 7))], none⟩,
      ⟨(some 9), .bin .eql false (.t 6) (.t 8), none⟩,
      ⟨(some 10), .mov (.t 9), none⟩,
      ⟨(some 11), .loadB 3 4 true, (some (10, true))⟩,
      ⟨(some 12), .call 17 [(false, (.t 11))], (some (10, true))⟩,
      ⟨(some 13), .loadB 3 4 true, (some (10, true))⟩,
      ⟨(some 14), .call 18 [(false, (.t 13))], (some (10, true))⟩,
      ⟨(some 15), .beq false (some [.i, .i, .i, .i]) (.t 12) (.t 14), (some (10, true))⟩,
      ⟨(some 16), .pick (.t 10) (.t 15) (.c (.bool false)), none⟩,
      ⟨(some 17), .mov (.t 16), none⟩,
      ⟨(some 18), .call 14 [], (some (17, true))⟩,
      ⟨(some 19), .pick (.t 17) (.t 18) (.c (.bool false)), none⟩,
      ⟨(some 4), .mov (.t 19), none⟩] [4])
    .ret))
def rs4 : List RS := [.tmp 4]
/-- padlock/padlocklaw06.GfField -/
def rc5 : RC :=
  (.seq
   (.reg false [⟨(some 6), .mov (.c (.bool false)), none⟩] [0, 1, 2])
   (.seq
    (.seq
     (.reg false [⟨(some 7), .mov (.t 0), none⟩,
       ⟨(some 8), .mov (.t 1), none⟩,
       ⟨(some 9), .call 8 [(false, (.t 7)), (false, (.t 8))], none⟩,
       ⟨(some 10), .mov (.t 1), none⟩,
       ⟨(some 11), .mov (.t 0), none⟩,
       ⟨(some 12), .call 8 [(false, (.t 10)), (false, (.t 11))], none⟩,
       ⟨(some 13), .bin .neq false (.t 9) (.t 12), none⟩,
       ⟨(some 14), .mov (.t 13), none⟩,
       ⟨(some 15), .mov (.t 0), (some (14, false))⟩,
       ⟨(some 16), .mov (.t 1), (some (14, false))⟩,
       ⟨(some 17), .call 8 [(false, (.t 15)), (false, (.t 16))], (some (14, false))⟩,
       ⟨(some 18), .mov (.t 2), (some (14, false))⟩,
       ⟨(some 19), .call 8 [(false, (.t 17)), (false, (.t 18))], (some (14, false))⟩,
       ⟨(some 20), .mov (.t 0), (some (14, false))⟩,
       ⟨(some 21), .mov (.t 1), (some (14, false))⟩,
       ⟨(some 22), .mov (.t 2), (some (14, false))⟩,
       ⟨(some 23), .call 8 [(false, (.t 21)), (false, (.t 22))], (some (14, false))⟩,
       ⟨(some 24), .call 8 [(false, (.t 20)), (false, (.t 23))], (some (14, false))⟩,
       ⟨(some 25), .bin .neq false (.t 19) (.t 24), (some (14, false))⟩,
       ⟨(some 26), .pick (.t 14) (.c (.bool true)) (.t 25), none⟩] [0, 1, 2, 26])
     (.cond 26
      (.seq
       (.reg false [⟨(some 6), .mov (.c (.bool false)), none⟩] [6])
       .ret)
      (.reg false [] [0, 1, 2])))
    (.seq
     (.reg false [⟨(some 27), .mov (.t 0), none⟩,
       ⟨(some 28), .mov (.t 1), none⟩,
       ⟨(some 29), .mov (.t 2), none⟩,
       ⟨(some 30), .bin .xor false (.t 28) (.t 29), none⟩,
       ⟨(some 31), .call 8 [(false, (.t 27)), (false, (.t 30))], none⟩,
       ⟨(some 32), .mov (.t 0), none⟩,
       ⟨(some 33), .mov (.t 1), none⟩,
       ⟨(some 34), .call 8 [(false, (.t 32)), (false, (.t 33))], none⟩,
       ⟨(some 35), .mov (.t 0), none⟩,
       ⟨(some 36), .mov (.t 2), none⟩,
       ⟨(some 37), .call 8 [(false, (.t 35)), (false, (.t 36))], none⟩,
       ⟨(some 38), .bin .xor false (.t 34) (.t 37), none⟩,
       ⟨(some 39), .bin .eql false (.t 31) (.t 38), none⟩,
       ⟨(some 40), .mov (.t 39), none⟩,
       ⟨(some 41), .mov (.t 0), (some (40, true))⟩,
       ⟨(some 42), .call 8 [(false, (.t 41)), (false, (.c (.int .u8 1)))], (some (40, true))⟩,
       ⟨(some 43), .mov (.t 0), (some (40, true))⟩,
       ⟨(some 44), .bin .eql false (.t 42) (.t 43), (some (40, true))⟩,
       ⟨(some 45), .pick (.t 40) (.t 44) (.c (.bool false)), none⟩,
       ⟨(some 46), .mov (.t 45), none⟩,
       ⟨(some 47), .mov (.t 0), (some (46, true))⟩,
       ⟨(some 48), .call 8 [(false, (.t 47)), (false, (.c (.int .u8 0)))], (some (46, true))⟩,
       ⟨(some 49), .bin .eql false (.t 48) (.c (.int .u8 0)), (some (46, true))⟩,
       ⟨(some 50), .pick (.t 46) (.t 49) (.c (.bool false)), none⟩,
       ⟨(some 51), .mov (.t 50), none⟩,
       ⟨(some 52), .call 14 [], (some (51, true))⟩,
       ⟨(some 53), .pick (.t 51) (.t 52) (.c (.bool false)), none⟩,
       ⟨(some 6), .mov (.t 53), none⟩] [6])
     .ret)))
def rs5 : List RS := [.tmp 6]
/-- padlock/padlocklaw06.GfInverses -/
def rc6 : RC :=
  (.seq
   (.reg false [⟨(some 5), .box (.t 2), none⟩,
     ⟨(some 6), .mov (.c (.bool false)), none⟩] [0, 1, 5])
   (.seq
    (.seq
     (.reg false [⟨(some 9), .mov (.t 0), none⟩,
       ⟨(some 10), .call 10 [(false, (.t 9))], none⟩,
       ⟨(some 11), .call 10 [(false, (.t 10))], none⟩,
       ⟨(some 12), .mov (.t 0), none⟩,
       ⟨(some 13), .bin .neq false (.t 11) (.t 12), none⟩,
       ⟨(some 14), .mov (.t 13), none⟩,
       ⟨(some 15), .mov (.t 0), (some (14, false))⟩,
       ⟨(some 16), .mov (.t 1), (some (14, false))⟩,
       ⟨(some 17), .call 8 [(false, (.t 15)), (false, (.t 16))], (some (14, false))⟩,
       ⟨(some 18), .call 10 [(false, (.t 17))], (some (14, false))⟩,
       ⟨(some 19), .mov (.t 0), (some (14, false))⟩,
       ⟨(some 20), .call 10 [(false, (.t 19))], (some (14, false))⟩,
       ⟨(some 21), .mov (.t 1), (some (14, false))⟩,
       ⟨(some 22), .call 10 [(false, (.t 21))], (some (14, false))⟩,
       ⟨(some 23), .call 8 [(false, (.t 20)), (false, (.t 22))], (some (14, false))⟩,
       ⟨(some 24), .bin .neq false (.t 18) (.t 23), (some (14, false))⟩,
       ⟨(some 25), .pick (.t 14) (.c (.bool true)) (.t 24), none⟩] [0, 1, 5, 25])
     (.cond 25
      (.seq
       (.reg false [⟨(some 6), .mov (.c (.bool false)), none⟩] [6])
       .ret)
      (.reg false [] [0, 1, 5])))
    (.seq
     (.seq
      (.reg false [⟨(some 26), .mov (.t 0), none⟩,
        ⟨(some 27), .bin .neq false (.t 26) (.c (.int .u8 0)), none⟩,
        ⟨(some 28), .mov (.t 27), none⟩,
        ⟨(some 29), .mov (.t 0), (some (28, true))⟩,
        ⟨(some 30), .mov (.t 0), (some (28, true))⟩,
        ⟨(some 31), .call 10 [(false, (.t 30))], (some (28, true))⟩,
        ⟨(some 32), .call 8 [(false, (.t 29)), (false, (.t 31))], (some (28, true))⟩,
        ⟨(some 33), .bin .neq false (.t 32) (.c (.int .u8 1)), (some (28, true))⟩,
        ⟨(some 34), .mov (.t 33), (some (28, true))⟩,
        ⟨(some 35), .mov (.t 0), (some (34, false))⟩,
        ⟨(some 36), .call 12 [(false, (.t 35)), (false, (.c (.int .u64 255)))], (some (34, false))⟩,
        ⟨(some 37), .bin .neq false (.t 36) (.c (.int .u8 1)), (some (34, false))⟩,
        ⟨(some 38), .pick (.t 34) (.c (.bool true)) (.t 37), (some (28, true))⟩,
        ⟨(some 39), .mov (.t 38), (some (28, true))⟩,
        ⟨(some 40), .mov (.t 0), (some (39, false))⟩,
        ⟨(some 41), .call 12 [(false, (.t 40)), (false, (.c (.int .u64 254)))], (some (39, false))⟩,
        ⟨(some 42), .mov (.t 0), (some (39, false))⟩,
        ⟨(some 43), .call 10 [(false, (.t 42))], (some (39, false))⟩,
        ⟨(some 44), .bin .neq false (.t 41) (.t 43), (some (39, false))⟩,
        ⟨(some 45), .pick (.t 39) (.c (.bool true)) (.t 44), (some (28, true))⟩,
        ⟨(some 46), .pick (.t 28) (.t 45) (.c (.bool false)), none⟩] [0, 1, 5, 46])
      (.cond 46
       (.seq
        (.reg false [⟨(some 6), .mov (.c (.bool false)), none⟩] [6])
        .ret)
       (.reg false [] [0, 1, 5])))
     (.seq
      (.reg true [⟨(some 47), .idxB 5 1 2 (.c (.int .i64 0)), none⟩,
        ⟨(some 48), .loadR 47 5 1 false, none⟩,
        ⟨(some 49), .conv true .u64 (.t 48), none⟩,
        ⟨(some 50), .idxB 5 1 2 (.c (.int .i64 1)), none⟩,
        ⟨(some 51), .loadR 50 5 1 false, none⟩,
        ⟨(some 52), .conv true .u64 (.t 51), none⟩,
        ⟨(some 7), .mov (.t 49), none⟩,
        ⟨(some 8), .mov (.t 52), none⟩] [0, 1, 7, 8])
      (.seq
       (.reg false [⟨(some 53), .mov (.t 0), none⟩,
         ⟨(some 54), .mov (.t 7), none⟩,
         ⟨(some 55), .mov (.t 8), none⟩,
         ⟨(some 56), .bin .add false (.t 54) (.t 55), none⟩,
         ⟨(some 57), .call 12 [(false, (.t 53)), (false, (.t 56))], none⟩,
         ⟨(some 58), .mov (.t 0), none⟩,
         ⟨(some 59), .mov (.t 7), none⟩,
         ⟨(some 60), .call 12 [(false, (.t 58)), (false, (.t 59))], none⟩,
         ⟨(some 61), .mov (.t 0), none⟩,
         ⟨(some 62), .mov (.t 8), none⟩,
         ⟨(some 63), .call 12 [(false, (.t 61)), (false, (.t 62))], none⟩,
         ⟨(some 64), .call 8 [(false, (.t 60)), (false, (.t 63))], none⟩,
         ⟨(some 65), .bin .eql false (.t 57) (.t 64), none⟩,
         ⟨(some 66), .mov (.t 65), none⟩,
         ⟨(some 67), .mov (.t 0), (some (66, true))⟩,
         ⟨(some 68), .mov (.t 1), (some (66, true))⟩,
         ⟨(some 69), .call 8 [(false, (.t 67)), (false, (.t 68))], (some (66, true))⟩,
         ⟨(some 70), .mov (.t 7), (some (66, true))⟩,
         ⟨(some 71), .call 12 [(false, (.t 69)), (false, (.t 70))], (some (66, true))⟩,
         ⟨(some 72), .mov (.t 0), (some (66, true))⟩,
         ⟨(some 73), .mov (.t 7), (some (66, true))⟩,
         ⟨(some 74), .call 12 [(false, (.t 72)), (false, (.t 73))], (some (66, true))⟩,
         ⟨(some 75), .mov (.t 1), (some (66, true))⟩,
         ⟨(some 76), .mov (.t 7), (some (66, true))⟩,
         ⟨(some 77), .call 12 [(false, (.t 75)), (false, (.t 76))], (some (66, true))⟩,
         ⟨(some 78), .call 8 [(false, (.t 74)), (false, (.t 77))], (some (66, true))⟩,
         ⟨(some 79), .bin .eql false (.t 71) (.t 78), (some (66, true))⟩,
         ⟨(some 80), .pick (.t 66) (.t 79) (.c (.bool false)), none⟩,
         ⟨(some 81), .mov (.t 80), none⟩,
         ⟨(some 82), .call 14 [], (some (81, true))⟩,
         ⟨(some 83), .pick (.t 81) (.t 82) (.c (.bool false)), none⟩,
         ⟨(some 6), .mov (.t 83), none⟩] [6])
       .ret)))))
def rs6 : List RS := [.tmp 6]
/-- padlock/padlocklaw06.GfUndoes -/
def rc7 : RC :=
  (.seq
   (.reg false [⟨(some 2), .box (.t 0), none⟩,
     ⟨(some 3), .box (.t 1), none⟩,
     ⟨(some 4), .mov (.c (.bool false)), none⟩] [2, 3])
   (.seq
    (.seq
     (.reg true [⟨(some 13), .idxB 2 1 2 (.c (.int .i64 0)), none⟩,
       ⟨(some 14), .loadR 13 2 1 false, none⟩,
       ⟨(some 15), .call 15 [(false, (.t 14))], none⟩,
       ⟨(some 16), .call 19 [(false, (.t 15))], none⟩,
       ⟨(some 17), .idxB 2 1 2 (.c (.int .i64 0)), none⟩,
       ⟨(some 18), .loadR 17 2 1 false, none⟩,
       ⟨(some 19), .bin .neq false (.t 16) (.t 18), none⟩,
       ⟨(some 20), .mov (.t 19), none⟩,
       ⟨(some 21), .idxB 2 1 2 (.c (.int .i64 0)), (some (20, false))⟩,
       ⟨(some 22), .loadR 21 2 1 false, (some (20, false))⟩,
       ⟨(some 23), .call 19 [(false, (.t 22))], (some (20, false))⟩,
       ⟨(some 24), .call 15 [(false, (.t 23))], (some (20, false))⟩,
       ⟨(some 25), .idxB 2 1 2 (.c (.int .i64 0)), (some (20, false))⟩,
       ⟨(some 26), .loadR 25 2 1 false, (some (20, false))⟩,
       ⟨(some 27), .bin .neq false (.t 24) (.t 26), (some (20, false))⟩,
       ⟨(some 28), .pick (.t 20) (.c (.bool true)) (.t 27), none⟩,
       ⟨(some 29), .mov (.t 28), none⟩,
       ⟨(some 30), .idxB 2 1 2 (.c (.int .i64 0)), (some (29, false))⟩,
       ⟨(some 31), .loadR 30 2 1 false, (some (29, false))⟩,
       ⟨(some 32), .call 15 [(false, (.t 31))], (some (29, false))⟩,
       ⟨(some 33), .idxB 2 1 2 (.c (.int .i64 1)), (some (29, false))⟩,
       ⟨(some 34), .loadR 33 2 1 false, (some (29, false))⟩,
       ⟨(some 35), .call 15 [(false, (.t 34))], (some (29, false))⟩,
       ⟨(some 36), .bin .eql false (.t 32) (.t 35), (some (29, false))⟩,
       ⟨(some 37), .idxB 2 1 2 (.c (.int .i64 0)), (some (29, false))⟩,
       ⟨(some 38), .loadR 37 2 1 false, (some (29, false))⟩,
       ⟨(some 39), .idxB 2 1 2 (.c (.int .i64 1)), (some (29, false))⟩,
       ⟨(some 40), .loadR 39 2 1 false, (some (29, false))⟩,
       ⟨(some 41), .bin .eql false (.t 38) (.t 40), (some (29, false))⟩,
       ⟨(some 42), .beq true none (.t 36) (.t 41), (some (29, false))⟩,
       ⟨(some 43), .pick (.t 29) (.c (.bool true)) (.t 42), none⟩,
       ⟨(some 44), .mov (.t 43), none⟩,
       ⟨(some 45), .idxB 2 1 2 (.c (.int .i64 0)), (some (44, false))⟩,
       ⟨(some 46), .loadR 45 2 1 false, (some (44, false))⟩,
       ⟨(some 47), .call 15 [(false, (.t 46))], (some (44, false))⟩,
       ⟨(some 48), .idxB 2 1 2 (.c (.int .i64 0)), (some (44, false))⟩,
       ⟨(some 49), .loadR 48 2 1 false, (some (44, false))⟩,
       ⟨(some 50), .bin .eql false (.t 47) (.t 49), (some (44, false))⟩,
       ⟨(some 51), .pick (.t 44) (.c (.bool true)) (.t 50), none⟩] [2, 3, 51])
     (.cond 51
      (.seq
       (.reg false [⟨(some 4), .mov (.c (.bool false)), none⟩] [4])
       .ret)
      (.reg false [] [2, 3])))
    (.seq
     (.seq
      (.reg true [⟨(some 52), .idxB 3 4 2 (.c (.int .i64 0)), none⟩,
        ⟨(some 53), .loadR 52 3 4 true, none⟩,
        ⟨(some 54), .call 17 [(false, (.t 53))], none⟩,
        ⟨(some 55), .call 20 [(false, (.t 54))], none⟩,
        ⟨(some 56), .idxB 3 4 2 (.c (.int .i64 0)), none⟩,
        ⟨(some 57), .loadR 56 3 4 true, none⟩,
        ⟨(some 58), .beq true (some [.i, .i, .i, .i]) (.t 55) (.t 57), none⟩,
        ⟨(some 59), .mov (.t 58), none⟩,
        ⟨(some 60), .idxB 3 4 2 (.c (.int .i64 1)), (some (59, false))⟩,
        ⟨(some 61), .loadR 60 3 4 true, (some (59, false))⟩,
        ⟨(some 62), .call 20 [(false, (.t 61))], (some (59, false))⟩,
        ⟨(some 63), .call 17 [(false, (.t 62))], (some (59, false))⟩,
        ⟨(some 64), .idxB 3 4 2 (.c (.int .i64 1)), (some (59, false))⟩,
        ⟨(some 65), .loadR 64 3 4 true, (some (59, false))⟩,
        ⟨(some 66), .beq true (some [.i, .i, .i, .i]) (.t 63) (.t 65), (some (59, false))⟩,
        ⟨(some 67), .pick (.t 59) (.c (.bool true)) (.t 66), none⟩] [2, 3, 67])
      (.cond 67
       (.seq
        (.reg false [⟨(some 4), .mov (.c (.bool false)), none⟩] [4])
        .ret)
       (.reg false [] [2, 3])))
     (.seq
      (.reg false [⟨(some 5), .alloc [(.int .u8 0), (.int .u8 0), (.int .u8 0), (.int .u8 0)], none⟩,
        ⟨(some 6), .alloc [(.int .u8 0), (.int .u8 0), (.int .u8 0), (.int .u8 0)], none⟩] [2, 3, 5, 6])
      (.seq
       (.reg true [⟨(some 68), .idxB 3 4 2 (.c (.int .i64 0)), none⟩,
         ⟨(some 69), .loadR 68 3 4 true, none⟩,
         ⟨(some 70), .call 17 [(false, (.t 69))], none⟩,
         ⟨(some 71), .idxB 3 4 2 (.c (.int .i64 1)), none⟩,
         ⟨(some 72), .loadR 71 3 4 true, none⟩,
         ⟨(some 73), .call 17 [(false, (.t 72))], none⟩,
         ⟨(some 7), .alloc [(.int .u8 0), (.int .u8 0), (.int .u8 0), (.int .u8 0)], none⟩,
         ⟨(some 8), .alloc [(.int .u8 0), (.int .u8 0), (.int .u8 0), (.int .u8 0)], none⟩,
         ⟨none, .stB 7 4 (.t 70), none⟩,
         ⟨none, .stB 8 4 (.t 73), none⟩] [2, 3, 5, 6, 7, 8])
       (.seq
        (.seq
         (.reg false [⟨(some 9), .mov (.c (.int .i64 0)), none⟩] [2, 3, 5, 6, 7, 8, 9])
         (.block 0
          (.loop
           (.seq
            (.seq
             (.reg false [⟨(some 74), .mov (.t 9), none⟩,
               ⟨(some 75), .bin .lss true (.t 74) (.c (.int .i64 4)), none⟩] [2, 3, 5, 6, 7, 8, 9, 75])
             (.cond 75
              (.reg false [] [2, 3, 5, 6, 7, 8, 9])
              (.seq
               (.reg false [] [2, 5, 6, 7, 8])
               (.exit 0))))
            (.seq
             (.block 1
              (.seq
               (.reg true [⟨(some 78), .mov (.t 9), none⟩,
                 ⟨(some 79), .mov (.t 9), none⟩,
                 ⟨(some 80), .idxB 3 4 2 (.c (.int .i64 0)), none⟩,
                 ⟨(some 81), .idxR 80 3 1 4 (.t 79), none⟩,
                 ⟨(some 82), .loadR 81 3 1 false, none⟩,
                 ⟨(some 83), .mov (.t 9), none⟩,
                 ⟨(some 84), .idxB 3 4 2 (.c (.int .i64 1)), none⟩,
                 ⟨(some 85), .idxR 84 3 1 4 (.t 83), none⟩,
                 ⟨(some 86), .loadR 85 3 1 false, none⟩,
                 ⟨(some 87), .bin .xor false (.t 82) (.t 86), none⟩,
                 ⟨(some 88), .idxB 5 1 4 (.t 78), none⟩,
                 ⟨none, .stR 88 5 1 (.t 87), none⟩] [2, 3, 5, 6, 7, 8, 9])
               (.reg true [⟨(some 89), .mov (.t 9), none⟩,
                 ⟨(some 90), .idxB 2 1 2 (.c (.int .i64 1)), none⟩,
                 ⟨(some 91), .loadR 90 2 1 false, none⟩,
                 ⟨(some 92), .mov (.t 9), none⟩,
                 ⟨(some 93), .idxB 3 4 2 (.c (.int .i64 0)), none⟩,
                 ⟨(some 94), .idxR 93 3 1 4 (.t 92), none⟩,
                 ⟨(some 95), .loadR 94 3 1 false, none⟩,
                 ⟨(some 96), .call 8 [(false, (.t 91)), (false, (.t 95))], none⟩,
                 ⟨(some 97), .idxB 6 1 4 (.t 89), none⟩,
                 ⟨none, .stR 97 6 1 (.t 96), none⟩] [2, 3, 5, 6, 7, 8, 9])))
             (.reg false [⟨(some 76), .mov (.t 9), none⟩,
               ⟨(some 77), .bin .add true (.t 76) (.c (.int .i64 1)), none⟩,
               ⟨(some 9), .mov (.t 77), none⟩] [2, 3, 5, 6, 7, 8, 9]))))))
        (.seq
         (.reg true [⟨(some 98), .loadB 5 4 true, none⟩,
           ⟨(some 99), .call 17 [(false, (.t 98))], none⟩,
           ⟨(some 100), .loadB 6 4 true, none⟩,
           ⟨(some 101), .call 17 [(false, (.t 100))], none⟩,
           ⟨(some 10), .alloc [(.int .u8 0), (.int .u8 0), (.int .u8 0), (.int .u8 0)], none⟩,
           ⟨(some 11), .alloc [(.int .u8 0), (.int .u8 0), (.int .u8 0), (.int .u8 0)], none⟩,
           ⟨none, .stB 10 4 (.t 99), none⟩,
           ⟨none, .stB 11 4 (.t 101), none⟩] [2, 7, 8, 10, 11])
         (.seq
          (.seq
           (.reg false [⟨(some 12), .mov (.c (.int .i64 0)), none⟩] [2, 7, 8, 10, 11, 12])
           (.block 2
            (.loop
             (.seq
              (.seq
               (.reg false [⟨(some 102), .mov (.t 12), none⟩,
                 ⟨(some 103), .bin .lss true (.t 102) (.c (.int .i64 4)), none⟩] [2, 7, 8, 10, 11, 12, 103])
               (.cond 103
                (.reg false [] [2, 7, 8, 10, 11, 12])
                (.seq
                 (.reg false [] [])
                 (.exit 2))))
              (.seq
               (.block 3
                (.seq
                 (.reg true [⟨(some 106), .mov (.t 12), none⟩,
                   ⟨(some 107), .idxB 10 1 4 (.t 106), none⟩,
                   ⟨(some 108), .loadR 107 10 1 false, none⟩,
                   ⟨(some 109), .mov (.t 12), none⟩,
                   ⟨(some 110), .idxB 7 1 4 (.t 109), none⟩,
                   ⟨(some 111), .loadR 110 7 1 false, none⟩,
                   ⟨(some 112), .mov (.t 12), none⟩,
                   ⟨(some 113), .idxB 8 1 4 (.t 112), none⟩,
                   ⟨(some 114), .loadR 113 8 1 false, none⟩,
                   ⟨(some 115), .bin .xor false (.t 111) (.t 114), none⟩,
                   ⟨(some 116), .bin .neq false (.t 108) (.t 115), none⟩,
                   ⟨(some 117), .mov (.t 116), none⟩,
                   ⟨(some 118), .mov (.t 12), (some (117, false))⟩,
                   ⟨(some 119), .idxB 11 1 4 (.t 118), (some (117, false))⟩,
                   ⟨(some 120), .loadR 119 11 1 false, (some (117, false))⟩,
                   ⟨(some 121), .idxB 2 1 2 (.c (.int .i64 1)), (some (117, false))⟩,
                   ⟨(some 122), .loadR 121 2 1 false, (some (117, false))⟩,
                   ⟨(some 123), .mov (.t 12), (some (117, false))⟩,
                   ⟨(some 124), .idxB 7 1 4 (.t 123), (some (117, false))⟩,
                   ⟨(some 125), .loadR 124 7 1 false, (some (117, false))⟩,
                   ⟨(some 126), .call 8 [(false, (.t 122)), (false, (.t 125))], (some (117, false))⟩,
                   ⟨(some 127), .bin .neq false (.t 120) (.t 126), (some (117, false))⟩,
                   ⟨(some 128), .pick (.t 117) (.c (.bool true)) (.t 127), none⟩] [2, 7, 8, 10, 11, 12, 128])
                 (.cond 128
                  (.seq
                   (.reg false [⟨(some 4), .mov (.c (.bool false)), none⟩] [4])
                   .ret)
                  (.reg false [] [2, 7, 8, 10, 11, 12]))))
               (.reg false [⟨(some 104), .mov (.t 12), none⟩,
                 ⟨(some 105), .bin .add true (.t 104) (.c (.int .i64 1)), none⟩,
                 ⟨(some 12), .mov (.t 105), none⟩] [2, 7, 8, 10, 11, 12]))))))
          (.seq
           (.reg false [⟨(some 129), .call 14 [], none⟩,
             ⟨(some 4), .mov (.t 129), none⟩] [4])
           .ret)))))))))
def rs7 : List RS := [.tmp 4]
theorem pf14   : PFx Try.prog 14 [] (.bool true) := by
  refine PFx_of_W (rc := rc14) (rs := rs14) Try.func14 rfl T20_ok hm (by kernel_rfl) (by kernel_rfl) (by simp [Try.ntmps14]) ?_
  have c0 : T8 8 [.int .u8 87, .int .u8 131] = some (.int .u8 193) := (T8_eq 87#8 131#8).trans (by rw [show mul 87#8 131#8 = 193#8 by decide +kernel]; rfl)
  have c1 : T15 15 [.int .u8 0] = some (.int .u8 99) := (T15_eq 0#8).trans (by rw [show box 0#8 = 99#8 by decide +kernel]; rfl)
  have c2 : T15 15 [.int .u8 83] = some (.int .u8 237) := (T15_eq 83#8).trans (by rw [show box 83#8 = 237#8 by decide +kernel]; rfl)
  have c3 : T19 19 [.int .u8 99] = some (.int .u8 0) := (T19_eq 99#8).trans (by rw [show unbox 99#8 = 0#8 by decide +kernel]; rfl)
  have c4 : T10 10 [.int .u8 0] = some (.int .u8 0) := (T10_eq 0#8).trans (by rw [inv_zero]; rfl)
  have c5 : T12 12 [.int .u8 0, .int .u64 0] = some (.int .u8 1) := (T12_eq 0#8 0 (by decide)).trans rfl
  have c6 : T17 17 [.agg [.int .u8 219, .int .u8 19, .int .u8 83, .int .u8 69]] = some (.agg [.int .u8 142, .int .u8 77, .int .u8 161, .int .u8 188]) := (T17_eq (219#8, 19#8, 83#8, 69#8)).trans (by rw [show mix (219#8, 19#8, 83#8, 69#8) = (142#8, 77#8, 161#8, 188#8) by decide +kernel]; rfl)
  have c7 : T20 20 [.agg [.int .u8 1, .int .u8 1, .int .u8 1, .int .u8 1]] = some (.agg [.int .u8 1, .int .u8 1, .int .u8 1, .int .u8 1]) := (T20_eq (1#8, 1#8, 1#8, 1#8)).trans (by rw [show unmix (1#8, 1#8, 1#8, 1#8) = (1#8, 1#8, 1#8, 1#8) by decide +kernel]; rfl)
  simp [rc14, rs14, c0, c1, c2, c3, c4, c5, c6, c7]
noncomputable def T14 : Tab := tabAdd T20 14 (fun _ : Unit => True) (fun _ => []) (fun _ => .bool true)
@[simp] theorem T14_eq   : T14 14 [] = some (.bool true) := tabAdd_eq (a := ()) (by simp +contextual [Int.natCast_inj]) trivial rfl
@[simp] theorem T14_ne {g : Nat} {xs : List AV} (h : g ≠ 14) : T14 g xs = T20 g xs := tabAdd_ne h
theorem T14_ok : Sound Try.prog T14 := tabAdd_sound T20_ok fun _ _ => pf14  
theorem pf3 (a : B) (b : B) (n : B)  : PFx Try.prog 3 [.int .u8 (bv a), .int .u8 (bv b), .int .u8 (bv n)] (.bool true) := by
  refine PFx_of_W (rc := rc3) (rs := rs3) Try.func3 rfl T14_ok hm (by kernel_rfl) (by kernel_rfl) (by simp [Try.ntmps3]) ?_
  have hn : (bv n).tmod 20 = ((n.toNat % 20 : Nat) : Int) := by unfold bv; rw [Int.tmod_eq_emod_of_nonneg (Int.natCast_nonneg _)]; omega
  obtain ⟨k, hk⟩ : ∃ k, k = n.toNat % 20 := ⟨_, rfl⟩
  have hk2 : k < 20 := by omega
  rw [← hk] at hn
  simp [rc3, rs3, hn, show k < 18446744073709551616 by omega, show k ≤ 1000000 by omega]
  omega
noncomputable def T3 : Tab := tabAdd T14 3 (fun _ : B × B × B => True) (fun z => [.int .u8 (bv z.1), .int .u8 (bv z.2.1), .int .u8 (bv z.2.2)]) (fun _ => .bool true)
@[simp] theorem T3_eq (a : B) (b : B) (n : B)  : T3 3 [.int .u8 (bv a), .int .u8 (bv b), .int .u8 (bv n)] = some (.bool true) := tabAdd_eq (a := (a, b, n)) (by simp +contextual [Int.natCast_inj]) trivial rfl
@[simp] theorem T3_ne {g : Nat} {xs : List AV} (h : g ≠ 3) : T3 g xs = T14 g xs := tabAdd_ne h
theorem T3_ok : Sound Try.prog T3 := tabAdd_sound T14_ok fun z _ => pf3 z.1 z.2.1 z.2.2 
theorem pf4 (a : B) (c : V)  : PFx Try.prog 4 [.int .u8 (bv a), .agg (colA c)] (.bool true) := by
  refine PFx_of_W (rc := rc4) (rs := rs4) Try.func4 rfl T3_ok hm (by kernel_rfl) (by kernel_rfl) (by simp [Try.ntmps4]) ?_
  have e1 := T17_eq c
  have e2 := T18_eq c
  obtain ⟨p, q, r, s⟩ := c
  simp only [colA] at e1 e2 ⊢
  simp [rc4, rs4, e1, e2, -T17_eq, -T18_eq]
noncomputable def T4 : Tab := tabAdd T3 4 (fun _ : B × V => True) (fun z => [.int .u8 (bv z.1), .agg (colA z.2)]) (fun _ => .bool true)
@[simp] theorem T4_eq (a : B) (c : V)  : T4 4 [.int .u8 (bv a), .agg (colA c)] = some (.bool true) := tabAdd_eq (a := (a, c)) (by simp +contextual [Int.natCast_inj]) trivial rfl
@[simp] theorem T4_ne {g : Nat} {xs : List AV} (h : g ≠ 4) : T4 g xs = T3 g xs := tabAdd_ne h
theorem T4_ok : Sound Try.prog T4 := tabAdd_sound T3_ok fun z _ => pf4 z.1 z.2 
theorem pf5 (a : B) (b : B) (c : B)  : PFx Try.prog 5 [.int .u8 (bv a), .int .u8 (bv b), .int .u8 (bv c)] (.bool true) := by
  refine PFx_of_W (rc := rc5) (rs := rs5) Try.func5 rfl T4_ok hm (by kernel_rfl) (by kernel_rfl) (by simp [Try.ntmps5]) ?_
  have c1 : T8 8 [.int .u8 (bv a), .int .u8 1] = some (.int .u8 (bv a)) := (T8_eq a 1#8).trans (by rw [mul_one])
  have c2 : T8 8 [.int .u8 (bv a), .int .u8 0] = some (.int .u8 0) := (T8_eq a 0#8).trans (by rw [mul_zero]; rfl)
  simp [rc5, rs5, c1, c2, bv_xor8, mul_add, mul_comm b a, mul_assoc]
noncomputable def T5 : Tab := tabAdd T4 5 (fun _ : B × B × B => True) (fun z => [.int .u8 (bv z.1), .int .u8 (bv z.2.1), .int .u8 (bv z.2.2)]) (fun _ => .bool true)
@[simp] theorem T5_eq (a : B) (b : B) (c : B)  : T5 5 [.int .u8 (bv a), .int .u8 (bv b), .int .u8 (bv c)] = some (.bool true) := tabAdd_eq (a := (a, b, c)) (by simp +contextual [Int.natCast_inj]) trivial rfl
@[simp] theorem T5_ne {g : Nat} {xs : List AV} (h : g ≠ 5) : T5 g xs = T4 g xs := tabAdd_ne h
theorem T5_ok : Sound Try.prog T5 := tabAdd_sound T4_ok fun z _ => pf5 z.1 z.2.1 z.2.2 
theorem pf6 (a : B) (b : B) (x : BitVec 32) (y : BitVec 32)  : PFx Try.prog 6 [.int .u8 (bv a), .int .u8 (bv b), .agg [.int .u32 (bv x), .int .u32 (bv y)]] (.bool true) := by
  refine PFx_of_W (rc := rc6) (rs := rs6) Try.func6 rfl T5_ok hm (by kernel_rfl) (by kernel_rfl) (by simp [Try.ntmps6]) ?_
  have hx := x.isLt; have hy := y.isLt
  have e1 : T12 12 [.int .u8 (bv a), .int .u64 (bv x + bv y)] = some (.int .u8 (bv (pw a (x.toNat + y.toNat)))) := T12_eq a (x.toNat + y.toNat) (by omega)
  have e2 : ∀ c : B, T12 12 [.int .u8 (bv c), .int .u64 (bv x)] = some (.int .u8 (bv (pw c x.toNat))) := fun c => T12_eq c x.toNat (by omega)
  have e3 : ∀ c : B, T12 12 [.int .u8 (bv c), .int .u64 (bv y)] = some (.int .u8 (bv (pw c y.toNat))) := fun c => T12_eq c y.toNat (by omega)
  have e4 : T12 12 [.int .u8 (bv a), .int .u64 255] = some (.int .u8 (bv (pw a 255))) := T12_eq a 255 (by omega)
  have e5 : T12 12 [.int .u8 (bv a), .int .u64 254] = some (.int .u8 (bv (pw a 254))) := T12_eq a 254 (by omega)
  have w : IntKind.u64.wrap (bv x + bv y) = bv x + bv y := by unfold bv; rw [← Int.natCast_add, u64_wrap]; omega
  have f1 := inv_inv a
  have f2 := inv_mul a b
  have f3 := inv_pw a
  have f4 := pw_add a x.toNat y.toNat
  have f5 := pw_mul a b x.toNat
  by_cases h0 : a = 0#8
  · have hT : (a = 0#8) = True := eq_true h0
    simp [rc6, rs6, e1, e2, e3, e4, e5, w, hT, eq_lit, f1, f2, f4, f5]
    all_goals (unfold bv; omega)
  · have i1 := mul_inv a h0
    have i2 := pw_255 a h0
    have hT : (a = 0#8) = False := eq_false h0
    simp [rc6, rs6, e1, e2, e3, e4, e5, w, hT, eq_lit, i1, i2, f1, f2, f3, f4, f5]
    rw [← f3]
    exact ⟨f1, i1, by unfold bv; omega, by unfold bv; omega⟩
noncomputable def T6 : Tab := tabAdd T5 6 (fun _ : B × B × (BitVec 32) × (BitVec 32) => True) (fun z => [.int .u8 (bv z.1), .int .u8 (bv z.2.1), .agg [.int .u32 (bv z.2.2.1), .int .u32 (bv z.2.2.2)]]) (fun _ => .bool true)
@[simp] theorem T6_eq (a : B) (b : B) (x : BitVec 32) (y : BitVec 32)  : T6 6 [.int .u8 (bv a), .int .u8 (bv b), .agg [.int .u32 (bv x), .int .u32 (bv y)]] = some (.bool true) := tabAdd_eq (a := (a, b, x, y)) (by simp +contextual [Int.natCast_inj]) trivial rfl
@[simp] theorem T6_ne {g : Nat} {xs : List AV} (h : g ≠ 6) : T6 g xs = T5 g xs := tabAdd_ne h
theorem T6_ok : Sound Try.prog T6 := tabAdd_sound T5_ok fun z _ => pf6 z.1 z.2.1 z.2.2.1 z.2.2.2 
/-- As far as it is laid. -/
def upTo (p q r s : B) : Nat → List AV
  | 0 => [.int .u8 0, .int .u8 0, .int .u8 0, .int .u8 0]
  | 1 => [.int .u8 (bv p), .int .u8 0, .int .u8 0, .int .u8 0]
  | 2 => [.int .u8 (bv p), .int .u8 (bv q), .int .u8 0, .int .u8 0]
  | 3 => [.int .u8 (bv p), .int .u8 (bv q), .int .u8 (bv r), .int .u8 0]
  | _ => [.int .u8 (bv p), .int .u8 (bv q), .int .u8 (bv r), .int .u8 (bv s)]
set_option maxHeartbeats 4000000 in
theorem undoes_pf (a b c0 c1 c2 c3 d0 d1 d2 d3 : B) : PFx Try.prog 7 [.agg [.int .u8 (bv a), .int .u8 (bv b)], .agg [.int .u8 (bv c0), .int .u8 (bv c1), .int .u8 (bv c2), .int .u8 (bv c3), .int .u8 (bv d0), .int .u8 (bv d1), .int .u8 (bv d2), .int .u8 (bv d3)]] (.bool true) := by
  refine PFx_of_W (rc := rc7) (rs := rs7) Try.func7 rfl T6_ok hm (by kernel_rfl) (by kernel_rfl) (by simp [Try.ntmps7]) ?_
  have hb : ∀ x y : B, (box x = box y) = (x = y) := fun x y => propext (box_inj x y)
  obtain ⟨x0, x1, x2, x3, hx⟩ : ∃ x0 x1 x2 x3, mix (c0, c1, c2, c3) = (x0, x1, x2, x3) := ⟨_, _, _, _, rfl⟩
  obtain ⟨y0, y1, y2, y3, hy⟩ : ∃ x0 x1 x2 x3, mix (d0, d1, d2, d3) = (x0, x1, x2, x3) := ⟨_, _, _, _, rfl⟩
  obtain ⟨z0, z1, z2, z3, hz⟩ : ∃ x0 x1 x2 x3, unmix (d0, d1, d2, d3) = (x0, x1, x2, x3) := ⟨_, _, _, _, rfl⟩
  have hx2 : unmix (x0, x1, x2, x3) = (c0, c1, c2, c3) := by rw [← hx, unmix_mix]
  have hz2 : mix (z0, z1, z2, z3) = (d0, d1, d2, d3) := by rw [← hz, mix_unmix]
  have hs : mix (c0 ^^^ d0, c1 ^^^ d1, c2 ^^^ d2, c3 ^^^ d3) = (x0 ^^^ y0, x1 ^^^ y1, x2 ^^^ y2, x3 ^^^ y3) := by
    have := circ_add 2#8 3#8 1#8 1#8 (c0, c1, c2, c3) (d0, d1, d2, d3)
    rw [show circ 2#8 3#8 1#8 1#8 (c0, c1, c2, c3) = (x0, x1, x2, x3) from hx, show circ 2#8 3#8 1#8 1#8 (d0, d1, d2, d3) = (y0, y1, y2, y3) from hy] at this
    exact this
  have hp : mix (mul b c0, mul b c1, mul b c2, mul b c3) = (mul b x0, mul b x1, mul b x2, mul b x3) := by
    have := circ_mul b 2#8 3#8 1#8 1#8 (c0, c1, c2, c3)
    rw [show circ 2#8 3#8 1#8 1#8 (c0, c1, c2, c3) = (x0, x1, x2, x3) from hx] at this
    exact this
  have e1 := T17_eq (c0, c1, c2, c3); rw [hx] at e1
  have e2 := T20_eq (x0, x1, x2, x3); rw [hx2] at e2
  have e3 := T20_eq (d0, d1, d2, d3); rw [hz] at e3
  have e4 := T17_eq (z0, z1, z2, z3); rw [hz2] at e4
  have e5 := T17_eq (d0, d1, d2, d3); rw [hy] at e5
  have e6 := T17_eq (c0 ^^^ d0, c1 ^^^ d1, c2 ^^^ d2, c3 ^^^ d3); rw [hs] at e6
  have e7 := T17_eq (mul b c0, mul b c1, mul b c2, mul b c3); rw [hp] at e7
  simp only [colA] at e1 e2 e3 e4 e5 e6 e7
  simp [rc7, rs7, unbox_box, box_unbox, box_ne, hb, e1, e2, e3, e4, e5]
  refine W_forU 4 (fun _ => True) (fun k => [(5, .box (upTo (c0 ^^^ d0) (c1 ^^^ d1) (c2 ^^^ d2) (c3 ^^^ d3) k)), (6, .box (upTo (mul b c0) (mul b c1) (mul b c2) (mul b c3) k)), (9, .int .i64 k)]) trivial (by simp [upTo]) (fun k hk _ => ?_) fun _ => ?_
  · have hc : k = 0 ∨ k = 1 ∨ k = 2 ∨ k = 3 := by omega
    rcases hc with rfl | rfl | rfl | rfl <;> simp [upTo, bv_xor8]
  · simp [upTo, e6, e7]
    refine W_forU 4 (fun _ => True) (fun k => [(12, .int .i64 k)]) trivial (by simp) (fun k hk _ => ?_) fun _ => ?_
    · have hc : k = 0 ∨ k = 1 ∨ k = 2 ∨ k = 3 := by omega
      rcases hc with rfl | rfl | rfl | rfl <;> simp [bv_xor8]
    · simp
theorem undoes_pf' (a b : B) (l : List B) (hl : l.length = 2 * 4) : PFx Try.prog 7 [.agg [.int .u8 (bv a), .int .u8 (bv b)], .agg (w8s l)] (.bool true) := by
  obtain ⟨c0, c1, c2, c3, d0, d1, d2, d3, rfl⟩ := list8 hl
  exact undoes_pf a b c0 c1 c2 c3 d0 d1 d2 d3
end Go.Proofs.Ytmbphkcljhipiaa

