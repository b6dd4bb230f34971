/- Characters: of the program, of the library and of the document. -/
import Derived.Test.YtbinejcnoogoiaaDoorT3
set_option linter.unusedVariables false
set_option linter.unusedSimpArgs false
namespace Go.Proofs.YtbinejcnoogoiaaDoor
open Go.Proofs.YtbinejcnoogoiaaDoor.Pad Go.Proofs.YtbinejcnoogoiaaDoor.Pad.Route Go.Proofs.YtbinejcnoogoiaaDoor.Pad.Runes Go.Proofs.YtbinejcnoogoiaaDoor.Pad.Utf
/-- padlock/route.Rune -/
def rc8 : RC :=
  (.seq
   (.reg false [⟨(some 2), .mov (.c (.bool false)), none⟩] [0])
   (.seq
    (.block 0
     (.seq
      (.seq
       (.reg false [⟨(some 4), .mov (.t 0), none⟩,
         ⟨(some 5), .bin .leq true (.c (.int .i32 97)) (.t 4), none⟩,
         ⟨(some 6), .mov (.t 5), none⟩,
         ⟨(some 7), .mov (.t 0), (some (6, true))⟩,
         ⟨(some 8), .bin .leq true (.t 7) (.c (.int .i32 122)), (some (6, true))⟩,
         ⟨(some 9), .pick (.t 6) (.t 8) (.c (.bool false)), none⟩,
         ⟨(some 3), .mov (.t 9), none⟩] [0, 3])
       (.cond 3
        (.reg false [] [0, 3])
        (.seq
         (.reg false [⟨(some 10), .mov (.t 0), none⟩,
           ⟨(some 11), .bin .leq true (.c (.int .i32 65)) (.t 10), none⟩,
           ⟨(some 12), .mov (.t 11), none⟩,
           ⟨(some 13), .mov (.t 0), (some (12, true))⟩,
           ⟨(some 14), .bin .leq true (.t 13) (.c (.int .i32 90)), (some (12, true))⟩,
           ⟨(some 15), .pick (.t 12) (.t 14) (.c (.bool false)), none⟩,
           ⟨(some 3), .mov (.t 15), none⟩] [0, 3])
         (.cond 3
          (.reg false [] [0, 3])
          (.reg false [⟨(some 16), .mov (.t 0), none⟩,
            ⟨(some 17), .bin .leq true (.c (.int .i32 48)) (.t 16), none⟩,
            ⟨(some 18), .mov (.t 17), none⟩,
            ⟨(some 19), .mov (.t 0), (some (18, true))⟩,
            ⟨(some 20), .bin .leq true (.t 19) (.c (.int .i32 57)), (some (18, true))⟩,
            ⟨(some 21), .pick (.t 18) (.t 20) (.c (.bool false)), none⟩,
            ⟨(some 3), .mov (.t 21), none⟩] [0, 3])))))
      (.cond 3
       (.seq
        (.reg false [⟨(some 2), .mov (.c (.bool true)), none⟩] [2])
        .ret)
       (.seq
        (.seq
         (.reg false [⟨(some 23), .mov (.t 0), none⟩,
           ⟨(some 24), .bin .eql true (.t 23) (.c (.int .i32 45)), none⟩,
           ⟨(some 22), .mov (.t 24), none⟩] [0, 22])
         (.cond 22
          (.reg false [] [0, 22])
          (.seq
           (.reg false [⟨(some 25), .mov (.t 0), none⟩,
             ⟨(some 26), .bin .eql true (.t 25) (.c (.int .i32 46)), none⟩,
             ⟨(some 22), .mov (.t 26), none⟩] [0, 22])
           (.cond 22
            (.reg false [] [0, 22])
            (.reg false [⟨(some 27), .mov (.t 0), none⟩,
              ⟨(some 28), .bin .eql true (.t 27) (.c (.int .i32 95)), none⟩,
              ⟨(some 22), .mov (.t 28), none⟩] [0, 22])))))
        (.cond 22
         (.seq
          (.reg false [⟨(some 2), .mov (.c (.bool true)), none⟩] [2])
          .ret)
         (.reg false [] [0]))))))
    (.seq
     (.reg false [⟨(some 29), .mov (.t 0), none⟩,
       ⟨(some 30), .bin .leq true (.c (.int .i32 192)) (.t 29), none⟩,
       ⟨(some 31), .mov (.t 30), none⟩,
       ⟨(some 32), .mov (.t 0), (some (31, true))⟩,
       ⟨(some 33), .bin .leq true (.t 32) (.c (.int .i32 55295)), (some (31, true))⟩,
       ⟨(some 34), .pick (.t 31) (.t 33) (.c (.bool false)), none⟩,
       ⟨(some 2), .mov (.t 34), none⟩] [2])
     .ret)))
def rs8 : List RS := [.tmp 2]
/-- padlock/padlockref04.Rune -/
def rc9 : RC :=
  (.seq
   (.reg false [⟨(some 2), .mov (.c (.bool false)), none⟩] [0])
   (.seq
    (.reg false [⟨(some 3), .mov (.t 0), none⟩,
      ⟨(some 4), .bin .geq true (.t 3) (.c (.int .i64 97)), none⟩,
      ⟨(some 5), .mov (.t 4), none⟩,
      ⟨(some 6), .mov (.t 0), (some (5, true))⟩,
      ⟨(some 7), .bin .leq true (.t 6) (.c (.int .i64 122)), (some (5, true))⟩,
      ⟨(some 8), .pick (.t 5) (.t 7) (.c (.bool false)), none⟩,
      ⟨(some 9), .mov (.t 8), none⟩,
      ⟨(some 10), .mov (.t 0), (some (9, false))⟩,
      ⟨(some 11), .bin .geq true (.t 10) (.c (.int .i64 65)), (some (9, false))⟩,
      ⟨(some 12), .mov (.t 11), (some (9, false))⟩,
      ⟨(some 13), .mov (.t 0), (some (12, true))⟩,
      ⟨(some 14), .bin .leq true (.t 13) (.c (.int .i64 90)), (some (12, true))⟩,
      ⟨(some 15), .pick (.t 12) (.t 14) (.c (.bool false)), (some (9, false))⟩,
      ⟨(some 16), .pick (.t 9) (.c (.bool true)) (.t 15), none⟩,
      ⟨(some 17), .mov (.t 16), none⟩,
      ⟨(some 18), .mov (.t 0), (some (17, false))⟩,
      ⟨(some 19), .bin .geq true (.t 18) (.c (.int .i64 48)), (some (17, false))⟩,
      ⟨(some 20), .mov (.t 19), (some (17, false))⟩,
      ⟨(some 21), .mov (.t 0), (some (20, true))⟩,
      ⟨(some 22), .bin .leq true (.t 21) (.c (.int .i64 57)), (some (20, true))⟩,
      ⟨(some 23), .pick (.t 20) (.t 22) (.c (.bool false)), (some (17, false))⟩,
      ⟨(some 24), .pick (.t 17) (.c (.bool true)) (.t 23), none⟩,
      ⟨(some 25), .mov (.t 24), none⟩,
      ⟨(some 26), .mov (.t 0), (some (25, false))⟩,
      ⟨(some 27), .bin .eql true (.t 26) (.c (.int .i64 45)), (some (25, false))⟩,
      ⟨(some 28), .pick (.t 25) (.c (.bool true)) (.t 27), none⟩,
      ⟨(some 29), .mov (.t 28), none⟩,
      ⟨(some 30), .mov (.t 0), (some (29, false))⟩,
      ⟨(some 31), .bin .eql true (.t 30) (.c (.int .i64 46)), (some (29, false))⟩,
      ⟨(some 32), .pick (.t 29) (.c (.bool true)) (.t 31), none⟩,
      ⟨(some 33), .mov (.t 32), none⟩,
      ⟨(some 34), .mov (.t 0), (some (33, false))⟩,
      ⟨(some 35), .bin .eql true (.t 34) (.c (.int .i64 95)), (some (33, false))⟩,
      ⟨(some 36), .pick (.t 33) (.c (.bool true)) (.t 35), none⟩,
      ⟨(some 37), .mov (.t 36), none⟩,
      ⟨(some 38), .mov (.t 0), (some (37, false))⟩,
      ⟨(some 39), .bin .geq true (.t 38) (.c (.int .i64 192)), (some (37, false))⟩,
      ⟨(some 40), .mov (.t 39), (some (37, false))⟩,
      ⟨(some 41), .mov (.t 0), (some (40, true))⟩,
      ⟨(some 42), .bin .leq true (.t 41) (.c (.int .i64 55295)), (some (40, true))⟩,
      ⟨(some 43), .pick (.t 40) (.t 42) (.c (.bool false)), (some (37, false))⟩,
      ⟨(some 44), .pick (.t 37) (.c (.bool true)) (.t 43), none⟩,
      ⟨(some 2), .mov (.t 44), none⟩] [2])
    .ret))
def rs9 : List RS := [.tmp 2]
/-- padlock/padlockref04.tail -/
def rc31 : RC :=
  (.seq
   (.reg false [⟨(some 4), .mov (.c (.bool false)), none⟩] [0, 1])
   (.seq
    (.reg false [⟨(some 5), .mov (.t 1), none⟩,
      ⟨(some 6), .mov (.t 0), none⟩,
      ⟨(some 7), .len true (.t 6), none⟩,
      ⟨(some 8), .bin .lss true (.t 5) (.t 7), none⟩,
      ⟨(some 9), .mov (.t 8), none⟩,
      ⟨(some 10), .mov (.t 0), (some (9, true))⟩,
      ⟨(some 11), .mov (.t 1), (some (9, true))⟩,
      ⟨(some 12), .sidx (.t 10) (.t 11), (some (9, true))⟩,
      ⟨(some 13), .bin .geq false (.t 12) (.c (.int .u8 128)), (some (9, true))⟩,
      ⟨(some 14), .pick (.t 9) (.t 13) (.c (.bool false)), none⟩,
      ⟨(some 15), .mov (.t 14), none⟩,
      ⟨(some 16), .mov (.t 0), (some (15, true))⟩,
      ⟨(some 17), .mov (.t 1), (some (15, true))⟩,
      ⟨(some 18), .sidx (.t 16) (.t 17), (some (15, true))⟩,
      ⟨(some 19), .bin .lss false (.t 18) (.c (.int .u8 192)), (some (15, true))⟩,
      ⟨(some 20), .pick (.t 15) (.t 19) (.c (.bool false)), none⟩,
      ⟨(some 4), .mov (.t 20), none⟩] [4])
    .ret))
def rs31 : List RS := [.tmp 4]
/-- padlock/padlockref04.low -/
def rc32 : RC :=
  (.seq
   (.reg false [⟨(some 4), .mov (.c (.int .i64 0)), none⟩] [0, 1])
   (.seq
    (.reg false [⟨(some 5), .mov (.t 0), none⟩,
      ⟨(some 6), .mov (.t 1), none⟩,
      ⟨(some 7), .sidx (.t 5) (.t 6), none⟩,
      ⟨(some 8), .conv true .i64 (.t 7), none⟩,
      ⟨(some 9), .bin .sub true (.t 8) (.c (.int .i64 128)), none⟩,
      ⟨(some 4), .mov (.t 9), none⟩] [4])
    .ret))
def rs32 : List RS := [.tmp 4]
/-- padlock/padlockref04.Next -/
def rc22 : RC :=
  (.seq
   (.reg false [⟨(some 4), .mov (.c (.int .i64 0)), none⟩,
     ⟨(some 5), .mov (.c (.int .i64 0)), none⟩] [0, 1])
   (.seq
    (.reg false [⟨(some 10), .mov (.t 0), none⟩,
      ⟨(some 11), .mov (.t 1), none⟩,
      ⟨(some 12), .sidx (.t 10) (.t 11), none⟩,
      ⟨(some 13), .conv true .i64 (.t 12), none⟩,
      ⟨(some 6), .mov (.t 13), none⟩] [0, 1, 6])
    (.seq
     (.seq
      (.reg false [⟨(some 14), .mov (.t 6), none⟩,
        ⟨(some 15), .bin .lss true (.t 14) (.c (.int .i64 128)), none⟩] [0, 1, 6, 15])
      (.cond 15
       (.seq
        (.reg false [⟨(some 16), .mov (.t 6), none⟩,
          ⟨(some 4), .mov (.t 16), none⟩,
          ⟨(some 5), .mov (.c (.int .i64 1)), none⟩] [4, 5])
        .ret)
       (.reg false [] [0, 1, 6])))
     (.seq
      (.seq
       (.reg false [⟨(some 17), .mov (.t 6), none⟩,
         ⟨(some 18), .bin .geq true (.t 17) (.c (.int .i64 192)), none⟩,
         ⟨(some 19), .mov (.t 18), none⟩,
         ⟨(some 20), .mov (.t 6), (some (19, true))⟩,
         ⟨(some 21), .bin .lss true (.t 20) (.c (.int .i64 224)), (some (19, true))⟩,
         ⟨(some 22), .pick (.t 19) (.t 21) (.c (.bool false)), none⟩,
         ⟨(some 23), .mov (.t 22), none⟩,
         ⟨(some 24), .mov (.t 0), (some (23, true))⟩,
         ⟨(some 25), .mov (.t 1), (some (23, true))⟩,
         ⟨(some 26), .bin .add true (.t 25) (.c (.int .i64 1)), (some (23, true))⟩,
         ⟨(some 27), .call 31 [(false, (.t 24)), (false, (.t 26))], (some (23, true))⟩,
         ⟨(some 28), .pick (.t 23) (.t 27) (.c (.bool false)), none⟩] [0, 1, 6, 28])
       (.cond 28
        (.seq
         (.reg false [⟨(some 29), .mov (.t 6), none⟩,
           ⟨(some 30), .bin .sub true (.t 29) (.c (.int .i64 192)), none⟩,
           ⟨(some 31), .bin .mul true (.c (.int .i64 64)) (.t 30), none⟩,
           ⟨(some 32), .mov (.t 0), none⟩,
           ⟨(some 33), .mov (.t 1), none⟩,
           ⟨(some 34), .bin .add true (.t 33) (.c (.int .i64 1)), none⟩,
           ⟨(some 35), .call 32 [(false, (.t 32)), (false, (.t 34))], none⟩,
           ⟨(some 36), .bin .add true (.t 31) (.t 35), none⟩,
           ⟨(some 7), .mov (.t 36), none⟩] [0, 1, 6, 7])
         (.seq
          (.reg false [⟨(some 37), .mov (.t 7), none⟩,
            ⟨(some 38), .bin .geq true (.t 37) (.c (.int .i64 128)), none⟩] [0, 1, 6, 7, 38])
          (.cond 38
           (.seq
            (.reg false [⟨(some 39), .mov (.t 7), none⟩,
              ⟨(some 4), .mov (.t 39), none⟩,
              ⟨(some 5), .mov (.c (.int .i64 2)), none⟩] [4, 5])
            .ret)
           (.reg false [] [0, 1, 6]))))
        (.reg false [] [0, 1, 6])))
      (.seq
       (.seq
        (.reg false [⟨(some 40), .mov (.t 6), none⟩,
          ⟨(some 41), .bin .geq true (.t 40) (.c (.int .i64 224)), none⟩,
          ⟨(some 42), .mov (.t 41), none⟩,
          ⟨(some 43), .mov (.t 6), (some (42, true))⟩,
          ⟨(some 44), .bin .lss true (.t 43) (.c (.int .i64 240)), (some (42, true))⟩,
          ⟨(some 45), .pick (.t 42) (.t 44) (.c (.bool false)), none⟩,
          ⟨(some 46), .mov (.t 45), none⟩,
          ⟨(some 47), .mov (.t 0), (some (46, true))⟩,
          ⟨(some 48), .mov (.t 1), (some (46, true))⟩,
          ⟨(some 49), .bin .add true (.t 48) (.c (.int .i64 1)), (some (46, true))⟩,
          ⟨(some 50), .call 31 [(false, (.t 47)), (false, (.t 49))], (some (46, true))⟩,
          ⟨(some 51), .pick (.t 46) (.t 50) (.c (.bool false)), none⟩,
          ⟨(some 52), .mov (.t 51), none⟩,
          ⟨(some 53), .mov (.t 0), (some (52, true))⟩,
          ⟨(some 54), .mov (.t 1), (some (52, true))⟩,
          ⟨(some 55), .bin .add true (.t 54) (.c (.int .i64 2)), (some (52, true))⟩,
          ⟨(some 56), .call 31 [(false, (.t 53)), (false, (.t 55))], (some (52, true))⟩,
          ⟨(some 57), .pick (.t 52) (.t 56) (.c (.bool false)), none⟩] [0, 1, 6, 57])
        (.cond 57
         (.seq
          (.reg false [⟨(some 58), .mov (.t 6), none⟩,
            ⟨(some 59), .bin .sub true (.t 58) (.c (.int .i64 224)), none⟩,
            ⟨(some 60), .bin .mul true (.c (.int .i64 4096)) (.t 59), none⟩,
            ⟨(some 61), .mov (.t 0), none⟩,
            ⟨(some 62), .mov (.t 1), none⟩,
            ⟨(some 63), .bin .add true (.t 62) (.c (.int .i64 1)), none⟩,
            ⟨(some 64), .call 32 [(false, (.t 61)), (false, (.t 63))], none⟩,
            ⟨(some 65), .bin .mul true (.c (.int .i64 64)) (.t 64), none⟩,
            ⟨(some 66), .bin .add true (.t 60) (.t 65), none⟩,
            ⟨(some 67), .mov (.t 0), none⟩,
            ⟨(some 68), .mov (.t 1), none⟩,
            ⟨(some 69), .bin .add true (.t 68) (.c (.int .i64 2)), none⟩,
            ⟨(some 70), .call 32 [(false, (.t 67)), (false, (.t 69))], none⟩,
            ⟨(some 71), .bin .add true (.t 66) (.t 70), none⟩,
            ⟨(some 8), .mov (.t 71), none⟩] [0, 1, 6, 8])
          (.seq
           (.reg false [⟨(some 72), .mov (.t 8), none⟩,
             ⟨(some 73), .bin .geq true (.t 72) (.c (.int .i64 2048)), none⟩,
             ⟨(some 74), .mov (.t 73), none⟩,
             ⟨(some 75), .mov (.t 8), (some (74, true))⟩,
             ⟨(some 76), .bin .lss true (.t 75) (.c (.int .i64 55296)), (some (74, true))⟩,
             ⟨(some 77), .mov (.t 76), (some (74, true))⟩,
             ⟨(some 78), .mov (.t 8), (some (77, false))⟩,
             ⟨(some 79), .bin .gtr true (.t 78) (.c (.int .i64 57343)), (some (77, false))⟩,
             ⟨(some 80), .pick (.t 77) (.c (.bool true)) (.t 79), (some (74, true))⟩,
             ⟨(some 81), .pick (.t 74) (.t 80) (.c (.bool false)), none⟩] [0, 1, 6, 8, 81])
           (.cond 81
            (.seq
             (.reg false [⟨(some 82), .mov (.t 8), none⟩,
               ⟨(some 4), .mov (.t 82), none⟩,
               ⟨(some 5), .mov (.c (.int .i64 3)), none⟩] [4, 5])
             .ret)
            (.reg false [] [0, 1, 6]))))
         (.reg false [] [0, 1, 6])))
       (.seq
        (.seq
         (.reg false [⟨(some 83), .mov (.t 6), none⟩,
           ⟨(some 84), .bin .geq true (.t 83) (.c (.int .i64 240)), none⟩,
           ⟨(some 85), .mov (.t 84), none⟩,
           ⟨(some 86), .mov (.t 6), (some (85, true))⟩,
           ⟨(some 87), .bin .lss true (.t 86) (.c (.int .i64 248)), (some (85, true))⟩,
           ⟨(some 88), .pick (.t 85) (.t 87) (.c (.bool false)), none⟩,
           ⟨(some 89), .mov (.t 88), none⟩,
           ⟨(some 90), .mov (.t 0), (some (89, true))⟩,
           ⟨(some 91), .mov (.t 1), (some (89, true))⟩,
           ⟨(some 92), .bin .add true (.t 91) (.c (.int .i64 1)), (some (89, true))⟩,
           ⟨(some 93), .call 31 [(false, (.t 90)), (false, (.t 92))], (some (89, true))⟩,
           ⟨(some 94), .pick (.t 89) (.t 93) (.c (.bool false)), none⟩,
           ⟨(some 95), .mov (.t 94), none⟩,
           ⟨(some 96), .mov (.t 0), (some (95, true))⟩,
           ⟨(some 97), .mov (.t 1), (some (95, true))⟩,
           ⟨(some 98), .bin .add true (.t 97) (.c (.int .i64 2)), (some (95, true))⟩,
           ⟨(some 99), .call 31 [(false, (.t 96)), (false, (.t 98))], (some (95, true))⟩,
           ⟨(some 100), .pick (.t 95) (.t 99) (.c (.bool false)), none⟩,
           ⟨(some 101), .mov (.t 100), none⟩,
           ⟨(some 102), .mov (.t 0), (some (101, true))⟩,
           ⟨(some 103), .mov (.t 1), (some (101, true))⟩,
           ⟨(some 104), .bin .add true (.t 103) (.c (.int .i64 3)), (some (101, true))⟩,
           ⟨(some 105), .call 31 [(false, (.t 102)), (false, (.t 104))], (some (101, true))⟩,
           ⟨(some 106), .pick (.t 101) (.t 105) (.c (.bool false)), none⟩] [0, 1, 6, 106])
         (.cond 106
          (.seq
           (.reg false [⟨(some 107), .mov (.t 6), none⟩,
             ⟨(some 108), .bin .sub true (.t 107) (.c (.int .i64 240)), none⟩,
             ⟨(some 109), .bin .mul true (.c (.int .i64 262144)) (.t 108), none⟩,
             ⟨(some 110), .mov (.t 0), none⟩,
             ⟨(some 111), .mov (.t 1), none⟩,
             ⟨(some 112), .bin .add true (.t 111) (.c (.int .i64 1)), none⟩,
             ⟨(some 113), .call 32 [(false, (.t 110)), (false, (.t 112))], none⟩,
             ⟨(some 114), .bin .mul true (.c (.int .i64 4096)) (.t 113), none⟩,
             ⟨(some 115), .bin .add true (.t 109) (.t 114), none⟩,
             ⟨(some 116), .mov (.t 0), none⟩,
             ⟨(some 117), .mov (.t 1), none⟩,
             ⟨(some 118), .bin .add true (.t 117) (.c (.int .i64 2)), none⟩,
             ⟨(some 119), .call 32 [(false, (.t 116)), (false, (.t 118))], none⟩,
             ⟨(some 120), .bin .mul true (.c (.int .i64 64)) (.t 119), none⟩,
             ⟨(some 121), .bin .add true (.t 115) (.t 120), none⟩,
             ⟨(some 122), .mov (.t 0), none⟩,
             ⟨(some 123), .mov (.t 1), none⟩,
             ⟨(some 124), .bin .add true (.t 123) (.c (.int .i64 3)), none⟩,
             ⟨(some 125), .call 32 [(false, (.t 122)), (false, (.t 124))], none⟩,
             ⟨(some 126), .bin .add true (.t 121) (.t 125), none⟩,
             ⟨(some 9), .mov (.t 126), none⟩] [9])
           (.seq
            (.reg false [⟨(some 127), .mov (.t 9), none⟩,
              ⟨(some 128), .bin .geq true (.t 127) (.c (.int .i64 65536)), none⟩,
              ⟨(some 129), .mov (.t 128), none⟩,
              ⟨(some 130), .mov (.t 9), (some (129, true))⟩,
              ⟨(some 131), .bin .leq true (.t 130) (.c (.int .i64 1114111)), (some (129, true))⟩,
              ⟨(some 132), .pick (.t 129) (.t 131) (.c (.bool false)), none⟩] [9, 132])
            (.cond 132
             (.seq
              (.reg false [⟨(some 133), .mov (.t 9), none⟩,
                ⟨(some 4), .mov (.t 133), none⟩,
                ⟨(some 5), .mov (.c (.int .i64 4)), none⟩] [4, 5])
              .ret)
             (.reg false [] []))))
          (.reg false [] [])))
        (.seq
         (.reg false [⟨(some 4), .mov (.c (.int .i64 (-1))), none⟩,
           ⟨(some 5), .mov (.c (.int .i64 1)), none⟩] [4, 5])
         .ret)))))))
def rs22 : List RS := [.tmp 4, .tmp 5]
/-- unicode/utf8.word[string] -/
def rc34 : RC :=
  (.seq
   (.reg false [⟨(some 2), .mov (.c (.int .u64 0)), none⟩] [0])
   (.seq
    .skip
    (.seq
     (.reg true [⟨(some 21), .mov (.t 0), none⟩,
       ⟨(some 22), .sidx (.t 21) (.c (.int .i64 0)), none⟩,
       ⟨(some 23), .conv true .u64 (.t 22), none⟩,
       ⟨(some 24), .mov (.t 0), none⟩,
       ⟨(some 25), .sidx (.t 24) (.c (.int .i64 1)), none⟩,
       ⟨(some 26), .conv true .u64 (.t 25), none⟩,
       ⟨(some 27), .bin .shl false (.t 26) (.c (.int .u64 8)), none⟩,
       ⟨(some 28), .bin .or false (.t 23) (.t 27), none⟩,
       ⟨(some 29), .mov (.t 0), none⟩,
       ⟨(some 30), .sidx (.t 29) (.c (.int .i64 2)), none⟩,
       ⟨(some 31), .conv true .u64 (.t 30), none⟩,
       ⟨(some 32), .bin .shl false (.t 31) (.c (.int .u64 16)), none⟩,
       ⟨(some 33), .bin .or false (.t 28) (.t 32), none⟩,
       ⟨(some 34), .mov (.t 0), none⟩,
       ⟨(some 35), .sidx (.t 34) (.c (.int .i64 3)), none⟩,
       ⟨(some 36), .conv true .u64 (.t 35), none⟩,
       ⟨(some 37), .bin .shl false (.t 36) (.c (.int .u64 24)), none⟩,
       ⟨(some 38), .bin .or false (.t 33) (.t 37), none⟩,
       ⟨(some 39), .mov (.t 0), none⟩,
       ⟨(some 40), .sidx (.t 39) (.c (.int .i64 4)), none⟩,
       ⟨(some 41), .conv true .u64 (.t 40), none⟩,
       ⟨(some 42), .bin .shl false (.t 41) (.c (.int .u64 32)), none⟩,
       ⟨(some 43), .bin .or false (.t 38) (.t 42), none⟩,
       ⟨(some 44), .mov (.t 0), none⟩,
       ⟨(some 45), .sidx (.t 44) (.c (.int .i64 5)), none⟩,
       ⟨(some 46), .conv true .u64 (.t 45), none⟩,
       ⟨(some 47), .bin .shl false (.t 46) (.c (.int .u64 40)), none⟩,
       ⟨(some 48), .bin .or false (.t 43) (.t 47), none⟩,
       ⟨(some 49), .mov (.t 0), none⟩,
       ⟨(some 50), .sidx (.t 49) (.c (.int .i64 6)), none⟩,
       ⟨(some 51), .conv true .u64 (.t 50), none⟩,
       ⟨(some 52), .bin .shl false (.t 51) (.c (.int .u64 48)), none⟩,
       ⟨(some 53), .bin .or false (.t 48) (.t 52), none⟩,
       ⟨(some 54), .mov (.t 0), none⟩,
       ⟨(some 55), .sidx (.t 54) (.c (.int .i64 7)), none⟩,
       ⟨(some 56), .conv true .u64 (.t 55), none⟩,
       ⟨(some 57), .bin .shl false (.t 56) (.c (.int .u64 56)), none⟩,
       ⟨(some 58), .bin .or false (.t 53) (.t 57), none⟩,
       ⟨(some 2), .mov (.t 58), none⟩] [2])
     .ret)))
def rs34 : List RS := [.tmp 2]
/-- unicode/utf8.ValidString -/
def rc25 : RC :=
  (.seq
   (.reg false [⟨(some 2), .mov (.c (.bool false)), none⟩] [0])
   (.seq
    (.block 0
     (.loop
      (.seq
       (.seq
        (.reg false [⟨(some 7), .mov (.t 0), none⟩,
          ⟨(some 8), .len true (.t 7), none⟩,
          ⟨(some 9), .bin .gtr true (.t 8) (.c (.int .i64 0)), none⟩] [0, 9])
        (.cond 9
         (.reg false [] [0])
         (.seq
          (.reg false [] [])
          (.exit 0))))
       (.block 1
        (.seq
         (.reg false [⟨(some 10), .mov (.t 0), none⟩,
           ⟨(some 11), .sidx (.t 10) (.c (.int .i64 0)), none⟩,
           ⟨(some 3), .mov (.t 11), none⟩] [0, 3])
         (.seq
          (.seq
           (.reg false [⟨(some 12), .mov (.t 3), none⟩,
             ⟨(some 13), .bin .lss false (.t 12) (.c (.int .u8 128)), none⟩] [0, 3, 13])
           (.cond 13
            (.seq
             (.reg false [⟨(some 14), .mov (.t 0), none⟩,
               ⟨(some 15), .ssl (.t 14) (some (.c (.int .i64 1))) none, none⟩,
               ⟨(some 0), .mov (.t 15), none⟩] [0])
             (.seq
              (.seq
               (.reg false [⟨(some 16), .mov (.t 0), none⟩,
                 ⟨(some 17), .len true (.t 16), none⟩,
                 ⟨(some 18), .bin .gtr true (.t 17) (.c (.int .i64 8)), none⟩,
                 ⟨(some 19), .mov (.t 18), none⟩,
                 ⟨(some 20), .mov (.t 0), (some (19, true))⟩,
                 ⟨(some 21), .call 34 [(false, (.t 20))], (some (19, true))⟩,
                 ⟨(some 22), .bin .and false (.t 21) (.c (.int .u64 9259542123273814144)), (some (19, true))⟩,
                 ⟨(some 23), .bin .eql false (.t 22) (.c (.int .u64 0)), (some (19, true))⟩,
                 ⟨(some 24), .pick (.t 19) (.t 23) (.c (.bool false)), none⟩] [0, 24])
               (.cond 24
                (.seq
                 (.reg false [⟨(some 25), .mov (.t 0), none⟩,
                   ⟨(some 26), .ssl (.t 25) (some (.c (.int .i64 8))) none, none⟩,
                   ⟨(some 0), .mov (.t 26), none⟩] [0])
                 (.seq
                  (.reg true [⟨(some 27), .mov (.t 0), none⟩,
                    ⟨(some 28), .len true (.t 27), none⟩,
                    ⟨(some 29), .bin .gtr true (.t 28) (.c (.int .i64 16)), none⟩,
                    ⟨(some 30), .mov (.t 29), none⟩,
                    ⟨(some 31), .mov (.t 0), (some (30, true))⟩,
                    ⟨(some 32), .call 34 [(false, (.t 31))], (some (30, true))⟩,
                    ⟨(some 33), .mov (.t 0), (some (30, true))⟩,
                    ⟨(some 34), .ssl (.t 33) (some (.c (.int .i64 8))) none, (some (30, true))⟩,
                    ⟨(some 35), .call 34 [(false, (.t 34))], (some (30, true))⟩,
                    ⟨(some 36), .bin .or false (.t 32) (.t 35), (some (30, true))⟩,
                    ⟨(some 37), .bin .and false (.t 36) (.c (.int .u64 9259542123273814144)), (some (30, true))⟩,
                    ⟨(some 38), .bin .eql false (.t 37) (.c (.int .u64 0)), (some (30, true))⟩,
                    ⟨(some 39), .pick (.t 30) (.t 38) (.c (.bool false)), none⟩] [0, 39])
                  (.cond 39
                   (.seq
                    (.reg false [⟨(some 40), .mov (.t 0), none⟩,
                      ⟨(some 41), .ssl (.t 40) (some (.c (.int .i64 16))) none, none⟩,
                      ⟨(some 0), .mov (.t 41), none⟩] [0])
                    (.block 2
                     (.loop
                      (.seq
                       (.seq
                        (.reg true [⟨(some 42), .mov (.t 0), none⟩,
                          ⟨(some 43), .len true (.t 42), none⟩,
                          ⟨(some 44), .bin .gtr true (.t 43) (.c (.int .i64 32)), none⟩,
                          ⟨(some 45), .mov (.t 44), none⟩,
                          ⟨(some 46), .mov (.t 0), (some (45, true))⟩,
                          ⟨(some 47), .call 34 [(false, (.t 46))], (some (45, true))⟩,
                          ⟨(some 48), .mov (.t 0), (some (45, true))⟩,
                          ⟨(some 49), .ssl (.t 48) (some (.c (.int .i64 8))) none, (some (45, true))⟩,
                          ⟨(some 50), .call 34 [(false, (.t 49))], (some (45, true))⟩,
                          ⟨(some 51), .bin .or false (.t 47) (.t 50), (some (45, true))⟩,
                          ⟨(some 52), .mov (.t 0), (some (45, true))⟩,
                          ⟨(some 53), .ssl (.t 52) (some (.c (.int .i64 16))) none, (some (45, true))⟩,
                          ⟨(some 54), .call 34 [(false, (.t 53))], (some (45, true))⟩,
                          ⟨(some 55), .mov (.t 0), (some (45, true))⟩,
                          ⟨(some 56), .ssl (.t 55) (some (.c (.int .i64 24))) none, (some (45, true))⟩,
                          ⟨(some 57), .call 34 [(false, (.t 56))], (some (45, true))⟩,
                          ⟨(some 58), .bin .or false (.t 54) (.t 57), (some (45, true))⟩,
                          ⟨(some 59), .bin .or false (.t 51) (.t 58), (some (45, true))⟩,
                          ⟨(some 60), .bin .and false (.t 59) (.c (.int .u64 9259542123273814144)), (some (45, true))⟩,
                          ⟨(some 61), .bin .eql false (.t 60) (.c (.int .u64 0)), (some (45, true))⟩,
                          ⟨(some 62), .pick (.t 45) (.t 61) (.c (.bool false)), none⟩] [0, 62])
                        (.cond 62
                         (.reg false [] [0])
                         (.seq
                          (.reg false [] [0])
                          (.exit 2))))
                       (.block 3
                        (.reg false [⟨(some 63), .mov (.t 0), none⟩,
                          ⟨(some 64), .ssl (.t 63) (some (.c (.int .i64 32))) none, none⟩,
                          ⟨(some 0), .mov (.t 64), none⟩] [0]))))))
                   (.reg false [] [0]))))
                (.reg false [] [0])))
              (.exit 1)))
            (.reg false [] [0, 3])))
          (.seq
           (.reg false [⟨(some 65), .mov (.t 3), none⟩,
             ⟨(some 66), .idxG 0 1 256 gl0 (.t 65), none⟩,
             ⟨(some 67), .loadP (.t 66) 1 false, none⟩,
             ⟨(some 4), .mov (.t 67), none⟩] [0, 4])
           (.seq
            (.reg false [⟨(some 68), .mov (.t 4), none⟩,
              ⟨(some 69), .bin .and false (.t 68) (.c (.int .u8 7)), none⟩,
              ⟨(some 70), .conv true .i64 (.t 69), none⟩,
              ⟨(some 5), .mov (.t 70), none⟩] [0, 4, 5])
            (.seq
             (.reg false [⟨(some 71), .mov (.t 4), none⟩,
               ⟨(some 72), .bin .shr false (.t 71) (.c (.int .u64 4)), none⟩,
               ⟨(some 73), .idxG 1 2 16 gl1 (.t 72), none⟩,
               ⟨(some 74), .loadP (.t 73) 2 true, none⟩,
               ⟨(some 6), .alloc [(.int .u8 0), (.int .u8 0)], none⟩,
               ⟨none, .stB 6 2 (.t 74), none⟩] [0, 5, 6])
             (.seq
              (.reg false [⟨(some 75), .mov (.t 5), none⟩] [0, 6, 75])
              (.block 4
               (.seq
                (.reg false [⟨(some 77), .bin .eql true (.t 75) (.c (.int .i64 2)), none⟩,
                  ⟨(some 76), .mov (.t 77), none⟩] [0, 6, 75, 76])
                (.cond 76
                 (.seq
                  (.seq
                   (.reg true [⟨(some 78), .mov (.t 0), none⟩,
                     ⟨(some 79), .len true (.t 78), none⟩,
                     ⟨(some 80), .bin .lss true (.t 79) (.c (.int .i64 2)), none⟩,
                     ⟨(some 81), .mov (.t 80), none⟩,
                     ⟨(some 82), .mov (.t 0), (some (81, false))⟩,
                     ⟨(some 83), .sidx (.t 82) (.c (.int .i64 1)), (some (81, false))⟩,
                     ⟨(some 84), .fldB 6 0, (some (81, false))⟩,
                     ⟨(some 85), .loadR 84 6 1 false, (some (81, false))⟩,
                     ⟨(some 86), .bin .lss false (.t 83) (.t 85), (some (81, false))⟩,
                     ⟨(some 87), .pick (.t 81) (.c (.bool true)) (.t 86), none⟩,
                     ⟨(some 88), .mov (.t 87), none⟩,
                     ⟨(some 89), .fldB 6 1, (some (88, false))⟩,
                     ⟨(some 90), .loadR 89 6 1 false, (some (88, false))⟩,
                     ⟨(some 91), .mov (.t 0), (some (88, false))⟩,
                     ⟨(some 92), .sidx (.t 91) (.c (.int .i64 1)), (some (88, false))⟩,
                     ⟨(some 93), .bin .lss false (.t 90) (.t 92), (some (88, false))⟩,
                     ⟨(some 94), .pick (.t 88) (.c (.bool true)) (.t 93), none⟩] [0, 94])
                   (.cond 94
                    (.seq
                     (.reg false [⟨(some 2), .mov (.c (.bool false)), none⟩] [2])
                     .ret)
                    (.reg false [] [0])))
                  (.reg false [⟨(some 95), .mov (.t 0), none⟩,
                    ⟨(some 96), .ssl (.t 95) (some (.c (.int .i64 2))) none, none⟩,
                    ⟨(some 0), .mov (.t 96), none⟩] [0]))
                 (.seq
                  (.reg false [⟨(some 98), .bin .eql true (.t 75) (.c (.int .i64 3)), none⟩,
                    ⟨(some 97), .mov (.t 98), none⟩] [0, 6, 75, 97])
                  (.cond 97
                   (.seq
                    (.seq
                     (.reg true [⟨(some 99), .mov (.t 0), none⟩,
                       ⟨(some 100), .len true (.t 99), none⟩,
                       ⟨(some 101), .bin .lss true (.t 100) (.c (.int .i64 3)), none⟩,
                       ⟨(some 102), .mov (.t 101), none⟩,
                       ⟨(some 103), .mov (.t 0), (some (102, false))⟩,
                       ⟨(some 104), .sidx (.t 103) (.c (.int .i64 1)), (some (102, false))⟩,
                       ⟨(some 105), .fldB 6 0, (some (102, false))⟩,
                       ⟨(some 106), .loadR 105 6 1 false, (some (102, false))⟩,
                       ⟨(some 107), .bin .lss false (.t 104) (.t 106), (some (102, false))⟩,
                       ⟨(some 108), .pick (.t 102) (.c (.bool true)) (.t 107), none⟩,
                       ⟨(some 109), .mov (.t 108), none⟩,
                       ⟨(some 110), .fldB 6 1, (some (109, false))⟩,
                       ⟨(some 111), .loadR 110 6 1 false, (some (109, false))⟩,
                       ⟨(some 112), .mov (.t 0), (some (109, false))⟩,
                       ⟨(some 113), .sidx (.t 112) (.c (.int .i64 1)), (some (109, false))⟩,
                       ⟨(some 114), .bin .lss false (.t 111) (.t 113), (some (109, false))⟩,
                       ⟨(some 115), .pick (.t 109) (.c (.bool true)) (.t 114), none⟩,
                       ⟨(some 116), .mov (.t 115), none⟩,
                       ⟨(some 117), .mov (.t 0), (some (116, false))⟩,
                       ⟨(some 118), .sidx (.t 117) (.c (.int .i64 2)), (some (116, false))⟩,
                       ⟨(some 119), .bin .lss false (.t 118) (.c (.int .u8 128)), (some (116, false))⟩,
                       ⟨(some 120), .pick (.t 116) (.c (.bool true)) (.t 119), none⟩,
                       ⟨(some 121), .mov (.t 120), none⟩,
                       ⟨(some 122), .mov (.t 0), (some (121, false))⟩,
                       ⟨(some 123), .sidx (.t 122) (.c (.int .i64 2)), (some (121, false))⟩,
                       ⟨(some 124), .bin .lss false (.c (.int .u8 191)) (.t 123), (some (121, false))⟩,
                       ⟨(some 125), .pick (.t 121) (.c (.bool true)) (.t 124), none⟩] [0, 125])
                     (.cond 125
                      (.seq
                       (.reg false [⟨(some 2), .mov (.c (.bool false)), none⟩] [2])
                       .ret)
                      (.reg false [] [0])))
                    (.reg false [⟨(some 126), .mov (.t 0), none⟩,
                      ⟨(some 127), .ssl (.t 126) (some (.c (.int .i64 3))) none, none⟩,
                      ⟨(some 0), .mov (.t 127), none⟩] [0]))
                   (.seq
                    (.reg false [⟨(some 129), .bin .eql true (.t 75) (.c (.int .i64 4)), none⟩,
                      ⟨(some 128), .mov (.t 129), none⟩] [0, 6, 128])
                    (.cond 128
                     (.seq
                      (.seq
                       (.reg true [⟨(some 130), .mov (.t 0), none⟩,
                         ⟨(some 131), .len true (.t 130), none⟩,
                         ⟨(some 132), .bin .lss true (.t 131) (.c (.int .i64 4)), none⟩,
                         ⟨(some 133), .mov (.t 132), none⟩,
                         ⟨(some 134), .mov (.t 0), (some (133, false))⟩,
                         ⟨(some 135), .sidx (.t 134) (.c (.int .i64 1)), (some (133, false))⟩,
                         ⟨(some 136), .fldB 6 0, (some (133, false))⟩,
                         ⟨(some 137), .loadR 136 6 1 false, (some (133, false))⟩,
                         ⟨(some 138), .bin .lss false (.t 135) (.t 137), (some (133, false))⟩,
                         ⟨(some 139), .pick (.t 133) (.c (.bool true)) (.t 138), none⟩,
                         ⟨(some 140), .mov (.t 139), none⟩,
                         ⟨(some 141), .fldB 6 1, (some (140, false))⟩,
                         ⟨(some 142), .loadR 141 6 1 false, (some (140, false))⟩,
                         ⟨(some 143), .mov (.t 0), (some (140, false))⟩,
                         ⟨(some 144), .sidx (.t 143) (.c (.int .i64 1)), (some (140, false))⟩,
                         ⟨(some 145), .bin .lss false (.t 142) (.t 144), (some (140, false))⟩,
                         ⟨(some 146), .pick (.t 140) (.c (.bool true)) (.t 145), none⟩,
                         ⟨(some 147), .mov (.t 146), none⟩,
                         ⟨(some 148), .mov (.t 0), (some (147, false))⟩,
                         ⟨(some 149), .sidx (.t 148) (.c (.int .i64 2)), (some (147, false))⟩,
                         ⟨(some 150), .bin .lss false (.t 149) (.c (.int .u8 128)), (some (147, false))⟩,
                         ⟨(some 151), .pick (.t 147) (.c (.bool true)) (.t 150), none⟩,
                         ⟨(some 152), .mov (.t 151), none⟩,
                         ⟨(some 153), .mov (.t 0), (some (152, false))⟩,
                         ⟨(some 154), .sidx (.t 153) (.c (.int .i64 2)), (some (152, false))⟩,
                         ⟨(some 155), .bin .lss false (.c (.int .u8 191)) (.t 154), (some (152, false))⟩,
                         ⟨(some 156), .pick (.t 152) (.c (.bool true)) (.t 155), none⟩,
                         ⟨(some 157), .mov (.t 156), none⟩,
                         ⟨(some 158), .mov (.t 0), (some (157, false))⟩,
                         ⟨(some 159), .sidx (.t 158) (.c (.int .i64 3)), (some (157, false))⟩,
                         ⟨(some 160), .bin .lss false (.t 159) (.c (.int .u8 128)), (some (157, false))⟩,
                         ⟨(some 161), .pick (.t 157) (.c (.bool true)) (.t 160), none⟩,
                         ⟨(some 162), .mov (.t 161), none⟩,
                         ⟨(some 163), .mov (.t 0), (some (162, false))⟩,
                         ⟨(some 164), .sidx (.t 163) (.c (.int .i64 3)), (some (162, false))⟩,
                         ⟨(some 165), .bin .lss false (.c (.int .u8 191)) (.t 164), (some (162, false))⟩,
                         ⟨(some 166), .pick (.t 162) (.c (.bool true)) (.t 165), none⟩] [0, 166])
                       (.cond 166
                        (.seq
                         (.reg false [⟨(some 2), .mov (.c (.bool false)), none⟩] [2])
                         .ret)
                        (.reg false [] [0])))
                      (.reg false [⟨(some 167), .mov (.t 0), none⟩,
                        ⟨(some 168), .ssl (.t 167) (some (.c (.int .i64 4))) none, none⟩,
                        ⟨(some 0), .mov (.t 168), none⟩] [0]))
                     (.seq
                      (.reg false [⟨(some 2), .mov (.c (.bool false)), none⟩] [2])
                      .ret))))))))))))))))))
    (.seq
     (.reg false [⟨(some 2), .mov (.c (.bool true)), none⟩] [2])
     .ret)))
def rs25 : List RS := [.tmp 2]
theorem pf8 (c : Int)  : PFx Tryd.prog 8 [.int .i32 c] (.bool (okc c)) := by
  refine PFx_of_W (rc := rc8) (rs := rs8) Tryd.func8 rfl T16_ok hm (by kernel_rfl) (by kernel_rfl) (by simp [Tryd.ntmps8]) ?_
  by_cases h1 : 97 ≤ c <;> by_cases h2 : c ≤ 122 <;> by_cases h3 : 65 ≤ c <;> by_cases h4 : c ≤ 90 <;> by_cases h5 : 48 ≤ c <;> by_cases h6 : c ≤ 57 <;> by_cases h7 : 192 ≤ c <;> first
    | (exfalso; omega)
    | (by_cases h8 : c = 45
       · subst h8; simp [rc8, rs8, okc]
       · by_cases h9 : c = 46
         · subst h9; simp [rc8, rs8, okc]
         · by_cases h10 : c = 95
           · subst h10; simp [rc8, rs8, okc]
           · simp [rc8, rs8, okc, h1, h2, h3, h4, h5, h6, h7, h8, h9, h10])
noncomputable def T8 : Tab := tabAdd T16 8 (fun _ : Int => True) (fun z => [.int .i32 z]) (fun z => .bool (okc z))
@[simp] theorem T8_eq (c : Int)  : T8 8 [.int .i32 c] = some (.bool (okc c)) := tabAdd_eq (a := c) (by simp +contextual [Int.natCast_inj]) trivial rfl
@[simp] theorem T8_ne {g : Nat} {xs : List AV} (h : g ≠ 8) : T8 g xs = T16 g xs := tabAdd_ne h
theorem T8_ok : Sound Tryd.prog T8 := tabAdd_sound T16_ok fun z _ => pf8 z 
theorem pf9 (c : Int)  : PFx Tryd.prog 9 [.int .i64 c] (.bool (okc c)) := by
  refine PFx_of_W (rc := rc9) (rs := rs9) Tryd.func9 rfl T8_ok hm (by kernel_rfl) (by kernel_rfl) (by simp [Tryd.ntmps9]) ?_
  by_cases h1 : 97 ≤ c <;> by_cases h2 : c ≤ 122 <;> by_cases h3 : 65 ≤ c <;> by_cases h4 : c ≤ 90 <;> by_cases h5 : 48 ≤ c <;> by_cases h6 : c ≤ 57 <;> by_cases h7 : 192 ≤ c <;> first
    | (exfalso; omega)
    | (by_cases h8 : c = 45
       · subst h8; simp [rc9, rs9, okc]
       · by_cases h9 : c = 46
         · subst h9; simp [rc9, rs9, okc]
         · by_cases h10 : c = 95
           · subst h10; simp [rc9, rs9, okc]
           · simp [rc9, rs9, okc, h1, h2, h3, h4, h5, h6, h7, h8, h9, h10])
noncomputable def T9 : Tab := tabAdd T8 9 (fun _ : Int => True) (fun z => [.int .i64 z]) (fun z => .bool (okc z))
@[simp] theorem T9_eq (c : Int)  : T9 9 [.int .i64 c] = some (.bool (okc c)) := tabAdd_eq (a := c) (by simp +contextual [Int.natCast_inj]) trivial rfl
@[simp] theorem T9_ne {g : Nat} {xs : List AV} (h : g ≠ 9) : T9 g xs = T8 g xs := tabAdd_ne h
theorem T9_ok : Sound Tryd.prog T9 := tabAdd_sound T8_ok fun z _ => pf9 z 
end Go.Proofs.YtbinejcnoogoiaaDoor

