/- What every right program tells; the laws of under. -/
import Derived.Test.YtnhelmnenhphjaaU3
set_option linter.unusedVariables false
set_option linter.unusedSimpArgs false
namespace Go.Proofs.Ytnhelmnenhphjaa
open Go.Proofs.Ytnhelmnenhphjaa.Pad Go.Proofs.Ytnhelmnenhphjaa.Pad.Under Go.Sort
/-- padlock/padlocklaw05.awake -/
def rc8 : RC :=
  (.seq
   (.reg false [⟨(some 0), .mov (.c (.bool false)), none⟩] [])
   (.seq
    (.reg false [⟨(some 5), .call 9 [(false, (.c (.str [97, 47, 98, 47, 99]))), (false, (.c (.str [97])))], none⟩,
      ⟨(some 4), .mov (.t 5), none⟩,
      ⟨(some 6), .ext (.t 4) 0, none⟩,
      ⟨(some 7), .ext (.t 4) 1, none⟩,
      ⟨(some 1), .mov (.t 6), none⟩,
      ⟨(some 2), .mov (.t 7), none⟩] [1, 2])
    (.seq
     (.reg false [⟨(some 8), .mkSl 1 4 [(.str []), (.str []), (.str []), (.str [])] [(0, 1, (.c (.str [97, 47, 100]))), (1, 1, (.c (.str [97, 47, 98, 47, 99]))), (2, 1, (.c (.str [97, 98]))), (3, 1, (.c (.str [97, 47, 98, 47, 101])))], none⟩,
       ⟨(some 9), .call 21 [(false, (.c (.str [97]))), (false, (.t 8))], none⟩,
       ⟨(some 3), .steal 9, none⟩] [1, 2, 3])
     (.seq
      (.reg false [⟨(some 10), .call 13 [(false, (.c (.str [97, 47, 98]))), (false, (.c (.str [97])))], none⟩,
        ⟨(some 11), .mov (.t 10), none⟩,
        ⟨(some 12), .call 13 [(false, (.c (.str [97]))), (false, (.c (.str [97])))], (some (11, true))⟩,
        ⟨(some 13), .un .not (.t 12), (some (11, true))⟩,
        ⟨(some 14), .pick (.t 11) (.t 13) (.c (.bool false)), none⟩,
        ⟨(some 15), .mov (.t 14), none⟩,
        ⟨(some 16), .call 11 [(false, (.c (.str [97]))), (false, (.c (.str [97])))], (some (15, true))⟩,
        ⟨(some 17), .pick (.t 15) (.t 16) (.c (.bool false)), none⟩,
        ⟨(some 18), .mov (.t 17), none⟩,
        ⟨(some 19), .call 11 [(false, (.c (.str [97, 98]))), (false, (.c (.str [97])))], (some (18, true))⟩,
        ⟨(some 20), .un .not (.t 19), (some (18, true))⟩,
        ⟨(some 21), .pick (.t 18) (.t 20) (.c (.bool false)), none⟩,
        ⟨(some 22), .mov (.t 21), none⟩,
        ⟨(some 23), .mov (.t 1), (some (22, true))⟩,
        ⟨(some 24), .bin .eql false (.t 23) (.c (.str [98, 47])), (some (22, true))⟩,
        ⟨(some 25), .pick (.t 22) (.t 24) (.c (.bool false)), none⟩,
        ⟨(some 26), .mov (.t 25), none⟩,
        ⟨(some 27), .mov (.t 2), (some (26, true))⟩,
        ⟨(some 28), .pick (.t 26) (.t 27) (.c (.bool false)), none⟩,
        ⟨(some 29), .mov (.t 28), none⟩,
        ⟨(some 30), .mov (.t 3), (some (29, true))⟩,
        ⟨(some 31), .mkSl 1 2 [(.str []), (.str [])] [(0, 1, (.c (.str [98, 47]))), (1, 1, (.c (.str [100])))], (some (29, true))⟩,
        ⟨(some 32), .call 20 [(false, (.t 30)), (false, (.t 31))], (some (29, true))⟩,
        ⟨(some 33), .pick (.t 29) (.t 32) (.c (.bool false)), none⟩,
        ⟨(some 34), .mov (.t 33), none⟩,
        ⟨(some 35), .call 15 [(false, (.c (.str [97, 47, 98, 47, 99])))], (some (34, true))⟩,
        ⟨(some 36), .bin .eql false (.t 35) (.c (.str [97, 47, 98])), (some (34, true))⟩,
        ⟨(some 37), .pick (.t 34) (.t 36) (.c (.bool false)), none⟩,
        ⟨(some 38), .mov (.t 37), none⟩,
        ⟨(some 39), .call 17 [(false, (.c (.str [97, 47, 98, 47, 99]))), (false, (.c (.str [97, 47, 98, 99])))], (some (38, true))⟩,
        ⟨(some 40), .bin .eql false (.t 39) (.c (.str [97])), (some (38, true))⟩,
        ⟨(some 41), .pick (.t 38) (.t 40) (.c (.bool false)), none⟩,
        ⟨(some 42), .mov (.t 41), none⟩,
        ⟨(some 43), .mkSl 1 3 [(.str []), (.str []), (.str [])] [(0, 1, (.c (.str []))), (1, 1, (.c (.str [97]))), (2, 1, (.c (.str [98])))], (some (42, true))⟩,
        ⟨(some 44), .call 23 [(false, (.c (.str [97, 47, 98]))), (false, (.t 43))], (some (42, true))⟩,
        ⟨(some 45), .bin .eql true (.t 44) (.c (.int .i64 1)), (some (42, true))⟩,
        ⟨(some 46), .pick (.t 42) (.t 45) (.c (.bool false)), none⟩,
        ⟨(some 47), .mov (.t 46), none⟩,
        ⟨(some 48), .mkSl 1 1 [(.str [])] [(0, 1, (.c (.str [97])))], (some (47, true))⟩,
        ⟨(some 49), .call 25 [(false, (.c (.str [97, 47, 98]))), (false, (.t 48))], (some (47, true))⟩,
        ⟨(some 50), .pick (.t 47) (.t 49) (.c (.bool false)), none⟩,
        ⟨(some 51), .mov (.t 50), none⟩,
        ⟨(some 52), .mkSl 1 1 [(.str [])] [(0, 1, (.c (.str [97])))], (some (51, true))⟩,
        ⟨(some 53), .call 25 [(false, (.c (.str [97, 98]))), (false, (.t 52))], (some (51, true))⟩,
        ⟨(some 54), .un .not (.t 53), (some (51, true))⟩,
        ⟨(some 55), .pick (.t 51) (.t 54) (.c (.bool false)), none⟩,
        ⟨(some 0), .mov (.t 55), none⟩] [0])
      .ret))))
def rs8 : List RS := [.tmp 0]
/-- padlock/padlocklaw05.UnderTells -/
def rc3 : RC :=
  (.seq
   (.reg false [⟨(some 4), .mov (.c (.bool false)), none⟩] [0, 1])
   (.seq
    (.seq
     (.reg false [⟨(some 9), .mov (.t 0), none⟩,
       ⟨(some 10), .len true (.t 9), none⟩,
       ⟨(some 11), .bin .gtr true (.t 10) (.c (.int .i64 200)), none⟩,
       ⟨(some 12), .mov (.t 11), none⟩,
       ⟨(some 13), .mov (.t 1), (some (12, false))⟩,
       ⟨(some 14), .len true (.t 13), (some (12, false))⟩,
       ⟨(some 15), .bin .gtr true (.t 14) (.c (.int .i64 200)), (some (12, false))⟩,
       ⟨(some 16), .pick (.t 12) (.c (.bool true)) (.t 15), none⟩] [0, 1, 16])
     (.cond 16
      (.seq
       (.reg false [⟨(some 17), .call 8 [], none⟩,
         ⟨(some 4), .mov (.t 17), none⟩] [4])
       .ret)
      (.reg false [] [0, 1])))
    (.seq
     (.reg false [⟨(some 19), .mov (.t 0), none⟩,
       ⟨(some 20), .mov (.t 1), none⟩,
       ⟨(some 21), .call 9 [(false, (.t 19)), (false, (.t 20))], none⟩,
       ⟨(some 18), .mov (.t 21), none⟩,
       ⟨(some 22), .ext (.t 18) 0, none⟩,
       ⟨(some 23), .ext (.t 18) 1, none⟩,
       ⟨(some 5), .mov (.t 22), none⟩,
       ⟨(some 6), .mov (.t 23), none⟩] [0, 1, 5, 6])
     (.seq
      (.reg false [⟨(some 25), .mov (.t 0), none⟩,
        ⟨(some 26), .mov (.t 1), none⟩,
        ⟨(some 27), .call 10 [(false, (.t 25)), (false, (.t 26))], none⟩,
        ⟨(some 24), .mov (.t 27), none⟩,
        ⟨(some 28), .ext (.t 24) 0, none⟩,
        ⟨(some 29), .ext (.t 24) 1, none⟩,
        ⟨(some 7), .mov (.t 28), none⟩,
        ⟨(some 8), .mov (.t 29), none⟩] [0, 1, 5, 6, 7, 8])
      (.seq
       (.reg false [⟨(some 30), .mov (.t 0), none⟩,
         ⟨(some 31), .mov (.t 1), none⟩,
         ⟨(some 32), .call 11 [(false, (.t 30)), (false, (.t 31))], none⟩,
         ⟨(some 33), .mov (.t 0), none⟩,
         ⟨(some 34), .mov (.t 1), none⟩,
         ⟨(some 35), .call 12 [(false, (.t 33)), (false, (.t 34))], none⟩,
         ⟨(some 36), .beq false none (.t 32) (.t 35), none⟩,
         ⟨(some 37), .mov (.t 36), none⟩,
         ⟨(some 38), .mov (.t 0), (some (37, true))⟩,
         ⟨(some 39), .mov (.t 1), (some (37, true))⟩,
         ⟨(some 40), .call 13 [(false, (.t 38)), (false, (.t 39))], (some (37, true))⟩,
         ⟨(some 41), .mov (.t 0), (some (37, true))⟩,
         ⟨(some 42), .mov (.t 1), (some (37, true))⟩,
         ⟨(some 43), .call 14 [(false, (.t 41)), (false, (.t 42))], (some (37, true))⟩,
         ⟨(some 44), .beq false none (.t 40) (.t 43), (some (37, true))⟩,
         ⟨(some 45), .pick (.t 37) (.t 44) (.c (.bool false)), none⟩,
         ⟨(some 46), .mov (.t 45), none⟩,
         ⟨(some 47), .mov (.t 5), (some (46, true))⟩,
         ⟨(some 48), .mov (.t 7), (some (46, true))⟩,
         ⟨(some 49), .bin .eql false (.t 47) (.t 48), (some (46, true))⟩,
         ⟨(some 50), .pick (.t 46) (.t 49) (.c (.bool false)), none⟩,
         ⟨(some 51), .mov (.t 50), none⟩,
         ⟨(some 52), .mov (.t 6), (some (51, true))⟩,
         ⟨(some 53), .mov (.t 8), (some (51, true))⟩,
         ⟨(some 54), .beq false none (.t 52) (.t 53), (some (51, true))⟩,
         ⟨(some 55), .pick (.t 51) (.t 54) (.c (.bool false)), none⟩,
         ⟨(some 56), .mov (.t 55), none⟩,
         ⟨(some 57), .mov (.t 0), (some (56, true))⟩,
         ⟨(some 58), .call 15 [(false, (.t 57))], (some (56, true))⟩,
         ⟨(some 59), .mov (.t 0), (some (56, true))⟩,
         ⟨(some 60), .call 16 [(false, (.t 59))], (some (56, true))⟩,
         ⟨(some 61), .bin .eql false (.t 58) (.t 60), (some (56, true))⟩,
         ⟨(some 62), .pick (.t 56) (.t 61) (.c (.bool false)), none⟩,
         ⟨(some 63), .mov (.t 62), none⟩,
         ⟨(some 64), .mov (.t 0), (some (63, true))⟩,
         ⟨(some 65), .mov (.t 1), (some (63, true))⟩,
         ⟨(some 66), .call 17 [(false, (.t 64)), (false, (.t 65))], (some (63, true))⟩,
         ⟨(some 67), .mov (.t 0), (some (63, true))⟩,
         ⟨(some 68), .mov (.t 1), (some (63, true))⟩,
         ⟨(some 69), .call 18 [(false, (.t 67)), (false, (.t 68))], (some (63, true))⟩,
         ⟨(some 70), .bin .eql false (.t 66) (.t 69), (some (63, true))⟩,
         ⟨(some 71), .pick (.t 63) (.t 70) (.c (.bool false)), none⟩,
         ⟨(some 72), .mov (.t 71), none⟩,
         ⟨(some 73), .call 8 [], (some (72, true))⟩,
         ⟨(some 74), .pick (.t 72) (.t 73) (.c (.bool false)), none⟩,
         ⟨(some 4), .mov (.t 74), none⟩] [4])
       .ret)))))
def rs3 : List RS := [.tmp 4]
/-- padlock/padlocklaw05.UnderLists -/
def rc4 : RC :=
  (.seq
   (.reg false [⟨(some 4), .mov (.c (.bool false)), none⟩] [0, 1])
   (.seq
    (.seq
     (.reg false [⟨(some 5), .mov (.t 0), none⟩,
       ⟨(some 6), .len true (.t 5), none⟩,
       ⟨(some 7), .bin .gtr true (.t 6) (.c (.int .i64 200)), none⟩,
       ⟨(some 8), .mov (.t 7), none⟩,
       ⟨(some 9), .mov (.t 1), (some (8, false))⟩,
       ⟨(some 10), .call 19 [(false, (.t 9))], (some (8, false))⟩,
       ⟨(some 11), .bin .gtr true (.t 10) (.c (.int .i64 0)), (some (8, false))⟩,
       ⟨(some 12), .pick (.t 8) (.c (.bool true)) (.t 11), none⟩] [0, 1, 12])
     (.cond 12
      (.seq
       (.reg false [⟨(some 13), .call 8 [], none⟩,
         ⟨(some 4), .mov (.t 13), none⟩] [4])
       .ret)
      (.reg false [] [0, 1])))
    (.seq
     (.reg false [⟨(some 14), .mov (.t 0), none⟩,
       ⟨(some 15), .mov (.t 1), none⟩,
       ⟨(some 16), .call 21 [(false, (.t 14)), (false, (.t 15))], none⟩,
       ⟨(some 17), .mov (.t 0), none⟩,
       ⟨(some 18), .mov (.t 1), none⟩,
       ⟨(some 19), .call 22 [(false, (.t 17)), (false, (.t 18))], none⟩,
       ⟨(some 20), .call 20 [(false, (.t 16)), (false, (.t 19))], none⟩,
       ⟨(some 21), .mov (.t 20), none⟩,
       ⟨(some 22), .mov (.t 0), (some (21, true))⟩,
       ⟨(some 23), .mov (.t 1), (some (21, true))⟩,
       ⟨(some 24), .call 23 [(false, (.t 22)), (false, (.t 23))], (some (21, true))⟩,
       ⟨(some 25), .mov (.t 0), (some (21, true))⟩,
       ⟨(some 26), .mov (.t 1), (some (21, true))⟩,
       ⟨(some 27), .call 24 [(false, (.t 25)), (false, (.t 26))], (some (21, true))⟩,
       ⟨(some 28), .bin .eql true (.t 24) (.t 27), (some (21, true))⟩,
       ⟨(some 29), .pick (.t 21) (.t 28) (.c (.bool false)), none⟩,
       ⟨(some 30), .mov (.t 29), none⟩,
       ⟨(some 31), .mov (.t 0), (some (30, true))⟩,
       ⟨(some 32), .mov (.t 1), (some (30, true))⟩,
       ⟨(some 33), .call 25 [(false, (.t 31)), (false, (.t 32))], (some (30, true))⟩,
       ⟨(some 34), .mov (.t 0), (some (30, true))⟩,
       ⟨(some 35), .mov (.t 1), (some (30, true))⟩,
       ⟨(some 36), .call 26 [(false, (.t 34)), (false, (.t 35))], (some (30, true))⟩,
       ⟨(some 37), .beq false none (.t 33) (.t 36), (some (30, true))⟩,
       ⟨(some 38), .pick (.t 30) (.t 37) (.c (.bool false)), none⟩,
       ⟨(some 39), .mov (.t 38), none⟩,
       ⟨(some 40), .call 8 [], (some (39, true))⟩,
       ⟨(some 41), .pick (.t 39) (.t 40) (.c (.bool false)), none⟩,
       ⟨(some 4), .mov (.t 41), none⟩] [4])
     .ret)))
def rs4 : List RS := [.tmp 4]
/-- padlock/padlocklaw05.UnderOrder -/
def rc5 : RC :=
  (.seq
   (.reg false [⟨(some 1), .box (.t 0), none⟩,
     ⟨(some 2), .mov (.c (.bool false)), none⟩] [1])
   (.seq
    (.seq
     (.reg false [⟨(some 6), .idxB 1 1 3 (.c (.int .i64 0)), none⟩,
       ⟨(some 7), .loadR 6 1 1 false, none⟩,
       ⟨(some 8), .len true (.t 7), none⟩,
       ⟨(some 9), .bin .gtr true (.t 8) (.c (.int .i64 200)), none⟩,
       ⟨(some 10), .mov (.t 9), none⟩,
       ⟨(some 11), .idxB 1 1 3 (.c (.int .i64 1)), (some (10, false))⟩,
       ⟨(some 12), .loadR 11 1 1 false, (some (10, false))⟩,
       ⟨(some 13), .len true (.t 12), (some (10, false))⟩,
       ⟨(some 14), .bin .gtr true (.t 13) (.c (.int .i64 200)), (some (10, false))⟩,
       ⟨(some 15), .pick (.t 10) (.c (.bool true)) (.t 14), none⟩,
       ⟨(some 16), .mov (.t 15), none⟩,
       ⟨(some 17), .idxB 1 1 3 (.c (.int .i64 2)), (some (16, false))⟩,
       ⟨(some 18), .loadR 17 1 1 false, (some (16, false))⟩,
       ⟨(some 19), .len true (.t 18), (some (16, false))⟩,
       ⟨(some 20), .bin .gtr true (.t 19) (.c (.int .i64 200)), (some (16, false))⟩,
       ⟨(some 21), .pick (.t 16) (.c (.bool true)) (.t 20), none⟩] [1, 21])
     (.cond 21
      (.seq
       (.reg false [⟨(some 22), .call 8 [], none⟩,
         ⟨(some 2), .mov (.t 22), none⟩] [2])
       .ret)
      (.reg false [] [1])))
    (.seq
     (.reg true [⟨(some 23), .idxB 1 1 3 (.c (.int .i64 0)), none⟩,
       ⟨(some 24), .loadR 23 1 1 false, none⟩,
       ⟨(some 25), .idxB 1 1 3 (.c (.int .i64 1)), none⟩,
       ⟨(some 26), .loadR 25 1 1 false, none⟩,
       ⟨(some 27), .idxB 1 1 3 (.c (.int .i64 2)), none⟩,
       ⟨(some 28), .loadR 27 1 1 false, none⟩,
       ⟨(some 3), .mov (.t 24), none⟩,
       ⟨(some 4), .mov (.t 26), none⟩,
       ⟨(some 5), .mov (.t 28), none⟩] [3, 4, 5])
     (.seq
      (.seq
       (.reg false [⟨(some 29), .mov (.t 3), none⟩,
         ⟨(some 30), .mov (.t 3), none⟩,
         ⟨(some 31), .call 11 [(false, (.t 29)), (false, (.t 30))], none⟩,
         ⟨(some 32), .un .not (.t 31), none⟩,
         ⟨(some 33), .mov (.t 32), none⟩,
         ⟨(some 34), .mov (.t 3), (some (33, false))⟩,
         ⟨(some 35), .call 11 [(false, (.t 34)), (false, (.c (.str [])))], (some (33, false))⟩,
         ⟨(some 36), .un .not (.t 35), (some (33, false))⟩,
         ⟨(some 37), .pick (.t 33) (.c (.bool true)) (.t 36), none⟩,
         ⟨(some 38), .mov (.t 37), none⟩,
         ⟨(some 39), .mov (.t 3), (some (38, false))⟩,
         ⟨(some 40), .mov (.t 3), (some (38, false))⟩,
         ⟨(some 41), .call 13 [(false, (.t 39)), (false, (.t 40))], (some (38, false))⟩,
         ⟨(some 42), .pick (.t 38) (.c (.bool true)) (.t 41), none⟩] [3, 4, 5, 42])
       (.cond 42
        (.seq
         (.reg false [⟨(some 2), .mov (.c (.bool false)), none⟩] [2])
         .ret)
        (.reg false [] [3, 4, 5])))
      (.seq
       (.seq
        (.reg false [⟨(some 43), .mov (.t 3), none⟩,
          ⟨(some 44), .mov (.t 4), none⟩,
          ⟨(some 45), .call 11 [(false, (.t 43)), (false, (.t 44))], none⟩,
          ⟨(some 46), .mov (.t 45), none⟩,
          ⟨(some 47), .mov (.t 4), (some (46, true))⟩,
          ⟨(some 48), .mov (.t 3), (some (46, true))⟩,
          ⟨(some 49), .call 11 [(false, (.t 47)), (false, (.t 48))], (some (46, true))⟩,
          ⟨(some 50), .pick (.t 46) (.t 49) (.c (.bool false)), none⟩,
          ⟨(some 51), .mov (.t 50), none⟩,
          ⟨(some 52), .mov (.t 3), (some (51, true))⟩,
          ⟨(some 53), .mov (.t 4), (some (51, true))⟩,
          ⟨(some 54), .bin .neq false (.t 52) (.t 53), (some (51, true))⟩,
          ⟨(some 55), .pick (.t 51) (.t 54) (.c (.bool false)), none⟩,
          ⟨(some 56), .mov (.t 55), none⟩,
          ⟨(some 57), .mov (.t 3), (some (56, false))⟩,
          ⟨(some 58), .mov (.t 4), (some (56, false))⟩,
          ⟨(some 59), .call 11 [(false, (.t 57)), (false, (.t 58))], (some (56, false))⟩,
          ⟨(some 60), .mov (.t 59), (some (56, false))⟩,
          ⟨(some 61), .mov (.t 4), (some (60, true))⟩,
          ⟨(some 62), .mov (.t 5), (some (60, true))⟩,
          ⟨(some 63), .call 11 [(false, (.t 61)), (false, (.t 62))], (some (60, true))⟩,
          ⟨(some 64), .pick (.t 60) (.t 63) (.c (.bool false)), (some (56, false))⟩,
          ⟨(some 65), .mov (.t 64), (some (56, false))⟩,
          ⟨(some 66), .mov (.t 3), (some (65, true))⟩,
          ⟨(some 67), .mov (.t 5), (some (65, true))⟩,
          ⟨(some 68), .call 11 [(false, (.t 66)), (false, (.t 67))], (some (65, true))⟩,
          ⟨(some 69), .un .not (.t 68), (some (65, true))⟩,
          ⟨(some 70), .pick (.t 65) (.t 69) (.c (.bool false)), (some (56, false))⟩,
          ⟨(some 71), .pick (.t 56) (.c (.bool true)) (.t 70), none⟩] [3, 4, 71])
        (.cond 71
         (.seq
          (.reg false [⟨(some 2), .mov (.c (.bool false)), none⟩] [2])
          .ret)
         (.reg false [] [3, 4])))
       (.seq
        (.reg false [⟨(some 72), .mov (.t 3), none⟩,
          ⟨(some 73), .mov (.t 4), none⟩,
          ⟨(some 74), .call 13 [(false, (.t 72)), (false, (.t 73))], none⟩,
          ⟨(some 75), .mov (.t 3), none⟩,
          ⟨(some 76), .mov (.t 4), none⟩,
          ⟨(some 77), .call 11 [(false, (.t 75)), (false, (.t 76))], none⟩,
          ⟨(some 78), .mov (.t 77), none⟩,
          ⟨(some 79), .mov (.t 3), (some (78, true))⟩,
          ⟨(some 80), .mov (.t 4), (some (78, true))⟩,
          ⟨(some 81), .bin .neq false (.t 79) (.t 80), (some (78, true))⟩,
          ⟨(some 82), .pick (.t 78) (.t 81) (.c (.bool false)), none⟩,
          ⟨(some 83), .beq false none (.t 74) (.t 82), none⟩,
          ⟨(some 84), .mov (.t 83), none⟩,
          ⟨(some 85), .call 8 [], (some (84, true))⟩,
          ⟨(some 86), .pick (.t 84) (.t 85) (.c (.bool false)), none⟩,
          ⟨(some 2), .mov (.t 86), none⟩] [2])
        .ret))))))
def rs5 : List RS := [.tmp 2]
/-- padlock/padlocklaw05.UnderMeets -/
def rc6 : RC :=
  (.seq
   (.reg false [⟨(some 1), .box (.t 0), none⟩,
     ⟨(some 2), .mov (.c (.bool false)), none⟩] [1])
   (.seq
    (.seq
     (.reg false [⟨(some 7), .idxB 1 1 3 (.c (.int .i64 0)), none⟩,
       ⟨(some 8), .loadR 7 1 1 false, none⟩,
       ⟨(some 9), .len true (.t 8), none⟩,
       ⟨(some 10), .bin .gtr true (.t 9) (.c (.int .i64 200)), none⟩,
       ⟨(some 11), .mov (.t 10), none⟩,
       ⟨(some 12), .idxB 1 1 3 (.c (.int .i64 1)), (some (11, false))⟩,
       ⟨(some 13), .loadR 12 1 1 false, (some (11, false))⟩,
       ⟨(some 14), .len true (.t 13), (some (11, false))⟩,
       ⟨(some 15), .bin .gtr true (.t 14) (.c (.int .i64 200)), (some (11, false))⟩,
       ⟨(some 16), .pick (.t 11) (.c (.bool true)) (.t 15), none⟩,
       ⟨(some 17), .mov (.t 16), none⟩,
       ⟨(some 18), .idxB 1 1 3 (.c (.int .i64 2)), (some (17, false))⟩,
       ⟨(some 19), .loadR 18 1 1 false, (some (17, false))⟩,
       ⟨(some 20), .len true (.t 19), (some (17, false))⟩,
       ⟨(some 21), .bin .gtr true (.t 20) (.c (.int .i64 200)), (some (17, false))⟩,
       ⟨(some 22), .pick (.t 17) (.c (.bool true)) (.t 21), none⟩] [1, 22])
     (.cond 22
      (.seq
       (.reg false [⟨(some 23), .call 8 [], none⟩,
         ⟨(some 2), .mov (.t 23), none⟩] [2])
       .ret)
      (.reg false [] [1])))
    (.seq
     (.reg true [⟨(some 24), .idxB 1 1 3 (.c (.int .i64 0)), none⟩,
       ⟨(some 25), .loadR 24 1 1 false, none⟩,
       ⟨(some 26), .idxB 1 1 3 (.c (.int .i64 1)), none⟩,
       ⟨(some 27), .loadR 26 1 1 false, none⟩,
       ⟨(some 28), .idxB 1 1 3 (.c (.int .i64 2)), none⟩,
       ⟨(some 29), .loadR 28 1 1 false, none⟩,
       ⟨(some 3), .mov (.t 25), none⟩,
       ⟨(some 4), .mov (.t 27), none⟩,
       ⟨(some 5), .mov (.t 29), none⟩] [3, 4, 5])
     (.seq
      (.reg false [⟨(some 30), .mov (.t 3), none⟩,
        ⟨(some 31), .mov (.t 4), none⟩,
        ⟨(some 32), .call 17 [(false, (.t 30)), (false, (.t 31))], none⟩,
        ⟨(some 6), .mov (.t 32), none⟩] [3, 4, 5, 6])
      (.seq
       (.seq
        (.reg false [⟨(some 33), .mov (.t 3), none⟩,
          ⟨(some 34), .mov (.t 6), none⟩,
          ⟨(some 35), .call 11 [(false, (.t 33)), (false, (.t 34))], none⟩,
          ⟨(some 36), .un .not (.t 35), none⟩,
          ⟨(some 37), .mov (.t 36), none⟩,
          ⟨(some 38), .mov (.t 4), (some (37, false))⟩,
          ⟨(some 39), .mov (.t 6), (some (37, false))⟩,
          ⟨(some 40), .call 11 [(false, (.t 38)), (false, (.t 39))], (some (37, false))⟩,
          ⟨(some 41), .un .not (.t 40), (some (37, false))⟩,
          ⟨(some 42), .pick (.t 37) (.c (.bool true)) (.t 41), none⟩,
          ⟨(some 43), .mov (.t 42), none⟩,
          ⟨(some 44), .mov (.t 6), (some (43, false))⟩,
          ⟨(some 45), .mov (.t 4), (some (43, false))⟩,
          ⟨(some 46), .mov (.t 3), (some (43, false))⟩,
          ⟨(some 47), .call 17 [(false, (.t 45)), (false, (.t 46))], (some (43, false))⟩,
          ⟨(some 48), .bin .neq false (.t 44) (.t 47), (some (43, false))⟩,
          ⟨(some 49), .pick (.t 43) (.c (.bool true)) (.t 48), none⟩,
          ⟨(some 50), .mov (.t 49), none⟩,
          ⟨(some 51), .mov (.t 3), (some (50, false))⟩,
          ⟨(some 52), .mov (.t 3), (some (50, false))⟩,
          ⟨(some 53), .call 17 [(false, (.t 51)), (false, (.t 52))], (some (50, false))⟩,
          ⟨(some 54), .mov (.t 3), (some (50, false))⟩,
          ⟨(some 55), .bin .neq false (.t 53) (.t 54), (some (50, false))⟩,
          ⟨(some 56), .pick (.t 50) (.c (.bool true)) (.t 55), none⟩,
          ⟨(some 57), .mov (.t 56), none⟩,
          ⟨(some 58), .mov (.t 3), (some (57, false))⟩,
          ⟨(some 59), .call 17 [(false, (.t 58)), (false, (.c (.str [])))], (some (57, false))⟩,
          ⟨(some 60), .bin .neq false (.t 59) (.c (.str [])), (some (57, false))⟩,
          ⟨(some 61), .pick (.t 57) (.c (.bool true)) (.t 60), none⟩] [3, 4, 5, 6, 61])
        (.cond 61
         (.seq
          (.reg false [⟨(some 2), .mov (.c (.bool false)), none⟩] [2])
          .ret)
         (.reg false [] [3, 4, 5, 6])))
       (.seq
        (.seq
         (.reg false [⟨(some 62), .mov (.t 3), none⟩,
           ⟨(some 63), .mov (.t 5), none⟩,
           ⟨(some 64), .call 11 [(false, (.t 62)), (false, (.t 63))], none⟩,
           ⟨(some 65), .mov (.t 64), none⟩,
           ⟨(some 66), .mov (.t 4), (some (65, true))⟩,
           ⟨(some 67), .mov (.t 5), (some (65, true))⟩,
           ⟨(some 68), .call 11 [(false, (.t 66)), (false, (.t 67))], (some (65, true))⟩,
           ⟨(some 69), .pick (.t 65) (.t 68) (.c (.bool false)), none⟩,
           ⟨(some 70), .mov (.t 69), none⟩,
           ⟨(some 71), .mov (.t 6), (some (70, true))⟩,
           ⟨(some 72), .mov (.t 5), (some (70, true))⟩,
           ⟨(some 73), .call 11 [(false, (.t 71)), (false, (.t 72))], (some (70, true))⟩,
           ⟨(some 74), .un .not (.t 73), (some (70, true))⟩,
           ⟨(some 75), .pick (.t 70) (.t 74) (.c (.bool false)), none⟩] [3, 75])
         (.cond 75
          (.seq
           (.reg false [⟨(some 2), .mov (.c (.bool false)), none⟩] [2])
           .ret)
          (.reg false [] [3])))
        (.seq
         (.reg false [⟨(some 76), .mov (.t 3), none⟩,
           ⟨(some 77), .bin .eql false (.t 76) (.c (.str [])), none⟩,
           ⟨(some 78), .mov (.t 77), none⟩,
           ⟨(some 79), .mov (.t 3), (some (78, false))⟩,
           ⟨(some 80), .mov (.t 3), (some (78, false))⟩,
           ⟨(some 81), .call 15 [(false, (.t 80))], (some (78, false))⟩,
           ⟨(some 82), .call 13 [(false, (.t 79)), (false, (.t 81))], (some (78, false))⟩,
           ⟨(some 83), .pick (.t 78) (.c (.bool true)) (.t 82), none⟩,
           ⟨(some 84), .mov (.t 83), none⟩,
           ⟨(some 85), .call 8 [], (some (84, true))⟩,
           ⟨(some 86), .pick (.t 84) (.t 85) (.c (.bool false)), none⟩,
           ⟨(some 2), .mov (.t 86), none⟩] [2])
         .ret)))))))
def rs6 : List RS := [.tmp 2]
/-- padlock/padlocklaw05.UnderGrows -/
def rc7 : RC :=
  (.seq
   (.reg false [⟨(some 6), .mov (.c (.bool false)), none⟩] [0, 1, 2])
   (.seq
    (.seq
     (.reg false [⟨(some 15), .mov (.t 0), none⟩,
       ⟨(some 16), .len true (.t 15), none⟩,
       ⟨(some 17), .bin .gtr true (.t 16) (.c (.int .i64 200)), none⟩,
       ⟨(some 18), .mov (.t 17), none⟩,
       ⟨(some 19), .mov (.t 1), (some (18, false))⟩,
       ⟨(some 20), .call 19 [(false, (.t 19))], (some (18, false))⟩,
       ⟨(some 21), .bin .gtr true (.t 20) (.c (.int .i64 0)), (some (18, false))⟩,
       ⟨(some 22), .pick (.t 18) (.c (.bool true)) (.t 21), none⟩] [0, 1, 2, 22])
     (.cond 22
      (.seq
       (.reg false [⟨(some 23), .call 8 [], none⟩,
         ⟨(some 6), .mov (.t 23), none⟩] [6])
       .ret)
      (.reg false [] [0, 1, 2])))
    (.seq
     (.reg false [⟨(some 24), .mov (.t 2), none⟩,
       ⟨(some 25), .conv true .i64 (.t 24), none⟩,
       ⟨(some 26), .mov (.t 1), none⟩,
       ⟨(some 27), .len false (.t 26), none⟩,
       ⟨(some 28), .bin .add true (.t 27) (.c (.int .i64 1)), none⟩,
       ⟨(some 29), .bin .rem true (.t 25) (.t 28), none⟩,
       ⟨(some 7), .mov (.t 29), none⟩] [0, 1, 7])
     (.seq
      (.reg false [⟨(some 30), .mov (.t 0), none⟩,
        ⟨(some 31), .mov (.t 1), none⟩,
        ⟨(some 32), .call 21 [(false, (.t 30)), (false, (.t 31))], none⟩,
        ⟨(some 8), .steal 32, none⟩] [0, 1, 7, 8])
      (.seq
       (.reg true [⟨(some 33), .mov (.t 0), none⟩,
         ⟨(some 34), .mov (.t 1), none⟩,
         ⟨(some 35), .mov (.t 7), none⟩,
         ⟨(some 36), .slsl 1 (.t 34) none (some (.t 35)), none⟩,
         ⟨(some 37), .call 21 [(false, (.t 33)), (false, (.t 36))], none⟩,
         ⟨(some 38), .mov (.t 0), none⟩,
         ⟨(some 39), .mov (.t 1), none⟩,
         ⟨(some 40), .mov (.t 7), none⟩,
         ⟨(some 41), .slsl 1 (.t 39) (some (.t 40)) none, none⟩,
         ⟨(some 42), .call 21 [(false, (.t 38)), (false, (.t 41))], none⟩,
         ⟨(some 9), .steal 37, none⟩,
         ⟨(some 10), .steal 42, none⟩] [0, 1, 8, 9, 10])
       (.seq
        (.seq
         (.reg false [⟨(some 11), .mov (.c (.int .i64 0)), none⟩] [0, 1, 8, 9, 10, 11])
         (.block 0
          (.loop
           (.seq
            (.seq
             (.reg false [⟨(some 43), .mov (.t 11), none⟩,
               ⟨(some 44), .mov (.t 8), none⟩,
               ⟨(some 45), .len false (.t 44), none⟩,
               ⟨(some 46), .bin .lss true (.t 43) (.t 45), none⟩] [0, 1, 8, 9, 10, 11, 46])
             (.cond 46
              (.reg false [] [0, 1, 8, 9, 10, 11])
              (.seq
               (.reg false [] [0, 1, 8])
               (.exit 0))))
            (.seq
             (.block 1
              (.seq
               (.reg true [⟨(some 49), .mov (.t 11), none⟩,
                 ⟨(some 50), .bin .gtr true (.t 49) (.c (.int .i64 0)), none⟩,
                 ⟨(some 51), .mov (.t 50), none⟩,
                 ⟨(some 52), .mov (.t 8), (some (51, true))⟩,
                 ⟨(some 53), .mov (.t 11), (some (51, true))⟩,
                 ⟨(some 54), .bin .sub true (.t 53) (.c (.int .i64 1)), (some (51, true))⟩,
                 ⟨(some 55), .idxA 1 (.t 52) (.t 54), (some (51, true))⟩,
                 ⟨(some 56), .loadP (.t 55) 1 false, (some (51, true))⟩,
                 ⟨(some 57), .mov (.t 8), (some (51, true))⟩,
                 ⟨(some 58), .mov (.t 11), (some (51, true))⟩,
                 ⟨(some 59), .idxA 1 (.t 57) (.t 58), (some (51, true))⟩,
                 ⟨(some 60), .loadP (.t 59) 1 false, (some (51, true))⟩,
                 ⟨(some 61), .bin .geq false (.t 56) (.t 60), (some (51, true))⟩,
                 ⟨(some 62), .pick (.t 51) (.t 61) (.c (.bool false)), none⟩,
                 ⟨(some 63), .mov (.t 62), none⟩,
                 ⟨(some 64), .mov (.t 9), (some (63, false))⟩,
                 ⟨(some 65), .mov (.t 8), (some (63, false))⟩,
                 ⟨(some 66), .mov (.t 11), (some (63, false))⟩,
                 ⟨(some 67), .idxA 1 (.t 65) (.t 66), (some (63, false))⟩,
                 ⟨(some 68), .loadP (.t 67) 1 false, (some (63, false))⟩,
                 ⟨(some 69), .call 27 [(false, (.t 64)), (false, (.t 68))], (some (63, false))⟩,
                 ⟨(some 70), .un .not (.t 69), (some (63, false))⟩,
                 ⟨(some 71), .mov (.t 70), (some (63, false))⟩,
                 ⟨(some 72), .mov (.t 10), (some (71, true))⟩,
                 ⟨(some 73), .mov (.t 8), (some (71, true))⟩,
                 ⟨(some 74), .mov (.t 11), (some (71, true))⟩,
                 ⟨(some 75), .idxA 1 (.t 73) (.t 74), (some (71, true))⟩,
                 ⟨(some 76), .loadP (.t 75) 1 false, (some (71, true))⟩,
                 ⟨(some 77), .call 27 [(false, (.t 72)), (false, (.t 76))], (some (71, true))⟩,
                 ⟨(some 78), .un .not (.t 77), (some (71, true))⟩,
                 ⟨(some 79), .pick (.t 71) (.t 78) (.c (.bool false)), (some (63, false))⟩,
                 ⟨(some 80), .pick (.t 63) (.c (.bool true)) (.t 79), none⟩] [0, 1, 8, 9, 10, 11, 80])
               (.cond 80
                (.seq
                 (.reg false [⟨(some 6), .mov (.c (.bool false)), none⟩] [6])
                 .ret)
                (.reg false [] [0, 1, 8, 9, 10, 11]))))
             (.reg false [⟨(some 47), .mov (.t 11), none⟩,
               ⟨(some 48), .bin .add true (.t 47) (.c (.int .i64 1)), none⟩,
               ⟨(some 11), .mov (.t 48), none⟩] [0, 1, 8, 9, 10, 11]))))))
        (.seq
         (.seq
          (.reg false [⟨(some 12), .mov (.c (.int .i64 0)), none⟩] [0, 1, 8, 12])
          (.block 2
           (.loop
            (.seq
             (.seq
              (.reg false [⟨(some 81), .mov (.t 12), none⟩,
                ⟨(some 82), .mov (.t 1), none⟩,
                ⟨(some 83), .len false (.t 82), none⟩,
                ⟨(some 84), .bin .lss true (.t 81) (.t 83), none⟩] [0, 1, 8, 12, 84])
              (.cond 84
               (.reg false [] [0, 1, 8, 12])
               (.seq
                (.reg false [] [0, 1, 8])
                (.exit 2))))
             (.seq
              (.block 3
               (.seq
                (.reg false [⟨(some 88), .mov (.t 1), none⟩,
                  ⟨(some 89), .mov (.t 12), none⟩,
                  ⟨(some 90), .idxA 1 (.t 88) (.t 89), none⟩,
                  ⟨(some 91), .loadP (.t 90) 1 false, none⟩,
                  ⟨(some 92), .mov (.t 0), none⟩,
                  ⟨(some 93), .call 9 [(false, (.t 91)), (false, (.t 92))], none⟩,
                  ⟨(some 87), .mov (.t 93), none⟩,
                  ⟨(some 94), .ext (.t 87) 0, none⟩,
                  ⟨(some 95), .ext (.t 87) 1, none⟩,
                  ⟨(some 13), .mov (.t 94), none⟩,
                  ⟨(some 14), .mov (.t 95), none⟩] [0, 1, 8, 12, 13, 14])
                (.seq
                 (.reg false [⟨(some 96), .mov (.t 14), none⟩,
                   ⟨(some 97), .mov (.t 1), none⟩,
                   ⟨(some 98), .mov (.t 12), none⟩,
                   ⟨(some 99), .idxA 1 (.t 97) (.t 98), none⟩,
                   ⟨(some 100), .loadP (.t 99) 1 false, none⟩,
                   ⟨(some 101), .mov (.t 0), none⟩,
                   ⟨(some 102), .call 13 [(false, (.t 100)), (false, (.t 101))], none⟩,
                   ⟨(some 103), .beq true none (.t 96) (.t 102), none⟩,
                   ⟨(some 104), .mov (.t 103), none⟩,
                   ⟨(some 105), .mov (.t 14), (some (104, false))⟩,
                   ⟨(some 106), .mov (.t 105), (some (104, false))⟩,
                   ⟨(some 107), .mov (.t 8), (some (106, true))⟩,
                   ⟨(some 108), .mov (.t 13), (some (106, true))⟩,
                   ⟨(some 109), .call 27 [(false, (.t 107)), (false, (.t 108))], (some (106, true))⟩,
                   ⟨(some 110), .un .not (.t 109), (some (106, true))⟩,
                   ⟨(some 111), .pick (.t 106) (.t 110) (.c (.bool false)), (some (104, false))⟩,
                   ⟨(some 112), .pick (.t 104) (.c (.bool true)) (.t 111), none⟩,
                   ⟨(some 113), .mov (.t 112), none⟩,
                   ⟨(some 114), .mov (.t 14), (some (113, false))⟩,
                   ⟨(some 115), .un .not (.t 114), (some (113, false))⟩,
                   ⟨(some 116), .mov (.t 115), (some (113, false))⟩,
                   ⟨(some 117), .mov (.t 13), (some (116, true))⟩,
                   ⟨(some 118), .bin .neq false (.t 117) (.c (.str [])), (some (116, true))⟩,
                   ⟨(some 119), .pick (.t 116) (.t 118) (.c (.bool false)), (some (113, false))⟩,
                   ⟨(some 120), .pick (.t 113) (.c (.bool true)) (.t 119), none⟩] [0, 1, 8, 12, 120])
                 (.cond 120
                  (.seq
                   (.reg false [⟨(some 6), .mov (.c (.bool false)), none⟩] [6])
                   .ret)
                  (.reg false [] [0, 1, 8, 12])))))
              (.reg false [⟨(some 85), .mov (.t 12), none⟩,
                ⟨(some 86), .bin .add true (.t 85) (.c (.int .i64 1)), none⟩,
                ⟨(some 12), .mov (.t 86), none⟩] [0, 1, 8, 12]))))))
         (.seq
          (.reg false [⟨(some 121), .mov (.t 0), none⟩,
            ⟨(some 122), .mkSl 1 0 [] [], none⟩,
            ⟨(some 123), .mov (.t 1), none⟩,
            ⟨(some 124), .app 1 16 (.t 122) (.t 123), none⟩,
            ⟨(some 125), .mov (.t 1), none⟩,
            ⟨(some 126), .app 1 16 (.t 124) (.t 125), none⟩,
            ⟨(some 127), .call 21 [(false, (.t 121)), (false, (.t 126))], none⟩,
            ⟨(some 128), .mov (.t 8), none⟩,
            ⟨(some 129), .call 20 [(false, (.t 127)), (false, (.t 128))], none⟩,
            ⟨(some 130), .mov (.t 129), none⟩,
            ⟨(some 131), .call 8 [], (some (130, true))⟩,
            ⟨(some 132), .pick (.t 130) (.t 131) (.c (.bool false)), none⟩,
            ⟨(some 6), .mov (.t 132), none⟩] [6])
          .ret))))))))
def rs7 : List RS := [.tmp 6]
theorem pf8   : PFx Try.prog 8 [] (.bool true) := by
  refine PFx_of_W (rc := rc8) (rs := rs8) Try.func8 rfl T22_ok hm (by kernel_rfl) (by kernel_rfl) (by simp [Try.ntmps8]) ?_
  have e0 := T9_eq [97, 47, 98, 47, 99] [97] (by simp)
  rw [show child [97, 47, 98, 47, 99] [97] = [98, 47] by decide, show be [97, 47, 98, 47, 99] [97] = true by decide] at e0
  have e1 := T21_eq [97] [[97, 47, 100], [97, 47, 98, 47, 99], [97, 98], [97, 47, 98, 47, 101]] (by simp)
  rw [show ord (kids [97] [[97, 47, 100], [97, 47, 98, 47, 99], [97, 98], [97, 47, 98, 47, 101]]) = [[98, 47], [100]] by decide] at e1
  simp only [List.map_cons, List.map_nil, List.length_cons, List.length_nil] at e1
  have e2 := T20_eq [[98, 47], [100]] [[98, 47], [100]] (by simp)
  simp only [List.map_cons, List.map_nil, List.length_cons, List.length_nil, decide_true] at e2
  have e3 := T15_eq [97, 47, 98, 47, 99] (by simp)
  rw [show par [97, 47, 98, 47, 99] = [97, 47, 98] by decide] at e3
  have e4 := T17_eq [97, 47, 98, 47, 99] [97, 47, 98, 99] (by simp)
  rw [show com [97, 47, 98, 47, 99] [97, 47, 98, 99] = [97] by decide] at e4
  have e5 := T23_eq [97, 47, 98] [[], [97], [98]] (by simp)
  rw [show lon [97, 47, 98] [[], [97], [98]] = 1 by decide] at e5
  simp only [List.map_cons, List.map_nil, List.length_cons, List.length_nil] at e5
  have e6 := T25_eq [97, 47, 98] [[97]] (by simp)
  rw [show nest [97, 47, 98] [[97]] = true by decide] at e6
  simp only [List.map_cons, List.map_nil, List.length_cons, List.length_nil] at e6
  have e7 := T25_eq [97, 98] [[97]] (by simp)
  rw [show nest [97, 98] [[97]] = false by decide] at e7
  simp only [List.map_cons, List.map_nil, List.length_cons, List.length_nil] at e7
  have b1 : be [97, 47, 98] [97] = true := by decide
  have b2 : be [97] [97] = false := by decide
  have b3 : wi [97] [97] = true := by decide
  have b4 : wi [97, 98] [97] = false := by decide
  simp [rc8, rs8, e0, e1, e2, e3, e4, e5, e6, e7, b1, b2, b3, b4, -T9_eq, -T21_eq, -T20_eq, -T15_eq, -T17_eq, -T23_eq, -T25_eq]
noncomputable def T8 : Tab := tabAdd T22 8 (fun _ : Unit => True) (fun _ => []) (fun _ => .bool true)
@[simp] theorem T8_eq   : T8 8 [] = some (.bool true) := tabAdd_eq (a := ()) (by simp +contextual [Int.natCast_inj]) trivial rfl
@[simp] theorem T8_ne {g : Nat} {xs : List AV} (h : g ≠ 8) : T8 g xs = T22 g xs := tabAdd_ne h
theorem T8_ok : Sound Try.prog T8 := tabAdd_sound T22_ok fun _ _ => pf8  
theorem tells_pf (a b : Tx) : PFx Try.prog 3 [.str a, .str b] (.bool true) := by
  refine PFx_of_W (rc := rc3) (rs := rs3) Try.func3 rfl T8_ok hm (by kernel_rfl) (by kernel_rfl) (by simp [Try.ntmps3]) ?_
  by_cases ha : 200 < (a.length : Int)
  · simp [rc3, rs3, ha]
  · by_cases hb : 200 < (b.length : Int)
    · simp [rc3, rs3, ha, hb]
    · have ha' : a.length ≤ 1000000 := by omega
      have hb' : b.length ≤ 1000000 := by omega
      simp [rc3, rs3, ha, hb, ha', hb']
theorem lists_pf (s : Tx) (l : List Tx) (hl : l.length ≤ 9223372036854775807) : PFx Try.prog 4 [.str s, .sl (l.map .str) l.length] (.bool true) := by
  refine PFx_of_W (rc := rc4) (rs := rs4) Try.func4 rfl T8_ok hm (by kernel_rfl) (by kernel_rfl) (by simp [Try.ntmps4]) ?_
  by_cases hs : 200 < (s.length : Int)
  · simp [rc4, rs4, hs]
  · by_cases hf : few l
    · have hs' : s.length ≤ 1000000 := by omega
      have h1 : l.length ≤ 1000000 ∧ ∀ x ∈ l, x.length ≤ 1000000 := ⟨by have := hf.1; omega, fun x hx => by have := hf.2 x hx; omega⟩
      have e1 := T21_eq s l h1
      have e2 := T22_eq s l ⟨hs', h1⟩
      have e3 := T23_eq s l h1.1
      have e4 := T24_eq s l h1
      have e5 := T25_eq s l h1.1
      have e6 := T26_eq s l ⟨hs', h1⟩
      have ho := ord_len (kids s l)
      have hk := kids_len s l
      have e7 := T20_eq (ord (kids s l)) (ord (kids s l)) (by omega)
      simp only [decide_true] at e7
      simp [rc4, rs4, hs, hl, hf, e1, e2, e3, e4, e5, e6, e7]
    · simp [rc4, rs4, hs, hl, hf]
theorem order_pf (a b c : Tx) : PFx Try.prog 5 [.agg [.str a, .str b, .str c]] (.bool true) := by
  refine PFx_of_W (rc := rc5) (rs := rs5) Try.func5 rfl T8_ok hm (by kernel_rfl) (by kernel_rfl) (by simp [Try.ntmps5]) ?_
  by_cases ha : 200 < (a.length : Int)
  · simp [rc5, rs5, ha]
  · by_cases hb : 200 < (b.length : Int)
    · simp [rc5, rs5, ha, hb]
    · by_cases hc : 200 < (c.length : Int)
      · simp [rc5, rs5, ha, hb, hc]
      · have w0 := wi_self a
        have w1 := wi_nil a
        have w2 : be a a = false := by unfold be; simp
        have w3 : be a b = (wi a b && !decide (a = b)) := rfl
        have w4 : wi a b = true → wi b a = true → a = b := fun h k => wi_anti h k
        have w5 : wi a b = true → wi b c = true → wi a c = true := fun h k => wi_trans h k
        simp [rc5, rs5, ha, hb, hc, w0, w1, w2, w3]
        cases p : wi a b
        · simp [p]
        · cases q : wi b a
          · cases r : wi b c
            · simp [p, q, r]
            · have := w5 p r
              simp [p, q, r, this]
          · obtain rfl := w4 p q
            cases r : wi a c <;> simp [p, q, r]
theorem meets_pf (a b c : Tx) : PFx Try.prog 6 [.agg [.str a, .str b, .str c]] (.bool true) := by
  refine PFx_of_W (rc := rc6) (rs := rs6) Try.func6 rfl T8_ok hm (by kernel_rfl) (by kernel_rfl) (by simp [Try.ntmps6]) ?_
  by_cases ha : 200 < (a.length : Int)
  · simp [rc6, rs6, ha]
  · by_cases hb : 200 < (b.length : Int)
    · simp [rc6, rs6, ha, hb]
    · by_cases hc : 200 < (c.length : Int)
      · simp [rc6, rs6, ha, hb, hc]
      · have ha' : a.length ≤ 1000000 := by omega
        have hb' : b.length ≤ 1000000 := by omega
        obtain ⟨w1, w2⟩ := com_wi a b
        have w3 := com_comm b a
        have w4 := com_self a
        have w5 := com_nil a
        have w6 : wi a c = true → wi b c = true → wi (com a b) c = true := fun h k => (com_most h k).1
        have w7 : a ≠ [] → be a (par a) = true := be_par
        have q0 := T17_eq a b ha'
        have q1 := T17_eq b a hb'
        rw [w3] at q1
        have q2 := T17_eq a a ha'
        rw [w4] at q2
        have q3 := T17_eq a [] ha'
        rw [w5] at q3
        generalize com a b = m at w1 w2 w6 q0 q1
        by_cases h0 : a = []
        · subst h0
          cases p : wi [] c
          · simp [rc6, rs6, hb, hc, w1, w2, q0, q1, q2, q3, p, -T17_eq]
          · cases q : wi b c
            · simp [rc6, rs6, hb, hc, w1, w2, q0, q1, q2, q3, p, q, -T17_eq]
            · have := w6 p q
              simp [rc6, rs6, hb, hc, w1, w2, q0, q1, q2, q3, p, q, this, -T17_eq]
        · have h7 := w7 h0
          cases p : wi a c
          · simp [rc6, rs6, ha, ha', hb, hc, w1, w2, q0, q1, q2, q3, p, h0, h7, -T17_eq]
          · cases q : wi b c
            · simp [rc6, rs6, ha, ha', hb, hc, w1, w2, q0, q1, q2, q3, p, q, h0, h7, -T17_eq]
            · have := w6 p q
              simp [rc6, rs6, ha, ha', hb, hc, w1, w2, q0, q1, q2, q3, p, q, this, h0, h7, -T17_eq]
end Go.Proofs.Ytnhelmnenhphjaa

