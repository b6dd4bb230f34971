/- The laws of ghash. -/
import Derived.Test.YtkklinkdoboocaaH1
set_option linter.unusedVariables false
set_option linter.unusedSimpArgs false
namespace Go.Proofs.Ytkklinkdoboocaa
open Go.Proofs.Ytkklinkdoboocaa.Pad Go.Proofs.Ytkklinkdoboocaa.Pad.Gh
/-- padlock/padlocklaw08.awake -/
def rc12 : RC :=
  (.seq
   (.reg false [⟨(some 0), .mov (.c (.bool false)), none⟩] [])
   (.seq
    (.reg false [⟨(some 4), .call 18 [], none⟩,
      ⟨(some 1), .alloc (List.replicate 16 (.int .u8 0)), none⟩,
      ⟨none, .stB 1 16 (.t 4), none⟩] [1])
    (.seq
     (.reg false [⟨(some 5), .build (List.replicate 16 (.int .u8 0)) [(0, 1, (.c (.int .u8 64)))], none⟩,
       ⟨(some 2), .alloc (List.replicate 16 (.int .u8 0)), none⟩,
       ⟨none, .stB 2 16 (.t 5), none⟩] [1, 2])
     (.seq
      (.reg false [⟨(some 6), .build (List.replicate 16 (.int .u8 0)) [(0, 1, (.c (.int .u8 32)))], none⟩,
        ⟨(some 3), .alloc (List.replicate 16 (.int .u8 0)), none⟩,
        ⟨none, .stB 3 16 (.t 6), none⟩] [1, 2, 3])
      (.seq
       (.reg true [⟨(some 7), .loadB 1 16 true, none⟩,
         ⟨(some 8), .build (List.replicate 16 (.int .u8 0)) [(0, 1, (.c (.int .u8 128)))], none⟩,
         ⟨(some 9), .beq false (some (List.replicate 16 .i)) (.t 7) (.t 8), none⟩,
         ⟨(some 10), .mov (.t 9), none⟩,
         ⟨(some 11), .loadB 2 16 true, (some (10, true))⟩,
         ⟨(some 12), .loadB 2 16 true, (some (10, true))⟩,
         ⟨(some 13), .call 8 [(false, (.t 11)), (false, (.t 12))], (some (10, true))⟩,
         ⟨(some 14), .loadB 3 16 true, (some (10, true))⟩,
         ⟨(some 15), .beq false (some (List.replicate 16 .i)) (.t 13) (.t 14), (some (10, true))⟩,
         ⟨(some 16), .pick (.t 10) (.t 15) (.c (.bool false)), none⟩,
         ⟨(some 17), .mov (.t 16), none⟩,
         ⟨(some 18), .loadB 1 16 true, (some (17, true))⟩,
         ⟨(some 19), .loadB 3 16 true, (some (17, true))⟩,
         ⟨(some 20), .call 8 [(false, (.t 18)), (false, (.t 19))], (some (17, true))⟩,
         ⟨(some 21), .loadB 3 16 true, (some (17, true))⟩,
         ⟨(some 22), .beq false (some (List.replicate 16 .i)) (.t 20) (.t 21), (some (17, true))⟩,
         ⟨(some 23), .pick (.t 17) (.t 22) (.c (.bool false)), none⟩,
         ⟨(some 24), .mov (.t 23), none⟩,
         ⟨(some 25), .loadB 2 16 true, (some (24, true))⟩,
         ⟨(some 26), .call 15 [(false, (.t 25)), (false, (.c (.str []))), (false, (.c (.str [])))], (some (24, true))⟩,
         ⟨(some 27), .build (List.replicate 16 (.int .u8 0)) [], (some (24, true))⟩,
         ⟨(some 28), .beq false (some (List.replicate 16 .i)) (.t 26) (.t 27), (some (24, true))⟩,
         ⟨(some 29), .pick (.t 24) (.t 28) (.c (.bool false)), none⟩,
         ⟨(some 30), .mov (.t 29), none⟩,
         ⟨(some 31), .loadB 1 16 true, (some (30, true))⟩,
         ⟨(some 32), .call 10 [(false, (.t 31)), (false, (.c (.int .i64 0)))], (some (30, true))⟩,
         ⟨(some 33), .pick (.t 30) (.t 32) (.c (.bool false)), none⟩,
         ⟨(some 34), .mov (.t 33), none⟩,
         ⟨(some 35), .loadB 1 16 true, (some (34, true))⟩,
         ⟨(some 36), .call 10 [(false, (.t 35)), (false, (.c (.int .i64 1)))], (some (34, true))⟩,
         ⟨(some 37), .un .not (.t 36), (some (34, true))⟩,
         ⟨(some 38), .pick (.t 34) (.t 37) (.c (.bool false)), none⟩,
         ⟨(some 39), .mov (.t 38), none⟩,
         ⟨(some 40), .loadB 1 16 true, (some (39, true))⟩,
         ⟨(some 41), .call 10 [(false, (.t 40)), (false, (.c (.int .i64 (-1))))], (some (39, true))⟩,
         ⟨(some 42), .un .not (.t 41), (some (39, true))⟩,
         ⟨(some 43), .pick (.t 39) (.t 42) (.c (.bool false)), none⟩,
         ⟨(some 44), .mov (.t 43), none⟩,
         ⟨(some 45), .loadB 2 16 true, (some (44, true))⟩,
         ⟨(some 46), .call 19 [(false, (.t 45)), (false, (.c (.int .i64 128)))], (some (44, true))⟩,
         ⟨(some 47), .build (List.replicate 16 (.int .u8 0)) [(0, 1, (.c (.int .u8 225)))], (some (44, true))⟩,
         ⟨(some 48), .beq false (some (List.replicate 16 .i)) (.t 46) (.t 47), (some (44, true))⟩,
         ⟨(some 49), .pick (.t 44) (.t 48) (.c (.bool false)), none⟩,
         ⟨(some 0), .mov (.t 49), none⟩] [0])
       .ret)))))
def rs12 : List RS := [.tmp 0]
/-- padlock/padlocklaw08.GhashMuls -/
def rc3 : RC :=
  (.seq
   (.reg false [⟨(some 3), .box (.t 0), none⟩,
     ⟨(some 4), .box (.t 1), none⟩,
     ⟨(some 6), .mov (.c (.bool false)), none⟩] [2, 3, 4])
   (.seq
    (.reg true [⟨(some 7), .loadB 3 16 true, none⟩,
      ⟨(some 8), .loadB 4 16 true, none⟩,
      ⟨(some 9), .call 8 [(false, (.t 7)), (false, (.t 8))], none⟩,
      ⟨(some 10), .loadB 3 16 true, none⟩,
      ⟨(some 11), .loadB 4 16 true, none⟩,
      ⟨(some 12), .call 9 [(false, (.t 10)), (false, (.t 11))], none⟩,
      ⟨(some 13), .beq false (some (List.replicate 16 .i)) (.t 9) (.t 12), none⟩,
      ⟨(some 14), .mov (.t 13), none⟩,
      ⟨(some 15), .loadB 3 16 true, (some (14, true))⟩,
      ⟨(some 16), .mov (.t 2), (some (14, true))⟩,
      ⟨(some 17), .call 10 [(false, (.t 15)), (false, (.t 16))], (some (14, true))⟩,
      ⟨(some 18), .loadB 3 16 true, (some (14, true))⟩,
      ⟨(some 19), .mov (.t 2), (some (14, true))⟩,
      ⟨(some 20), .call 11 [(false, (.t 18)), (false, (.t 19))], (some (14, true))⟩,
      ⟨(some 21), .beq false none (.t 17) (.t 20), (some (14, true))⟩,
      ⟨(some 22), .pick (.t 14) (.t 21) (.c (.bool false)), none⟩,
      ⟨(some 23), .mov (.t 22), none⟩,
      ⟨(some 24), .call 12 [], (some (23, true))⟩,
      ⟨(some 25), .pick (.t 23) (.t 24) (.c (.bool false)), none⟩,
      ⟨(some 6), .mov (.t 25), none⟩] [6])
    .ret))
def rs3 : List RS := [.tmp 6]
/-- padlock/padlocklaw08.GhashSums -/
def rc4 : RC :=
  (.seq
   (.reg false [⟨(some 3), .box (.t 0), none⟩,
     ⟨(some 6), .mov (.c (.bool false)), none⟩] [1, 2, 3])
   (.seq
    (.seq
     (.reg false [⟨(some 9), .mov (.t 1), none⟩,
       ⟨(some 10), .len true (.t 9), none⟩,
       ⟨(some 11), .bin .gtr true (.t 10) (.c (.int .i64 100)), none⟩,
       ⟨(some 12), .mov (.t 11), none⟩,
       ⟨(some 13), .mov (.t 2), (some (12, false))⟩,
       ⟨(some 14), .len true (.t 13), (some (12, false))⟩,
       ⟨(some 15), .bin .gtr true (.t 14) (.c (.int .i64 100)), (some (12, false))⟩,
       ⟨(some 16), .pick (.t 12) (.c (.bool true)) (.t 15), none⟩] [1, 2, 3, 16])
     (.cond 16
      (.seq
       (.reg false [⟨(some 17), .call 12 [], none⟩,
         ⟨(some 6), .mov (.t 17), none⟩] [6])
       .ret)
      (.reg false [] [1, 2, 3])))
    (.seq
     (.reg true [⟨(some 18), .idxB 3 16 2 (.c (.int .i64 0)), none⟩,
       ⟨(some 19), .loadR 18 3 16 true, none⟩,
       ⟨(some 20), .idxB 3 16 2 (.c (.int .i64 1)), none⟩,
       ⟨(some 21), .loadR 20 3 16 true, none⟩,
       ⟨(some 7), .alloc (List.replicate 16 (.int .u8 0)), none⟩,
       ⟨(some 8), .alloc (List.replicate 16 (.int .u8 0)), none⟩,
       ⟨none, .stB 7 16 (.t 19), none⟩,
       ⟨none, .stB 8 16 (.t 21), none⟩] [1, 2, 3, 7, 8])
     (.seq
      (.reg true [⟨(some 22), .loadB 7 16 true, none⟩,
        ⟨(some 23), .loadB 8 16 true, none⟩,
        ⟨(some 24), .mov (.t 2), none⟩,
        ⟨(some 25), .call 13 [(false, (.t 22)), (false, (.t 23)), (false, (.t 24))], none⟩,
        ⟨(some 26), .idxB 3 16 2 (.c (.int .i64 0)), none⟩,
        ⟨(some 27), .loadR 26 3 16 true, none⟩,
        ⟨(some 28), .idxB 3 16 2 (.c (.int .i64 1)), none⟩,
        ⟨(some 29), .loadR 28 3 16 true, none⟩,
        ⟨(some 30), .mov (.t 2), none⟩,
        ⟨(some 31), .call 14 [(false, (.t 27)), (false, (.t 29)), (false, (.t 30))], none⟩,
        ⟨(some 32), .beq false (some (List.replicate 16 .i)) (.t 25) (.t 31), none⟩,
        ⟨(some 33), .mov (.t 32), none⟩,
        ⟨(some 34), .loadB 7 16 true, (some (33, true))⟩,
        ⟨(some 35), .mov (.t 1), (some (33, true))⟩,
        ⟨(some 36), .mov (.t 2), (some (33, true))⟩,
        ⟨(some 37), .call 15 [(false, (.t 34)), (false, (.t 35)), (false, (.t 36))], (some (33, true))⟩,
        ⟨(some 38), .idxB 3 16 2 (.c (.int .i64 0)), (some (33, true))⟩,
        ⟨(some 39), .loadR 38 3 16 true, (some (33, true))⟩,
        ⟨(some 40), .mov (.t 1), (some (33, true))⟩,
        ⟨(some 41), .mov (.t 2), (some (33, true))⟩,
        ⟨(some 42), .call 16 [(false, (.t 39)), (false, (.t 40)), (false, (.t 41))], (some (33, true))⟩,
        ⟨(some 43), .beq false (some (List.replicate 16 .i)) (.t 37) (.t 42), (some (33, true))⟩,
        ⟨(some 44), .pick (.t 33) (.t 43) (.c (.bool false)), none⟩,
        ⟨(some 45), .mov (.t 44), none⟩,
        ⟨(some 46), .call 12 [], (some (45, true))⟩,
        ⟨(some 47), .pick (.t 45) (.t 46) (.c (.bool false)), none⟩,
        ⟨(some 6), .mov (.t 47), none⟩] [6])
      .ret))))
def rs4 : List RS := [.tmp 6]
/-- padlock/padlocklaw08.GhashField -/
def rc5 : RC :=
  (.seq
   (.reg false [⟨(some 1), .box (.t 0), none⟩,
     ⟨(some 2), .mov (.c (.bool false)), none⟩] [1])
   (.seq
    (.reg true [⟨(some 7), .idxB 1 16 3 (.c (.int .i64 0)), none⟩,
      ⟨(some 8), .loadR 7 1 16 true, none⟩,
      ⟨(some 9), .idxB 1 16 3 (.c (.int .i64 1)), none⟩,
      ⟨(some 10), .loadR 9 1 16 true, none⟩,
      ⟨(some 11), .idxB 1 16 3 (.c (.int .i64 2)), none⟩,
      ⟨(some 12), .loadR 11 1 16 true, none⟩,
      ⟨(some 3), .alloc (List.replicate 16 (.int .u8 0)), none⟩,
      ⟨(some 4), .alloc (List.replicate 16 (.int .u8 0)), none⟩,
      ⟨(some 5), .alloc (List.replicate 16 (.int .u8 0)), none⟩,
      ⟨none, .stB 3 16 (.t 8), none⟩,
      ⟨none, .stB 4 16 (.t 10), none⟩,
      ⟨none, .stB 5 16 (.t 12), none⟩] [3, 4, 5])
    (.seq
     (.seq
      (.reg true [⟨(some 13), .loadB 3 16 true, none⟩,
        ⟨(some 14), .loadB 4 16 true, none⟩,
        ⟨(some 15), .call 8 [(false, (.t 13)), (false, (.t 14))], none⟩,
        ⟨(some 16), .loadB 4 16 true, none⟩,
        ⟨(some 17), .loadB 3 16 true, none⟩,
        ⟨(some 18), .call 8 [(false, (.t 16)), (false, (.t 17))], none⟩,
        ⟨(some 19), .beq true (some (List.replicate 16 .i)) (.t 15) (.t 18), none⟩,
        ⟨(some 20), .mov (.t 19), none⟩,
        ⟨(some 21), .loadB 3 16 true, (some (20, false))⟩,
        ⟨(some 22), .loadB 4 16 true, (some (20, false))⟩,
        ⟨(some 23), .call 8 [(false, (.t 21)), (false, (.t 22))], (some (20, false))⟩,
        ⟨(some 24), .loadB 5 16 true, (some (20, false))⟩,
        ⟨(some 25), .call 8 [(false, (.t 23)), (false, (.t 24))], (some (20, false))⟩,
        ⟨(some 26), .loadB 3 16 true, (some (20, false))⟩,
        ⟨(some 27), .loadB 4 16 true, (some (20, false))⟩,
        ⟨(some 28), .loadB 5 16 true, (some (20, false))⟩,
        ⟨(some 29), .call 8 [(false, (.t 27)), (false, (.t 28))], (some (20, false))⟩,
        ⟨(some 30), .call 8 [(false, (.t 26)), (false, (.t 29))], (some (20, false))⟩,
        ⟨(some 31), .beq true (some (List.replicate 16 .i)) (.t 25) (.t 30), (some (20, false))⟩,
        ⟨(some 32), .pick (.t 20) (.c (.bool true)) (.t 31), none⟩] [3, 4, 5, 32])
      (.cond 32
       (.seq
        (.reg false [⟨(some 2), .mov (.c (.bool false)), none⟩] [2])
        .ret)
       (.reg false [] [3, 4, 5])))
     (.seq
      (.seq
       (.reg true [⟨(some 33), .loadB 3 16 true, none⟩,
         ⟨(some 34), .loadB 4 16 true, none⟩,
         ⟨(some 35), .loadB 5 16 true, none⟩,
         ⟨(some 36), .call 17 [(false, (.t 34)), (false, (.t 35))], none⟩,
         ⟨(some 37), .call 8 [(false, (.t 33)), (false, (.t 36))], none⟩,
         ⟨(some 38), .loadB 3 16 true, none⟩,
         ⟨(some 39), .loadB 4 16 true, none⟩,
         ⟨(some 40), .call 8 [(false, (.t 38)), (false, (.t 39))], none⟩,
         ⟨(some 41), .loadB 3 16 true, none⟩,
         ⟨(some 42), .loadB 5 16 true, none⟩,
         ⟨(some 43), .call 8 [(false, (.t 41)), (false, (.t 42))], none⟩,
         ⟨(some 44), .call 17 [(false, (.t 40)), (false, (.t 43))], none⟩,
         ⟨(some 45), .beq true (some (List.replicate 16 .i)) (.t 37) (.t 44), none⟩,
         ⟨(some 46), .mov (.t 45), none⟩,
         ⟨(some 47), .loadB 3 16 true, (some (46, false))⟩,
         ⟨(some 48), .call 18 [], (some (46, false))⟩,
         ⟨(some 49), .call 8 [(false, (.t 47)), (false, (.t 48))], (some (46, false))⟩,
         ⟨(some 50), .loadB 3 16 true, (some (46, false))⟩,
         ⟨(some 51), .beq true (some (List.replicate 16 .i)) (.t 49) (.t 50), (some (46, false))⟩,
         ⟨(some 52), .pick (.t 46) (.c (.bool true)) (.t 51), none⟩] [3, 4, 52])
       (.cond 52
        (.seq
         (.reg false [⟨(some 2), .mov (.c (.bool false)), none⟩] [2])
         .ret)
        (.reg false [] [3, 4])))
      (.seq
       (.reg false [⟨(some 53), .build (List.replicate 16 (.int .u8 0)) [], none⟩,
         ⟨(some 6), .alloc (List.replicate 16 (.int .u8 0)), none⟩,
         ⟨none, .stB 6 16 (.t 53), none⟩] [3, 4, 6])
       (.seq
        (.reg true [⟨(some 54), .loadB 3 16 true, none⟩,
          ⟨(some 55), .loadB 4 16 true, none⟩,
          ⟨(some 56), .call 8 [(false, (.t 54)), (false, (.t 55))], none⟩,
          ⟨(some 57), .loadB 6 16 true, none⟩,
          ⟨(some 58), .beq false (some (List.replicate 16 .i)) (.t 56) (.t 57), none⟩,
          ⟨(some 59), .loadB 3 16 true, none⟩,
          ⟨(some 60), .loadB 6 16 true, none⟩,
          ⟨(some 61), .beq false (some (List.replicate 16 .i)) (.t 59) (.t 60), none⟩,
          ⟨(some 62), .mov (.t 61), none⟩,
          ⟨(some 63), .loadB 4 16 true, (some (62, false))⟩,
          ⟨(some 64), .loadB 6 16 true, (some (62, false))⟩,
          ⟨(some 65), .beq false (some (List.replicate 16 .i)) (.t 63) (.t 64), (some (62, false))⟩,
          ⟨(some 66), .pick (.t 62) (.c (.bool true)) (.t 65), none⟩,
          ⟨(some 67), .beq false none (.t 58) (.t 66), none⟩,
          ⟨(some 68), .mov (.t 67), none⟩,
          ⟨(some 69), .call 12 [], (some (68, true))⟩,
          ⟨(some 70), .pick (.t 68) (.t 69) (.c (.bool false)), none⟩,
          ⟨(some 2), .mov (.t 70), none⟩] [2])
        .ret))))))
def rs5 : List RS := [.tmp 2]
/-- padlock/padlocklaw08.GhashPowers -/
def rc6 : RC :=
  (.seq
   (.reg false [⟨(some 3), .box (.t 0), none⟩,
     ⟨(some 4), .box (.t 1), none⟩,
     ⟨(some 6), .mov (.c (.bool false)), none⟩] [2, 3, 4])
   (.seq
    (.seq
     (.reg false [⟨(some 14), .mov (.t 2), none⟩,
       ⟨(some 15), .len true (.t 14), none⟩,
       ⟨(some 16), .bin .gtr true (.t 15) (.c (.int .i64 100)), none⟩] [2, 3, 4, 16])
     (.cond 16
      (.seq
       (.reg false [⟨(some 17), .call 12 [], none⟩,
         ⟨(some 6), .mov (.t 17), none⟩] [6])
       .ret)
      (.reg false [] [2, 3, 4])))
    (.seq
     (.reg true [⟨(some 18), .idxB 3 16 3 (.c (.int .i64 0)), none⟩,
       ⟨(some 19), .loadR 18 3 16 true, none⟩,
       ⟨(some 20), .idxB 3 16 3 (.c (.int .i64 1)), none⟩,
       ⟨(some 21), .loadR 20 3 16 true, none⟩,
       ⟨(some 22), .idxB 3 16 3 (.c (.int .i64 2)), none⟩,
       ⟨(some 23), .loadR 22 3 16 true, none⟩,
       ⟨(some 7), .alloc (List.replicate 16 (.int .u8 0)), none⟩,
       ⟨(some 8), .alloc (List.replicate 16 (.int .u8 0)), none⟩,
       ⟨(some 9), .alloc (List.replicate 16 (.int .u8 0)), none⟩,
       ⟨none, .stB 7 16 (.t 19), none⟩,
       ⟨none, .stB 8 16 (.t 21), none⟩,
       ⟨none, .stB 9 16 (.t 23), none⟩] [2, 4, 7, 8, 9])
     (.seq
      (.reg true [⟨(some 24), .idxB 4 1 2 (.c (.int .i64 0)), none⟩,
        ⟨(some 25), .loadR 24 4 1 false, none⟩,
        ⟨(some 26), .bin .rem false (.t 25) (.c (.int .u8 40)), none⟩,
        ⟨(some 27), .conv true .i64 (.t 26), none⟩,
        ⟨(some 28), .idxB 4 1 2 (.c (.int .i64 1)), none⟩,
        ⟨(some 29), .loadR 28 4 1 false, none⟩,
        ⟨(some 30), .bin .rem false (.t 29) (.c (.int .u8 40)), none⟩,
        ⟨(some 31), .conv true .i64 (.t 30), none⟩,
        ⟨(some 10), .mov (.t 27), none⟩,
        ⟨(some 11), .mov (.t 31), none⟩] [2, 7, 8, 9, 10, 11])
      (.seq
       (.seq
        (.reg true [⟨(some 32), .loadB 7 16 true, none⟩,
          ⟨(some 33), .mov (.t 10), none⟩,
          ⟨(some 34), .mov (.t 11), none⟩,
          ⟨(some 35), .bin .add true (.t 33) (.t 34), none⟩,
          ⟨(some 36), .call 19 [(false, (.t 32)), (false, (.t 35))], none⟩,
          ⟨(some 37), .loadB 7 16 true, none⟩,
          ⟨(some 38), .mov (.t 10), none⟩,
          ⟨(some 39), .call 19 [(false, (.t 37)), (false, (.t 38))], none⟩,
          ⟨(some 40), .loadB 7 16 true, none⟩,
          ⟨(some 41), .mov (.t 11), none⟩,
          ⟨(some 42), .call 19 [(false, (.t 40)), (false, (.t 41))], none⟩,
          ⟨(some 43), .call 8 [(false, (.t 39)), (false, (.t 42))], none⟩,
          ⟨(some 44), .beq true (some (List.replicate 16 .i)) (.t 36) (.t 43), none⟩,
          ⟨(some 45), .mov (.t 44), none⟩,
          ⟨(some 46), .loadB 7 16 true, (some (45, false))⟩,
          ⟨(some 47), .call 19 [(false, (.t 46)), (false, (.c (.int .i64 0)))], (some (45, false))⟩,
          ⟨(some 48), .call 18 [], (some (45, false))⟩,
          ⟨(some 49), .beq true (some (List.replicate 16 .i)) (.t 47) (.t 48), (some (45, false))⟩,
          ⟨(some 50), .pick (.t 45) (.c (.bool true)) (.t 49), none⟩,
          ⟨(some 51), .mov (.t 50), none⟩,
          ⟨(some 52), .loadB 7 16 true, (some (51, false))⟩,
          ⟨(some 53), .call 19 [(false, (.t 52)), (false, (.c (.int .i64 1)))], (some (51, false))⟩,
          ⟨(some 54), .loadB 7 16 true, (some (51, false))⟩,
          ⟨(some 55), .beq true (some (List.replicate 16 .i)) (.t 53) (.t 54), (some (51, false))⟩,
          ⟨(some 56), .pick (.t 51) (.c (.bool true)) (.t 55), none⟩,
          ⟨(some 57), .mov (.t 56), none⟩,
          ⟨(some 58), .loadB 7 16 true, (some (57, false))⟩,
          ⟨(some 59), .mov (.t 10), (some (57, false))⟩,
          ⟨(some 60), .un .neg (.t 59), (some (57, false))⟩,
          ⟨(some 61), .call 19 [(false, (.t 58)), (false, (.t 60))], (some (57, false))⟩,
          ⟨(some 62), .call 18 [], (some (57, false))⟩,
          ⟨(some 63), .beq true (some (List.replicate 16 .i)) (.t 61) (.t 62), (some (57, false))⟩,
          ⟨(some 64), .pick (.t 57) (.c (.bool true)) (.t 63), none⟩] [2, 7, 8, 9, 64])
        (.cond 64
         (.seq
          (.reg false [⟨(some 6), .mov (.c (.bool false)), none⟩] [6])
          .ret)
         (.reg false [] [2, 7, 8, 9])))
       (.seq
        (.reg false [⟨(some 65), .mov (.t 2), none⟩,
          ⟨(some 66), .len true (.t 65), none⟩,
          ⟨(some 67), .bin .quo true (.t 66) (.c (.int .i64 32)), none⟩,
          ⟨(some 68), .bin .mul true (.t 67) (.c (.int .i64 16)), none⟩,
          ⟨(some 12), .mov (.t 68), none⟩] [2, 7, 8, 9, 12])
        (.seq
         (.seq
          (.reg true [⟨(some 69), .loadB 7 16 true, none⟩,
            ⟨(some 70), .loadB 7 16 true, none⟩,
            ⟨(some 71), .loadB 8 16 true, none⟩,
            ⟨(some 72), .mov (.t 2), none⟩,
            ⟨(some 73), .mov (.t 12), none⟩,
            ⟨(some 74), .ssl (.t 72) none (some (.t 73)), none⟩,
            ⟨(some 75), .call 13 [(false, (.t 70)), (false, (.t 71)), (false, (.t 74))], none⟩,
            ⟨(some 76), .mov (.t 2), none⟩,
            ⟨(some 77), .mov (.t 12), none⟩,
            ⟨(some 78), .ssl (.t 76) (some (.t 77)) none, none⟩,
            ⟨(some 79), .call 13 [(false, (.t 69)), (false, (.t 75)), (false, (.t 78))], none⟩,
            ⟨(some 80), .loadB 7 16 true, none⟩,
            ⟨(some 81), .loadB 8 16 true, none⟩,
            ⟨(some 82), .mov (.t 2), none⟩,
            ⟨(some 83), .call 13 [(false, (.t 80)), (false, (.t 81)), (false, (.t 82))], none⟩,
            ⟨(some 84), .beq true (some (List.replicate 16 .i)) (.t 79) (.t 83), none⟩,
            ⟨(some 85), .mov (.t 84), none⟩,
            ⟨(some 86), .loadB 7 16 true, (some (85, false))⟩,
            ⟨(some 87), .loadB 8 16 true, (some (85, false))⟩,
            ⟨(some 88), .call 13 [(false, (.t 86)), (false, (.t 87)), (false, (.c (.str [])))], (some (85, false))⟩,
            ⟨(some 89), .loadB 8 16 true, (some (85, false))⟩,
            ⟨(some 90), .beq true (some (List.replicate 16 .i)) (.t 88) (.t 89), (some (85, false))⟩,
            ⟨(some 91), .pick (.t 85) (.c (.bool true)) (.t 90), none⟩] [2, 7, 8, 9, 91])
          (.cond 91
           (.seq
            (.reg false [⟨(some 6), .mov (.c (.bool false)), none⟩] [6])
            .ret)
           (.reg false [] [2, 7, 8, 9])))
         (.seq
          (.reg true [⟨(some 92), .loadB 7 16 true, none⟩,
            ⟨(some 93), .loadB 8 16 true, none⟩,
            ⟨(some 94), .mov (.t 2), none⟩,
            ⟨(some 95), .call 13 [(false, (.t 92)), (false, (.t 93)), (false, (.t 94))], none⟩,
            ⟨(some 96), .loadB 7 16 true, none⟩,
            ⟨(some 97), .loadB 9 16 true, none⟩,
            ⟨(some 98), .mov (.t 2), none⟩,
            ⟨(some 99), .call 13 [(false, (.t 96)), (false, (.t 97)), (false, (.t 98))], none⟩,
            ⟨(some 100), .call 17 [(false, (.t 95)), (false, (.t 99))], none⟩,
            ⟨(some 13), .alloc (List.replicate 16 (.int .u8 0)), none⟩,
            ⟨none, .stB 13 16 (.t 100), none⟩] [2, 7, 8, 9, 13])
          (.seq
           (.reg true [⟨(some 101), .loadB 13 16 true, none⟩,
             ⟨(some 102), .loadB 8 16 true, none⟩,
             ⟨(some 103), .loadB 9 16 true, none⟩,
             ⟨(some 104), .call 17 [(false, (.t 102)), (false, (.t 103))], none⟩,
             ⟨(some 105), .loadB 7 16 true, none⟩,
             ⟨(some 106), .mov (.t 2), none⟩,
             ⟨(some 107), .len true (.t 106), none⟩,
             ⟨(some 108), .bin .add true (.t 107) (.c (.int .i64 15)), none⟩,
             ⟨(some 109), .bin .quo true (.t 108) (.c (.int .i64 16)), none⟩,
             ⟨(some 110), .call 19 [(false, (.t 105)), (false, (.t 109))], none⟩,
             ⟨(some 111), .call 8 [(false, (.t 104)), (false, (.t 110))], none⟩,
             ⟨(some 112), .beq false (some (List.replicate 16 .i)) (.t 101) (.t 111), none⟩,
             ⟨(some 113), .mov (.t 112), none⟩,
             ⟨(some 114), .call 12 [], (some (113, true))⟩,
             ⟨(some 115), .pick (.t 113) (.t 114) (.c (.bool false)), none⟩,
             ⟨(some 6), .mov (.t 115), none⟩] [6])
           .ret)))))))))
def rs6 : List RS := [.tmp 6]
/-- padlock/padlocklaw08.GhashTells -/
def rc7 : RC :=
  (.seq
   (.reg false [⟨(some 3), .box (.t 0), none⟩,
     ⟨(some 4), .box (.t 1), none⟩,
     ⟨(some 5), .box (.t 2), none⟩,
     ⟨(some 6), .mov (.c (.bool false)), none⟩] [3, 4, 5])
   (.seq
    (.reg true [⟨(some 12), .idxB 4 1 2 (.c (.int .i64 0)), none⟩,
      ⟨(some 13), .loadR 12 4 1 false, none⟩,
      ⟨(some 14), .idxB 4 1 2 (.c (.int .i64 1)), none⟩,
      ⟨(some 15), .loadR 14 4 1 false, none⟩,
      ⟨(some 7), .mov (.t 13), none⟩,
      ⟨(some 8), .mov (.t 15), none⟩] [3, 5, 7, 8])
    (.seq
     (.seq
      (.reg false [⟨(some 16), .mov (.t 7), none⟩,
        ⟨(some 17), .len true (.t 16), none⟩,
        ⟨(some 18), .bin .gtr true (.t 17) (.c (.int .i64 100)), none⟩,
        ⟨(some 19), .mov (.t 18), none⟩,
        ⟨(some 20), .mov (.t 8), (some (19, false))⟩,
        ⟨(some 21), .len true (.t 20), (some (19, false))⟩,
        ⟨(some 22), .bin .gtr true (.t 21) (.c (.int .i64 100)), (some (19, false))⟩,
        ⟨(some 23), .pick (.t 19) (.c (.bool true)) (.t 22), none⟩,
        ⟨(some 24), .mov (.t 23), none⟩,
        ⟨(some 25), .loadB 3 16 true, (some (24, false))⟩,
        ⟨(some 26), .build (List.replicate 16 (.int .u8 0)) [], (some (24, false))⟩,
        ⟨(some 27), .beq false (some (List.replicate 16 .i)) (.t 25) (.t 26), (some (24, false))⟩,
        ⟨(some 28), .pick (.t 24) (.c (.bool true)) (.t 27), none⟩] [3, 5, 7, 8, 28])
      (.cond 28
       (.seq
        (.reg false [⟨(some 29), .build (List.replicate 16 (.int .u8 0)) [], none⟩,
          ⟨(some 30), .call 15 [(false, (.t 29)), (false, (.c (.str [120]))), (false, (.c (.str [121])))], none⟩,
          ⟨(some 31), .build (List.replicate 16 (.int .u8 0)) [], none⟩,
          ⟨(some 32), .beq false (some (List.replicate 16 .i)) (.t 30) (.t 31), none⟩,
          ⟨(some 33), .mov (.t 32), none⟩,
          ⟨(some 34), .call 12 [], (some (33, true))⟩,
          ⟨(some 35), .pick (.t 33) (.t 34) (.c (.bool false)), none⟩,
          ⟨(some 6), .mov (.t 35), none⟩] [6])
        .ret)
       (.reg false [] [3, 5, 7, 8])))
     (.seq
      (.reg false [⟨(some 36), .loadB 3 16 true, none⟩,
        ⟨(some 9), .alloc (List.replicate 16 (.int .u8 0)), none⟩,
        ⟨none, .stB 9 16 (.t 36), none⟩] [5, 7, 8, 9])
      (.seq
       (.reg false [⟨(some 37), .loadB 9 16 true, none⟩,
         ⟨(some 38), .mov (.t 7), none⟩,
         ⟨(some 39), .mov (.t 8), none⟩,
         ⟨(some 40), .call 15 [(false, (.t 37)), (false, (.t 38)), (false, (.t 39))], none⟩,
         ⟨(some 10), .alloc (List.replicate 16 (.int .u8 0)), none⟩,
         ⟨none, .stB 10 16 (.t 40), none⟩] [5, 7, 8, 9, 10])
       (.seq
        (.reg false [⟨(some 41), .mov (.t 7), none⟩,
          ⟨(some 42), .mov (.t 8), none⟩,
          ⟨(some 43), .bin .add false (.t 41) (.t 42), none⟩,
          ⟨(some 44), .s2bM (.t 43), none⟩,
          ⟨(some 11), .stealM 44, none⟩] [5, 7, 9, 10, 11])
        (.seq
         (.seq
          (.reg false [⟨(some 45), .al 11, none⟩,
            ⟨(some 46), .lenM 45 11, none⟩,
            ⟨(some 47), .bin .eql true (.t 46) (.c (.int .i64 0)), none⟩] [5, 7, 9, 10, 11, 47])
          (.cond 47
           (.seq
            (.reg false [⟨(some 48), .loadB 10 16 true, none⟩,
              ⟨(some 49), .build (List.replicate 16 (.int .u8 0)) [], none⟩,
              ⟨(some 50), .beq false (some (List.replicate 16 .i)) (.t 48) (.t 49), none⟩,
              ⟨(some 51), .mov (.t 50), none⟩,
              ⟨(some 52), .call 12 [], (some (51, true))⟩,
              ⟨(some 53), .pick (.t 51) (.t 52) (.c (.bool false)), none⟩,
              ⟨(some 6), .mov (.t 53), none⟩] [6])
            .ret)
           (.reg false [] [5, 7, 9, 10, 11])))
         (.seq
          (.reg true [⟨(some 54), .al 11, none⟩,
            ⟨(some 55), .idxB 5 1 2 (.c (.int .i64 0)), none⟩,
            ⟨(some 56), .loadR 55 5 1 false, none⟩,
            ⟨(some 57), .conv true .i64 (.t 56), none⟩,
            ⟨(some 58), .al 11, none⟩,
            ⟨(some 59), .lenM 58 11, none⟩,
            ⟨(some 60), .bin .rem true (.t 57) (.t 59), none⟩,
            ⟨(some 61), .idxM 54 11 1 (.t 60), none⟩,
            ⟨(some 62), .loadR 61 11 1 false, none⟩,
            ⟨(some 63), .idxB 5 1 2 (.c (.int .i64 1)), none⟩,
            ⟨(some 64), .loadR 63 5 1 false, none⟩,
            ⟨(some 65), .bin .rem false (.t 64) (.c (.int .u8 255)), none⟩,
            ⟨(some 66), .bin .add false (.c (.int .u8 1)) (.t 65), none⟩,
            ⟨(some 67), .bin .xor false (.t 62) (.t 66), none⟩,
            ⟨(some 68), .idxM 54 11 1 (.t 60), none⟩,
            ⟨none, .stR 68 11 1 (.t 67), none⟩] [7, 9, 10, 11])
          (.seq
           (.reg true [⟨(some 69), .loadB 9 16 true, none⟩,
             ⟨(some 70), .al 11, none⟩,
             ⟨(some 71), .mov (.t 7), none⟩,
             ⟨(some 72), .len true (.t 71), none⟩,
             ⟨(some 73), .winX 70 11 1 none (some (.t 72)), none⟩,
             ⟨(some 74), .b2sM 73 11, none⟩,
             ⟨(some 75), .al 11, none⟩,
             ⟨(some 76), .mov (.t 7), none⟩,
             ⟨(some 77), .len true (.t 76), none⟩,
             ⟨(some 78), .winX 75 11 1 (some (.t 77)) none, none⟩,
             ⟨(some 79), .b2sM 78 11, none⟩,
             ⟨(some 80), .call 15 [(false, (.t 69)), (false, (.t 74)), (false, (.t 79))], none⟩,
             ⟨(some 81), .loadB 10 16 true, none⟩,
             ⟨(some 82), .beq true (some (List.replicate 16 .i)) (.t 80) (.t 81), none⟩,
             ⟨(some 83), .mov (.t 82), none⟩,
             ⟨(some 84), .call 12 [], (some (83, true))⟩,
             ⟨(some 85), .pick (.t 83) (.t 84) (.c (.bool false)), none⟩,
             ⟨(some 6), .mov (.t 85), none⟩] [6])
           .ret)))))))))
def rs7 : List RS := [.tmp 6]
theorem z16 : vec8 16 (fun _ => 0#8) = vec8 16 (blk 0#128) := vec8_ext fun i _ => (blk_zero i).symm
theorem cst16 (n : Nat) (a : W) (h : ∀ i, i < 16 → (if i = 0 then BitVec.ofNat 8 n else 0#8) = blk a i) (hn : n < 256) : splice (vec8 16 (blk 0#128)) 0 [.int .u8 (n : Int)] = vec8 16 (blk a) := by
  rw [show (n : Int) = bv (BitVec.ofNat 8 n) from bv_lit n hn, ← z16, vec8_set 16 0 _ _ (by decide)]
  exact vec8_ext h
theorem c128 : splice (vec8 16 (blk 0#128)) 0 [.int .u8 128] = vec8 16 (blk 1#128) := cst16 128 _ (by decide +kernel) (by decide)
theorem c64 : splice (vec8 16 (blk 0#128)) 0 [.int .u8 64] = vec8 16 (blk 2#128) := cst16 64 _ (by decide +kernel) (by decide)
theorem c32 : splice (vec8 16 (blk 0#128)) 0 [.int .u8 32] = vec8 16 (blk 4#128) := cst16 32 _ (by decide +kernel) (by decide)
theorem c225 : splice (vec8 16 (blk 0#128)) 0 [.int .u8 225] = vec8 16 (blk 0x87#128) := cst16 225 _ (by decide +kernel) (by decide)
theorem m1 : mul 2#128 2#128 = 4#128 := by decide +kernel
theorem m2 : sumT 2#128 [] [] = 0#128 := by decide +kernel
theorem m3 : powI 2#128 128 = 0x87#128 := by
  show pw 2#128 128 = _
  rw [show (2#128 : W) = X 1 by decide +kernel, pw_X]
  decide +kernel
theorem m4 : bitI 1#128 0 = true := by decide +kernel
theorem m5 : bitI 1#128 1 = false := by decide +kernel
theorem m6 : bitI 1#128 (-1) = false := by decide +kernel
theorem pf12   : PFx Try.prog 12 [] (.bool true) := by
  refine PFx_of_W (rc := rc12) (rs := rs12) Try.func12 rfl T15_ok hm (by kernel_rfl) (by kernel_rfl) (by simp [Try.ntmps12]) ?_
  simp [rc12, rs12, vec8_zero, z16, c128, c64, c32, c225, m1, m2, m3, m4, m5, m6, one_mul, -splice, -List.reduceReplicate]
noncomputable def T12 : Tab := tabAdd T15 12 (fun _ : Unit => True) (fun _ => []) (fun _ => .bool true)
@[simp] theorem T12_eq   : T12 12 [] = some (.bool true) := tabAdd_eq (a := ()) (by simp +contextual [Int.natCast_inj]) trivial rfl
@[simp] theorem T12_ne {g : Nat} {xs : List AV} (h : g ≠ 12) : T12 g xs = T15 g xs := tabAdd_ne h
theorem T12_ok : Sound Try.prog T12 := tabAdd_sound T15_ok fun _ _ => pf12  
theorem pf3 (a : W) (b : W) (i : Int)  : PFx Try.prog 3 [.agg (vec8 16 (blk a)), .agg (vec8 16 (blk b)), .int .i64 i] (.bool true) := by
  refine PFx_of_W (rc := rc3) (rs := rs3) Try.func3 rfl T12_ok hm (by kernel_rfl) (by kernel_rfl) (by simp [Try.ntmps3]) ?_
  simp [rc3, rs3, -List.reduceReplicate]
noncomputable def T3 : Tab := tabAdd T12 3 (fun _ : W × W × Int => True) (fun z => [.agg (vec8 16 (blk z.1)), .agg (vec8 16 (blk z.2.1)), .int .i64 z.2.2]) (fun _ => .bool true)
@[simp] theorem T3_eq (a : W) (b : W) (i : Int)  : T3 3 [.agg (vec8 16 (blk a)), .agg (vec8 16 (blk b)), .int .i64 i] = some (.bool true) := tabAdd_eq (a := (a, b, i)) (by simp +contextual [Int.natCast_inj]) trivial rfl
@[simp] theorem T3_ne {g : Nat} {xs : List AV} (h : g ≠ 3) : T3 g xs = T12 g xs := tabAdd_ne h
theorem T3_ok : Sound Try.prog T3 := tabAdd_sound T12_ok fun z _ => pf3 z.1 z.2.1 z.2.2 
/-- Two blocks, and three. -/
def bl2 (a b : W) (i : Nat) : BitVec 8 := if i < 16 then blk a i else blk b (i - 16)
def bl3 (a b c : W) (i : Nat) : BitVec 8 := if i < 16 then blk a i else if i < 32 then blk b (i - 16) else blk c (i - 32)
theorem bl2_0 (a b : W) : vec8 16 (bl2 a b) = vec8 16 (blk a) := vec8_ext fun i hi => by unfold bl2; rw [if_pos hi]
theorem bl2_1 (a b : W) : vec8 16 (fun i => bl2 a b (16 + i)) = vec8 16 (blk b) := vec8_ext fun i hi => by unfold bl2; rw [if_neg (by omega), show 16 + i - 16 = i by omega]
theorem bl3_0 (a b c : W) : vec8 16 (bl3 a b c) = vec8 16 (blk a) := vec8_ext fun i hi => by unfold bl3; rw [if_pos hi]
theorem bl3_1 (a b c : W) : vec8 16 (fun i => bl3 a b c (16 + i)) = vec8 16 (blk b) := vec8_ext fun i hi => by unfold bl3; rw [if_neg (by omega), if_pos (by omega), show 16 + i - 16 = i by omega]
theorem bl3_2 (a b c : W) : vec8 16 (fun i => bl3 a b c (32 + i)) = vec8 16 (blk c) := vec8_ext fun i hi => by unfold bl3; rw [if_neg (by omega), if_neg (by omega), show 32 + i - 32 = i by omega]
theorem pf4 (a : W) (b : W) (ad : List UInt8) (t : List UInt8)  : PFx Try.prog 4 [.agg (vec8 32 (bl2 a b)), .str ad, .str t] (.bool true) := by
  refine PFx_of_W (rc := rc4) (rs := rs4) Try.func4 rfl T3_ok hm (by kernel_rfl) (by kernel_rfl) (by simp [Try.ntmps4]) ?_
  by_cases h1 : 100 < ad.length
  · have h1' : (100 : Int) < (ad.length : Int) := by omega
    simp [rc4, rs4, h1, h1', -List.reduceReplicate]
  · have h1' : ¬ (100 : Int) < (ad.length : Int) := by omega
    by_cases h2 : 100 < t.length
    · have h2' : (100 : Int) < (t.length : Int) := by omega
      simp [rc4, rs4, h1, h1', h2, h2', -List.reduceReplicate]
    · have h2' : ¬ (100 : Int) < (t.length : Int) := by omega
      simp [rc4, rs4, h1, h1', h2, h2', bl2_0, bl2_1, show ad.length ≤ 100000 by omega, show t.length ≤ 100000 by omega, show t.length ≤ 1000000 by omega, -List.reduceReplicate]
noncomputable def T4 : Tab := tabAdd T3 4 (fun _ : W × W × (List UInt8) × (List UInt8) => True) (fun z => [.agg (vec8 32 (bl2 z.1 z.2.1)), .str z.2.2.1, .str z.2.2.2]) (fun _ => .bool true)
@[simp] theorem T4_eq (a : W) (b : W) (ad : List UInt8) (t : List UInt8)  : T4 4 [.agg (vec8 32 (bl2 a b)), .str ad, .str t] = some (.bool true) := tabAdd_eq (a := (a, b, ad, t)) (by simp +contextual [Int.natCast_inj]) trivial rfl
@[simp] theorem T4_ne {g : Nat} {xs : List AV} (h : g ≠ 4) : T4 g xs = T3 g xs := tabAdd_ne h
theorem T4_ok : Sound Try.prog T4 := tabAdd_sound T3_ok fun z _ => pf4 z.1 z.2.1 z.2.2.1 z.2.2.2 
theorem pf5 (a : W) (b : W) (c : W)  : PFx Try.prog 5 [.agg (vec8 48 (bl3 a b c))] (.bool true) := by
  refine PFx_of_W (rc := rc5) (rs := rs5) Try.func5 rfl T4_ok hm (by kernel_rfl) (by kernel_rfl) (by simp [Try.ntmps5]) ?_
  have k1 : mul b a = mul a b := mul_comm b a
  have k2 : mul (mul a b) c = mul a (mul b c) := mul_assoc a b c
  have k3 : (mul a b = 0#128) = (a = 0#128 ∨ b = 0#128) := propext (mul_eq_zero a b)
  simp [rc5, rs5, vec8_zero, z16, bl3_0, bl3_1, bl3_2, k1, k2, k3, mul_add, mul_one, -List.reduceReplicate]
noncomputable def T5 : Tab := tabAdd T4 5 (fun _ : W × W × W => True) (fun z => [.agg (vec8 48 (bl3 z.1 z.2.1 z.2.2))]) (fun _ => .bool true)
@[simp] theorem T5_eq (a : W) (b : W) (c : W)  : T5 5 [.agg (vec8 48 (bl3 a b c))] = some (.bool true) := tabAdd_eq (a := (a, b, c)) (by simp +contextual [Int.natCast_inj]) trivial rfl
@[simp] theorem T5_ne {g : Nat} {xs : List AV} (h : g ≠ 5) : T5 g xs = T4 g xs := tabAdd_ne h
theorem T5_ok : Sound Try.prog T5 := tabAdd_sound T4_ok fun z _ => pf5 z.1 z.2.1 z.2.2 
theorem tmod40 (x : BitVec 8) : (bv x).tmod 40 = ((x.toNat % 40 : Nat) : Int) := tmod_nat x.toNat 40
theorem powI_nat (h : W) (n : Nat) (hn : n ≤ 65536) : powI h (n : Int) = pw h n := by
  unfold powI
  rw [Int.min_eq_left (by omega), Int.toNat_natCast]
theorem powI_neg (h : W) (n : Int) (hn : n ≤ 0) : powI h n = 1#128 := by
  unfold powI
  rw [show (min n 65536).toNat = 0 by omega]; rfl
theorem pf6 (a : W) (b : W) (c : W) (m : BitVec 8) (n : BitVec 8) (l : List UInt8)  : PFx Try.prog 6 [.agg (vec8 48 (bl3 a b c)), .agg [.int .u8 (bv m), .int .u8 (bv n)], .str l] (.bool true) := by
  refine PFx_of_W (rc := rc6) (rs := rs6) Try.func6 rfl T5_ok hm (by kernel_rfl) (by kernel_rfl) (by simp [Try.ntmps6]) ?_
  by_cases h1 : 100 < l.length
  · have h1' : (100 : Int) < (l.length : Int) := by omega
    simp [rc6, rs6, h1, h1', -List.reduceReplicate]
  · have h1' : ¬ (100 : Int) < (l.length : Int) := by omega
    obtain ⟨i, hi⟩ : ∃ i, i = m.toNat % 40 := ⟨_, rfl⟩
    obtain ⟨k, hk⟩ : ∃ k, k = n.toNat % 40 := ⟨_, rfl⟩
    have i40 : i < 40 := by omega
    have k40 : k < 40 := by omega
    have t1 : (bv m).tmod 40 = (i : Int) := by rw [tmod40, ← hi]
    have t2 : (bv n).tmod 40 = (k : Int) := by rw [tmod40, ← hk]
    have p1 : powI a ((i + k : Nat) : Int) = mul (powI a (i : Int)) (powI a (k : Int)) := by rw [powI_nat _ _ (by omega), powI_nat _ _ (by omega), powI_nat _ _ (by omega), pw_add]
    have p2 : powI a 0 = 1#128 := powI_neg a 0 (by decide)
    have p3 : powI a 1 = a := (powI_nat a 1 (by decide)).trans (pw_one a)
    have p4 : powI a (-(i : Int)) = 1#128 := powI_neg a _ (by omega)
    have w4 : IntKind.i64.wrap (-(i : Int)) = -(i : Int) := by simp [IntKind.wrap, IntKind.signed, IntKind.bits]; omega
    obtain ⟨d, hd⟩ : ∃ d, d = l.length / 32 := ⟨_, rfl⟩
    have d1 : ((l.length : Nat) : Int).tdiv 32 = (d : Int) := by rw [hd]; exact tdiv_nat l.length 32
    have d2 : (l.length : Int) / 32 = (d : Int) := by omega
    obtain ⟨e, he⟩ : ∃ e, e = (l.length + 15) / 16 := ⟨_, rfl⟩
    have e1 : ((l.length + 15 : Nat) : Int).tdiv 16 = (e : Int) := by rw [he]; exact tdiv_nat _ 16
    have e2 : ((l.length + 15 : Nat) : Int) / 16 = (e : Int) := by omega
    have e3 : powI a (e : Int) = pw a e := powI_nat a e (by omega)
    have f1 : fold a (fold a b (blks (l.take (d * 16)))) (blks (l.drop (d * 16))) = fold a b (blks l) := by
      rw [← fold_app, Nat.mul_comm, blks_parts d l (by omega)]
    have f2 : fold a b (blks l) ^^^ fold a c (blks l) = mul (b ^^^ c) (pw a e) := by rw [fold_add, blks_len, he]
    have c1 : (d : Int) * 16 = ((d * 16 : Nat) : Int) := by omega
    have c2 : d * 16 ≤ l.length := by omega
    have c3 : ((d * 16 : Nat) : Int) ≤ (l.length : Int) := by omega
    have q1 : (l.take (d * 16)).length ≤ 1000000 := by rw [List.length_take]; omega
    have q2 : (l.drop (d * 16)).length ≤ 1000000 := by rw [List.length_drop]; omega
    have v1 : T13 13 [.agg (vec8 16 (blk a)), .agg (vec8 16 (blk b)), .str (l.take (d * 16))] = some (.agg (vec8 16 (blk (fold a b (blks (l.take (d * 16))))))) := T13_eq a b _ q1
    have v2 : T13 13 [.agg (vec8 16 (blk a)), .agg (vec8 16 (blk (fold a b (blks (l.take (d * 16)))))), .str (l.drop (d * 16))] = some (.agg (vec8 16 (blk (fold a b (blks l))))) := (T13_eq a _ _ q2).trans (by rw [f1])
    simp [rc6, rs6, v1, v2, h1, h1', bl3_0, bl3_1, bl3_2, t1, t2, p2, p3, p4, w4, cast_add, cast_addn, p1, d1, d2, e1, e2, e3, f1, f2, c1, c2, c3, q1, q2, fold, show l.length ≤ 1000000 by omega, blks_nil, -List.reduceReplicate, -Int.natCast_add, -Int.natCast_mul]
    omega
noncomputable def T6 : Tab := tabAdd T5 6 (fun _ : W × W × W × (BitVec 8) × (BitVec 8) × (List UInt8) => True) (fun z => [.agg (vec8 48 (bl3 z.1 z.2.1 z.2.2.1)), .agg [.int .u8 (bv z.2.2.2.1), .int .u8 (bv z.2.2.2.2.1)], .str z.2.2.2.2.2]) (fun _ => .bool true)
@[simp] theorem T6_eq (a : W) (b : W) (c : W) (m : BitVec 8) (n : BitVec 8) (l : List UInt8)  : T6 6 [.agg (vec8 48 (bl3 a b c)), .agg [.int .u8 (bv m), .int .u8 (bv n)], .str l] = some (.bool true) := tabAdd_eq (a := (a, b, c, m, n, l)) (by simp +contextual [Int.natCast_inj]) trivial rfl
@[simp] theorem T6_ne {g : Nat} {xs : List AV} (h : g ≠ 6) : T6 g xs = T5 g xs := tabAdd_ne h
theorem T6_ok : Sound Try.prog T6 := tabAdd_sound T5_ok fun z _ => pf6 z.1 z.2.1 z.2.2.1 z.2.2.2.1 z.2.2.2.2.1 z.2.2.2.2.2 
theorem m7 : sumT 0#128 [120] [121] = 0#128 := by
  rw [sumT_eq, fold_zero _ (by simp)]
theorem m8 (h : W) : sumT h [] [] = 0#128 := by
  have : lens 0 0 = 0#128 := by decide +kernel
  show mul (0#128 ^^^ lens 0 0) h = _
  rw [this, BitVec.xor_self, zero_mul]
/-- What is added to a byte. -/
def dlt (n : BitVec 8) : BitVec 8 := BitVec.ofNat 8 (1 + n.toNat % 255)
theorem dlt_ne : ∀ n : BitVec 8, dlt n ≠ 0#8 := by decide +kernel
theorem dlt_wrap (n : BitVec 8) : IntKind.u8.wrap (1 + (bv n).tmod 255) = bv (dlt n) := by
  rw [show (bv n).tmod 255 = ((n.toNat % 255 : Nat) : Int) from tmod_nat n.toNat 255, show (1 : Int) + ((n.toNat % 255 : Nat) : Int) = ((1 + n.toNat % 255 : Nat) : Int) by omega, bv_wrap8]; rfl
def chg (x : UInt8) (n : BitVec 8) : UInt8 := UInt8.ofBitVec (x.toBitVec ^^^ dlt n)
theorem chg_ne (x : UInt8) (n : BitVec 8) : x ≠ chg x n := by
  intro h
  have h1 : x.toBitVec = x.toBitVec ^^^ dlt n := congrArg UInt8.toBitVec h
  have := congrArg (x.toBitVec ^^^ ·) h1
  simp only [BitVec.xor_self, ← BitVec.xor_assoc, BitVec.zero_xor] at this
  exact dlt_ne n this.symm
theorem chg_xor (x : UInt8) (n : BitVec 8) : bits .xor .u8 ((x.toNat : Nat) : Int) (bv (dlt n)) = (((chg x n).toNat : Nat) : Int) := by
  rw [bv_byte, bv_xor8]; rfl
theorem pf7 (g : W) (ad : List UInt8) (t : List UInt8) (m : BitVec 8) (n : BitVec 8)  : PFx Try.prog 7 [.agg (vec8 16 (blk g)), .agg [.str ad, .str t], .agg [.int .u8 (bv m), .int .u8 (bv n)]] (.bool true) := by
  refine PFx_of_W (rc := rc7) (rs := rs7) Try.func7 rfl T6_ok hm (by kernel_rfl) (by kernel_rfl) (by simp [Try.ntmps7]) ?_
  by_cases h1 : 100 < ad.length
  · have h1' : (100 : Int) < (ad.length : Int) := by omega
    simp [rc7, rs7, vec8_zero, z16, h1, h1', m7, -List.reduceReplicate]
  · have h1' : ¬ (100 : Int) < (ad.length : Int) := by omega
    by_cases h2 : 100 < t.length
    · have h2' : (100 : Int) < (t.length : Int) := by omega
      simp [rc7, rs7, vec8_zero, z16, h1, h1', h2, h2', m7, -List.reduceReplicate]
    · have h2' : ¬ (100 : Int) < (t.length : Int) := by omega
      by_cases hg : g = 0#128
      · subst hg
        simp [rc7, rs7, vec8_zero, z16, h1, h1', h2, h2', m7, -List.reduceReplicate]
      · by_cases h0 : (ad ++ t).length = 0
        · have e := List.eq_nil_of_length_eq_zero h0
          obtain ⟨rfl, rfl⟩ := List.append_eq_nil_iff.1 e
          simp [rc7, rs7, vec8_zero, z16, hg, m8, -List.reduceReplicate]
        · obtain ⟨L, hL⟩ : ∃ L, L = ad ++ t := ⟨_, rfl⟩
          obtain ⟨k, hk⟩ : ∃ k, k = m.toNat % L.length := ⟨_, rfl⟩
          have hl : 0 < L.length := by rw [hL]; omega
          have kl : k < L.length := by rw [hk]; exact Nat.mod_lt _ hl
          have t1 : (bv m).tmod (L.length : Int) = (k : Int) := by rw [hk]; exact tmod_nat _ _
          have ne := sumT_ne hg ad t k (chg (L.getD k 0) n) (by rw [← hL]; exact kl) (by rw [← hL]; exact chg_ne _ _)
          rw [← hL] at ne
          have hb := b_lt m
          have hll : L.length ≤ 200 := by rw [hL, List.length_append]; omega
          have hal : ad.length ≤ L.length := by rw [hL, List.length_append]; omega
          have gd : L.getD k 0 = L[k] := by simp [kl]
          rw [gd] at ne
          have e := bytesAV_splice L k kl (chg L[k] n)
          have v0 : T15 15 [.agg (vec8 16 (blk g)), .str ad, .str t] = some (.agg (vec8 16 (blk (sumT g ad t)))) := T15_eq g ad t (by omega)
          have v1 : T15 15 [.agg (vec8 16 (blk g)), .str ((L.set k (chg L[k] n)).take ad.length), .str ((L.set k (chg L[k] n)).drop ad.length)] = some (.agg (vec8 16 (blk (sumT g ((L.set k (chg L[k] n)).take ad.length) ((L.set k (chg L[k] n)).drop ad.length))))) := T15_eq g _ _ (by rw [List.length_take, List.length_drop, List.length_set]; omega)
          have tk : (List.drop ad.length (L.set k (chg L[k] n))).take (L.length - ad.length) = List.drop ad.length (L.set k (chg L[k] n)) := List.take_of_length_le (by simp)
          have u1 : (∀ c, c ∈ List.take ad.length (bytesAV (L.set k (chg L[k] n))) → c.isU8) = True := eq_true fun c hc => bytesAV_u8 _ c (List.mem_of_mem_take hc)
          have u2 : (∀ c, c ∈ List.take (L.length - ad.length) (List.drop ad.length (bytesAV (L.set k (chg L[k] n)))) → c.isU8) = True := eq_true fun c hc => bytesAV_u8 _ c (List.mem_of_mem_drop (List.mem_of_mem_take hc))
          have hne : ¬ L = [] := fun e => by rw [e] at hl; simp at hl
          simp [rc7, rs7, vec8_zero, z16, v0, v1, tk, u1, u2, hne, ne, h1, h1', h2, h2', hg, ← hL, dlt_wrap, chg_xor, t1, kl, hl, e, -splice, -List.reduceReplicate]
          have hLl : L.length = ad.length + t.length := by rw [hL, List.length_append]
          omega
noncomputable def T7 : Tab := tabAdd T6 7 (fun _ : W × (List UInt8) × (List UInt8) × (BitVec 8) × (BitVec 8) => True) (fun z => [.agg (vec8 16 (blk z.1)), .agg [.str z.2.1, .str z.2.2.1], .agg [.int .u8 (bv z.2.2.2.1), .int .u8 (bv z.2.2.2.2)]]) (fun _ => .bool true)
@[simp] theorem T7_eq (g : W) (ad : List UInt8) (t : List UInt8) (m : BitVec 8) (n : BitVec 8)  : T7 7 [.agg (vec8 16 (blk g)), .agg [.str ad, .str t], .agg [.int .u8 (bv m), .int .u8 (bv n)]] = some (.bool true) := tabAdd_eq (a := (g, ad, t, m, n)) (by simp +contextual [Int.natCast_inj]) trivial rfl
@[simp] theorem T7_ne {g : Nat} {xs : List AV} (h : g ≠ 7) : T7 g xs = T6 g xs := tabAdd_ne h
theorem T7_ok : Sound Try.prog T7 := tabAdd_sound T6_ok fun z _ => pf7 z.1 z.2.1 z.2.2.1 z.2.2.2.1 z.2.2.2.2 
theorem vc {n : Nat} {l : List (BitVec 8)} (h : l.length = n) : w8s l = vec8 n fun i => l.getD i 0#8 := by rw [w8s_vec, h]
theorem v16 (f : Nat → BitVec 8) : vec8 16 f = vec8 16 (blk (pol f)) := vec8_ext fun i hi => (blk_pol f i hi).symm
theorem v32 (f : Nat → BitVec 8) : vec8 32 f = vec8 32 (bl2 (pol f) (pol fun i => f (16 + i))) := vec8_ext fun i hi => by
  unfold bl2
  by_cases h : i < 16
  · rw [if_pos h, blk_pol f i h]
  · rw [if_neg h, blk_pol _ _ (by omega), show 16 + (i - 16) = i by omega]
theorem v48 (f : Nat → BitVec 8) : vec8 48 f = vec8 48 (bl3 (pol f) (pol fun i => f (16 + i)) (pol fun i => f (32 + i))) := vec8_ext fun i hi => by
  unfold bl3
  by_cases h : i < 16
  · rw [if_pos h, blk_pol f i h]
  · rw [if_neg h]
    by_cases h1 : i < 32
    · rw [if_pos h1, blk_pol _ _ (by omega), show 16 + (i - 16) = i by omega]
    · rw [if_neg h1, blk_pol _ _ (by omega), show 32 + (i - 32) = i by omega]
theorem muls' (a b : List (BitVec 8)) (i : Int) (ha : a.length = 16) (hb : b.length = 16) : PFx Try.prog 3 [.agg (w8s a), .agg (w8s b), .int .i64 i] (.bool true) := by
  rw [vc ha, vc hb, v16, v16 fun i => b.getD i 0#8]; exact pf3 _ _ _
theorem sums' (a : List (BitVec 8)) (l t : List UInt8) (ha : a.length = 2 * 16) : PFx Try.prog 4 [.agg (w8s a), .str l, .str t] (.bool true) := by
  rw [vc (n := 32) ha, v32]; exact pf4 _ _ _ _
theorem field' (a : List (BitVec 8)) (ha : a.length = 3 * 16) : PFx Try.prog 5 [.agg (w8s a)] (.bool true) := by
  rw [vc (n := 48) ha, v48]; exact pf5 _ _ _
theorem powers' (a : List (BitVec 8)) (m n : BitVec 8) (l : List UInt8) (ha : a.length = 3 * 16) : PFx Try.prog 6 [.agg (w8s a), .agg [.int .u8 (bv m), .int .u8 (bv n)], .str l] (.bool true) := by
  rw [vc (n := 48) ha, v48]; exact pf6 _ _ _ _ _ _
theorem tells' (a : List (BitVec 8)) (l t : List UInt8) (m n : BitVec 8) (ha : a.length = 16) : PFx Try.prog 7 [.agg (w8s a), .agg [.str l, .str t], .agg [.int .u8 (bv m), .int .u8 (bv n)]] (.bool true) := by
  rw [vc ha, v16]; exact pf7 _ _ _ _ _
end Go.Proofs.Ytkklinkdoboocaa

