/- Shards of the document; awake; the laws of fnv. -/
import Derived.Test.YtjljeojfomjefaaF2
set_option linter.unusedVariables false
set_option linter.unusedSimpArgs false
namespace Go.Proofs.Ytjljeojfomjefaa
open Go.Proofs.Ytjljeojfomjefaa.Pad Go.Proofs.Ytjljeojfomjefaa.Pad.Fnv
/-- padlock/padlocklaw03.awake -/
def rc7 : RC :=
  (.seq
   (.reg false [⟨(some 0), .mov (.c (.bool false)), none⟩] [])
   (.seq
    (.reg false [⟨(some 2), .mkSl 1 2 [(.str []), (.str [])] [(0, 1, (.c (.str [97]))), (1, 1, (.c (.str [97])))], none⟩,
      ⟨(some 3), .call 16 [(false, (.c (.int .i64 8))), (false, (.t 2))], none⟩,
      ⟨(some 1), .steal 3, none⟩] [1])
    (.seq
     (.reg true [⟨(some 4), .call 10 [(false, (.c (.str [97])))], none⟩,
       ⟨(some 5), .bin .eql false (.t 4) (.c (.int .u64 12638187200555641996)), none⟩,
       ⟨(some 6), .mov (.t 5), none⟩,
       ⟨(some 7), .call 10 [(false, (.c (.str [])))], (some (6, true))⟩,
       ⟨(some 8), .bin .eql false (.c (.int .u64 14695981039346656037)) (.t 7), (some (6, true))⟩,
       ⟨(some 9), .pick (.t 6) (.t 8) (.c (.bool false)), none⟩,
       ⟨(some 10), .mov (.t 9), none⟩,
       ⟨(some 11), .mov (.t 1), (some (10, true))⟩,
       ⟨(some 12), .len false (.t 11), (some (10, true))⟩,
       ⟨(some 13), .bin .eql true (.t 12) (.c (.int .i64 1)), (some (10, true))⟩,
       ⟨(some 14), .pick (.t 10) (.t 13) (.c (.bool false)), none⟩,
       ⟨(some 15), .mov (.t 14), none⟩,
       ⟨(some 16), .mov (.t 1), (some (15, true))⟩,
       ⟨(some 17), .idxA 1 (.t 16) (.c (.int .i64 0)), (some (15, true))⟩,
       ⟨(some 18), .loadP (.t 17) 1 false, (some (15, true))⟩,
       ⟨(some 19), .call 12 [(false, (.c (.str [97]))), (false, (.c (.int .i64 8)))], (some (15, true))⟩,
       ⟨(some 20), .bin .eql true (.t 18) (.t 19), (some (15, true))⟩,
       ⟨(some 21), .pick (.t 15) (.t 20) (.c (.bool false)), none⟩,
       ⟨(some 22), .mov (.t 21), none⟩,
       ⟨(some 23), .call 15 [(false, (.c (.int .i64 3)))], (some (22, true))⟩,
       ⟨(some 24), .len false (.t 23), (some (22, true))⟩,
       ⟨(some 25), .bin .eql true (.t 24) (.c (.int .i64 3)), (some (22, true))⟩,
       ⟨(some 26), .pick (.t 22) (.t 25) (.c (.bool false)), none⟩,
       ⟨(some 27), .mov (.t 26), none⟩,
       ⟨(some 28), .call 10 [(false, (.c (.str [97])))], (some (27, true))⟩,
       ⟨(some 29), .call 19 [(false, (.t 28)), (false, (.c (.int .u8 97)))], (some (27, true))⟩,
       ⟨(some 30), .bin .eql false (.t 29) (.c (.int .u64 14695981039346656037)), (some (27, true))⟩,
       ⟨(some 31), .pick (.t 27) (.t 30) (.c (.bool false)), none⟩,
       ⟨(some 32), .mov (.t 31), none⟩,
       ⟨(some 33), .call 12 [(false, (.c (.str [97]))), (false, (.c (.int .i64 9)))], (some (32, true))⟩,
       ⟨(some 34), .bin .eql true (.t 33) (.c (.int .i64 0)), (some (32, true))⟩,
       ⟨(some 35), .pick (.t 32) (.t 34) (.c (.bool false)), none⟩,
       ⟨(some 36), .mov (.t 35), none⟩,
       ⟨(some 37), .pick (.t 36) (.c (.bool true)) (.c (.bool false)), none⟩,
       ⟨(some 0), .mov (.t 37), none⟩] [0])
     .ret)))
def rs7 : List RS := [.tmp 0]
/-- padlock/padlocklaw03.FnvSums -/
def rc3 : RC :=
  (.seq
   (.reg false [⟨(some 6), .mov (.c (.bool false)), none⟩] [0, 1, 2])
   (.seq
    (.seq
     (.reg false [⟨(some 7), .mov (.t 1), none⟩,
       ⟨(some 8), .len true (.t 7), none⟩,
       ⟨(some 9), .bin .gtr true (.t 8) (.c (.int .i64 300)), none⟩] [0, 1, 2, 9])
     (.cond 9
      (.seq
       (.reg false [⟨(some 10), .call 7 [], none⟩,
         ⟨(some 6), .mov (.t 10), none⟩] [6])
       .ret)
      .skip))
    (.seq
     (.reg false [⟨(some 11), .mov (.t 0), none⟩,
       ⟨(some 12), .mov (.t 0), none⟩,
       ⟨(some 13), .bin .quo false (.t 12) (.c (.int .u64 256)), none⟩,
       ⟨(some 14), .conv false .u8 (.t 13), none⟩,
       ⟨(some 15), .call 8 [(false, (.t 11)), (false, (.t 14))], none⟩,
       ⟨(some 16), .mov (.t 0), none⟩,
       ⟨(some 17), .mov (.t 0), none⟩,
       ⟨(some 18), .bin .quo false (.t 17) (.c (.int .u64 256)), none⟩,
       ⟨(some 19), .conv false .u8 (.t 18), none⟩,
       ⟨(some 20), .call 9 [(false, (.t 16)), (false, (.t 19))], none⟩,
       ⟨(some 21), .bin .eql false (.t 15) (.t 20), none⟩,
       ⟨(some 22), .mov (.t 21), none⟩,
       ⟨(some 23), .mov (.t 1), (some (22, true))⟩,
       ⟨(some 24), .call 10 [(false, (.t 23))], (some (22, true))⟩,
       ⟨(some 25), .mov (.t 1), (some (22, true))⟩,
       ⟨(some 26), .call 11 [(false, (.t 25))], (some (22, true))⟩,
       ⟨(some 27), .bin .eql false (.t 24) (.t 26), (some (22, true))⟩,
       ⟨(some 28), .pick (.t 22) (.t 27) (.c (.bool false)), none⟩,
       ⟨(some 29), .mov (.t 28), none⟩,
       ⟨(some 30), .mov (.t 1), (some (29, true))⟩,
       ⟨(some 31), .mov (.t 2), (some (29, true))⟩,
       ⟨(some 32), .call 12 [(false, (.t 30)), (false, (.t 31))], (some (29, true))⟩,
       ⟨(some 33), .mov (.t 1), (some (29, true))⟩,
       ⟨(some 34), .mov (.t 2), (some (29, true))⟩,
       ⟨(some 35), .call 13 [(false, (.t 33)), (false, (.t 34))], (some (29, true))⟩,
       ⟨(some 36), .bin .eql true (.t 32) (.t 35), (some (29, true))⟩,
       ⟨(some 37), .pick (.t 29) (.t 36) (.c (.bool false)), none⟩,
       ⟨(some 38), .mov (.t 37), none⟩,
       ⟨(some 39), .call 7 [], (some (38, true))⟩,
       ⟨(some 40), .pick (.t 38) (.t 39) (.c (.bool false)), none⟩,
       ⟨(some 6), .mov (.t 40), none⟩] [6])
     .ret)))
def rs3 : List RS := [.tmp 6]
/-- padlock/padlocklaw03.FnvShards -/
def rc4 : RC :=
  (.seq
   (.reg false [⟨(some 4), .mov (.c (.bool false)), none⟩] [0, 1])
   (.seq
    (.seq
     (.reg false [⟨(some 7), .mov (.t 1), none⟩,
       ⟨(some 8), .call 14 [(false, (.t 7))], none⟩,
       ⟨(some 9), .bin .gtr true (.t 8) (.c (.int .i64 0)), none⟩] [0, 1, 9])
     (.cond 9
      (.seq
       (.reg false [⟨(some 10), .call 7 [], none⟩,
         ⟨(some 4), .mov (.t 10), none⟩] [4])
       .ret)
      .skip))
    (.seq
     (.reg false [⟨(some 11), .mov (.t 0), none⟩,
       ⟨(some 12), .call 15 [(false, (.t 11))], none⟩,
       ⟨(some 5), .steal 12, none⟩] [0, 1, 5])
     (.seq
      (.seq
       (.reg false [⟨(some 13), .mov (.t 0), none⟩,
         ⟨(some 14), .bin .lss true (.t 13) (.c (.int .i64 1)), none⟩,
         ⟨(some 15), .mov (.t 14), none⟩,
         ⟨(some 16), .mov (.t 0), (some (15, false))⟩,
         ⟨(some 17), .bin .gtr true (.t 16) (.c (.int .i64 8)), (some (15, false))⟩,
         ⟨(some 18), .pick (.t 15) (.c (.bool true)) (.t 17), none⟩] [0, 1, 5, 18])
       (.cond 18
        (.seq
         (.reg false [⟨(some 19), .mov (.t 5), none⟩,
           ⟨(some 20), .len false (.t 19), none⟩,
           ⟨(some 21), .bin .eql true (.t 20) (.c (.int .i64 0)), none⟩,
           ⟨(some 22), .mov (.t 21), none⟩,
           ⟨(some 23), .mov (.t 0), (some (22, true))⟩,
           ⟨(some 24), .mov (.t 1), (some (22, true))⟩,
           ⟨(some 25), .call 16 [(false, (.t 23)), (false, (.t 24))], (some (22, true))⟩,
           ⟨(some 26), .len false (.t 25), (some (22, true))⟩,
           ⟨(some 27), .bin .eql true (.t 26) (.c (.int .i64 0)), (some (22, true))⟩,
           ⟨(some 28), .pick (.t 22) (.t 27) (.c (.bool false)), none⟩,
           ⟨(some 29), .mov (.t 28), none⟩,
           ⟨(some 30), .call 7 [], (some (29, true))⟩,
           ⟨(some 31), .pick (.t 29) (.t 30) (.c (.bool false)), none⟩,
           ⟨(some 4), .mov (.t 31), none⟩] [4])
         .ret)
        .skip))
      (.seq
       (.seq
        (.reg false [⟨(some 6), .mov (.c (.int .i64 0)), none⟩] [0, 1, 5, 6])
        (.block 0
         (.loop
          (.seq
           (.seq
            (.reg false [⟨(some 32), .mov (.t 6), none⟩,
              ⟨(some 33), .mov (.t 5), none⟩,
              ⟨(some 34), .len false (.t 33), none⟩,
              ⟨(some 35), .bin .lss true (.t 32) (.t 34), none⟩] [0, 1, 5, 6, 35])
            (.cond 35
             .skip
             (.exit 0)))
           (.seq
            (.block 1
             (.seq
              (.reg false [⟨(some 38), .mov (.t 5), none⟩,
                ⟨(some 39), .mov (.t 6), none⟩,
                ⟨(some 40), .idxA 1 (.t 38) (.t 39), none⟩,
                ⟨(some 41), .loadP (.t 40) 1 false, none⟩,
                ⟨(some 42), .mov (.t 6), none⟩,
                ⟨(some 43), .bin .neq true (.t 41) (.t 42), none⟩] [0, 1, 5, 6, 43])
              (.cond 43
               (.seq
                (.reg false [⟨(some 4), .mov (.c (.bool false)), none⟩] [4])
                .ret)
               .skip)))
            (.reg false [⟨(some 36), .mov (.t 6), none⟩,
              ⟨(some 37), .bin .add true (.t 36) (.c (.int .i64 1)), none⟩,
              ⟨(some 6), .mov (.t 37), none⟩] [0, 1, 5, 6]))))))
       (.seq
        (.reg false [⟨(some 44), .mov (.t 5), none⟩,
          ⟨(some 45), .len false (.t 44), none⟩,
          ⟨(some 46), .mov (.t 0), none⟩,
          ⟨(some 47), .bin .eql true (.t 45) (.t 46), none⟩,
          ⟨(some 48), .mov (.t 47), none⟩,
          ⟨(some 49), .mov (.t 0), (some (48, true))⟩,
          ⟨(some 50), .mov (.t 1), (some (48, true))⟩,
          ⟨(some 51), .call 16 [(false, (.t 49)), (false, (.t 50))], (some (48, true))⟩,
          ⟨(some 52), .mov (.t 0), (some (48, true))⟩,
          ⟨(some 53), .mov (.t 1), (some (48, true))⟩,
          ⟨(some 54), .call 18 [(false, (.t 52)), (false, (.t 53))], (some (48, true))⟩,
          ⟨(some 55), .call 17 [(false, (.t 51)), (false, (.t 54))], (some (48, true))⟩,
          ⟨(some 56), .pick (.t 48) (.t 55) (.c (.bool false)), none⟩,
          ⟨(some 57), .mov (.t 56), none⟩,
          ⟨(some 58), .call 7 [], (some (57, true))⟩,
          ⟨(some 59), .pick (.t 57) (.t 58) (.c (.bool false)), none⟩,
          ⟨(some 4), .mov (.t 59), none⟩] [4])
        .ret))))))
def rs4 : List RS := [.tmp 4]
/-- padlock/padlocklaw03.FnvUndoes -/
def rc5 : RC :=
  (.seq
   (.reg false [⟨(some 2), .box (.t 0), none⟩,
     ⟨(some 3), .box (.t 1), none⟩,
     ⟨(some 4), .mov (.c (.bool false)), none⟩] [2, 3])
   (.seq
    (.reg true [⟨(some 7), .idxB 2 1 2 (.c (.int .i64 0)), none⟩,
      ⟨(some 8), .loadR 7 2 1 false, none⟩,
      ⟨(some 9), .idxB 3 1 2 (.c (.int .i64 0)), none⟩,
      ⟨(some 10), .loadR 9 3 1 false, none⟩,
      ⟨(some 11), .call 8 [(false, (.t 8)), (false, (.t 10))], none⟩,
      ⟨(some 12), .idxB 2 1 2 (.c (.int .i64 0)), none⟩,
      ⟨(some 13), .loadR 12 2 1 false, none⟩,
      ⟨(some 14), .idxB 3 1 2 (.c (.int .i64 0)), none⟩,
      ⟨(some 15), .loadR 14 3 1 false, none⟩,
      ⟨(some 16), .call 19 [(false, (.t 13)), (false, (.t 15))], none⟩,
      ⟨(some 5), .mov (.t 11), none⟩,
      ⟨(some 6), .mov (.t 16), none⟩] [2, 3, 5, 6])
    (.seq
     (.seq
      (.reg true [⟨(some 17), .mov (.t 5), none⟩,
        ⟨(some 18), .idxB 3 1 2 (.c (.int .i64 0)), none⟩,
        ⟨(some 19), .loadR 18 3 1 false, none⟩,
        ⟨(some 20), .call 19 [(false, (.t 17)), (false, (.t 19))], none⟩,
        ⟨(some 21), .idxB 2 1 2 (.c (.int .i64 0)), none⟩,
        ⟨(some 22), .loadR 21 2 1 false, none⟩,
        ⟨(some 23), .bin .neq false (.t 20) (.t 22), none⟩,
        ⟨(some 24), .mov (.t 23), none⟩,
        ⟨(some 25), .mov (.t 6), (some (24, false))⟩,
        ⟨(some 26), .idxB 3 1 2 (.c (.int .i64 0)), (some (24, false))⟩,
        ⟨(some 27), .loadR 26 3 1 false, (some (24, false))⟩,
        ⟨(some 28), .call 8 [(false, (.t 25)), (false, (.t 27))], (some (24, false))⟩,
        ⟨(some 29), .idxB 2 1 2 (.c (.int .i64 0)), (some (24, false))⟩,
        ⟨(some 30), .loadR 29 2 1 false, (some (24, false))⟩,
        ⟨(some 31), .bin .neq false (.t 28) (.t 30), (some (24, false))⟩,
        ⟨(some 32), .pick (.t 24) (.c (.bool true)) (.t 31), none⟩] [2, 3, 5, 32])
      (.cond 32
       (.seq
        (.reg false [⟨(some 4), .mov (.c (.bool false)), none⟩] [4])
        .ret)
       .skip))
     (.seq
      (.reg true [⟨(some 33), .idxB 2 1 2 (.c (.int .i64 1)), none⟩,
        ⟨(some 34), .loadR 33 2 1 false, none⟩,
        ⟨(some 35), .idxB 3 1 2 (.c (.int .i64 0)), none⟩,
        ⟨(some 36), .loadR 35 3 1 false, none⟩,
        ⟨(some 37), .call 8 [(false, (.t 34)), (false, (.t 36))], none⟩,
        ⟨(some 38), .mov (.t 5), none⟩,
        ⟨(some 39), .bin .eql false (.t 37) (.t 38), none⟩,
        ⟨(some 40), .idxB 2 1 2 (.c (.int .i64 0)), none⟩,
        ⟨(some 41), .loadR 40 2 1 false, none⟩,
        ⟨(some 42), .idxB 2 1 2 (.c (.int .i64 1)), none⟩,
        ⟨(some 43), .loadR 42 2 1 false, none⟩,
        ⟨(some 44), .bin .eql false (.t 41) (.t 43), none⟩,
        ⟨(some 45), .beq false none (.t 39) (.t 44), none⟩,
        ⟨(some 46), .mov (.t 45), none⟩,
        ⟨(some 47), .idxB 2 1 2 (.c (.int .i64 0)), (some (46, true))⟩,
        ⟨(some 48), .loadR 47 2 1 false, (some (46, true))⟩,
        ⟨(some 49), .idxB 3 1 2 (.c (.int .i64 1)), (some (46, true))⟩,
        ⟨(some 50), .loadR 49 3 1 false, (some (46, true))⟩,
        ⟨(some 51), .call 8 [(false, (.t 48)), (false, (.t 50))], (some (46, true))⟩,
        ⟨(some 52), .mov (.t 5), (some (46, true))⟩,
        ⟨(some 53), .bin .eql false (.t 51) (.t 52), (some (46, true))⟩,
        ⟨(some 54), .idxB 3 1 2 (.c (.int .i64 0)), (some (46, true))⟩,
        ⟨(some 55), .loadR 54 3 1 false, (some (46, true))⟩,
        ⟨(some 56), .idxB 3 1 2 (.c (.int .i64 1)), (some (46, true))⟩,
        ⟨(some 57), .loadR 56 3 1 false, (some (46, true))⟩,
        ⟨(some 58), .bin .eql false (.t 55) (.t 57), (some (46, true))⟩,
        ⟨(some 59), .beq false none (.t 53) (.t 58), (some (46, true))⟩,
        ⟨(some 60), .pick (.t 46) (.t 59) (.c (.bool false)), none⟩,
        ⟨(some 61), .mov (.t 60), none⟩,
        ⟨(some 62), .call 7 [], (some (61, true))⟩,
        ⟨(some 63), .pick (.t 61) (.t 62) (.c (.bool false)), none⟩,
        ⟨(some 4), .mov (.t 63), none⟩] [4])
      .ret))))
def rs5 : List RS := [.tmp 4]
/-- padlock/padlocklaw03.FnvSets -/
def rc6 : RC :=
  (.seq
   (.reg false [⟨(some 6), .mov (.c (.bool false)), none⟩] [0, 1, 2])
   (.seq
    (.seq
     (.reg false [⟨(some 13), .mov (.t 1), none⟩,
       ⟨(some 14), .call 14 [(false, (.t 13))], none⟩,
       ⟨(some 15), .bin .gtr true (.t 14) (.c (.int .i64 0)), none⟩,
       ⟨(some 16), .mov (.t 15), none⟩,
       ⟨(some 17), .mov (.t 2), (some (16, false))⟩,
       ⟨(some 18), .call 14 [(false, (.t 17))], (some (16, false))⟩,
       ⟨(some 19), .bin .gtr true (.t 18) (.c (.int .i64 0)), (some (16, false))⟩,
       ⟨(some 20), .pick (.t 16) (.c (.bool true)) (.t 19), none⟩,
       ⟨(some 21), .mov (.t 20), none⟩,
       ⟨(some 22), .mov (.t 0), (some (21, false))⟩,
       ⟨(some 23), .bin .lss true (.t 22) (.c (.int .i64 1)), (some (21, false))⟩,
       ⟨(some 24), .pick (.t 21) (.c (.bool true)) (.t 23), none⟩,
       ⟨(some 25), .mov (.t 24), none⟩,
       ⟨(some 26), .mov (.t 0), (some (25, false))⟩,
       ⟨(some 27), .bin .gtr true (.t 26) (.c (.int .i64 8)), (some (25, false))⟩,
       ⟨(some 28), .pick (.t 25) (.c (.bool true)) (.t 27), none⟩] [0, 1, 2, 28])
     (.cond 28
      (.seq
       (.reg false [⟨(some 29), .call 7 [], none⟩,
         ⟨(some 6), .mov (.t 29), none⟩] [6])
       .ret)
      .skip))
    (.seq
     (.reg false [⟨(some 30), .mov (.t 0), none⟩,
       ⟨(some 31), .mov (.t 1), none⟩,
       ⟨(some 32), .call 16 [(false, (.t 30)), (false, (.t 31))], none⟩,
       ⟨(some 33), .mov (.t 0), none⟩,
       ⟨(some 34), .mov (.t 2), none⟩,
       ⟨(some 35), .call 16 [(false, (.t 33)), (false, (.t 34))], none⟩,
       ⟨(some 7), .steal 32, none⟩,
       ⟨(some 8), .steal 35, none⟩] [0, 1, 2, 7, 8])
     (.seq
      (.reg false [⟨(some 36), .mov (.t 0), none⟩,
        ⟨(some 37), .mkSl 1 0 [] [], none⟩,
        ⟨(some 38), .mov (.t 1), none⟩,
        ⟨(some 39), .app 1 16 (.t 37) (.t 38), none⟩,
        ⟨(some 40), .mov (.t 2), none⟩,
        ⟨(some 41), .app 1 16 (.t 39) (.t 40), none⟩,
        ⟨(some 42), .call 16 [(false, (.t 36)), (false, (.t 41))], none⟩,
        ⟨(some 9), .steal 42, none⟩] [0, 2, 7, 8, 9])
      (.seq
       (.seq
        (.reg false [⟨(some 10), .mov (.c (.int .i64 0)), none⟩] [0, 2, 7, 8, 9, 10])
        (.block 0
         (.loop
          (.seq
           (.seq
            (.reg false [⟨(some 43), .mov (.t 10), none⟩,
              ⟨(some 44), .mov (.t 9), none⟩,
              ⟨(some 45), .len false (.t 44), none⟩,
              ⟨(some 46), .bin .lss true (.t 43) (.t 45), none⟩] [0, 2, 7, 8, 9, 10, 46])
            (.cond 46
             .skip
             (.exit 0)))
           (.seq
            (.block 1
             (.seq
              (.reg true [⟨(some 49), .mov (.t 9), none⟩,
                ⟨(some 50), .mov (.t 10), none⟩,
                ⟨(some 51), .idxA 1 (.t 49) (.t 50), none⟩,
                ⟨(some 52), .loadP (.t 51) 1 false, none⟩,
                ⟨(some 53), .bin .lss true (.t 52) (.c (.int .i64 0)), none⟩,
                ⟨(some 54), .mov (.t 53), none⟩,
                ⟨(some 55), .mov (.t 9), (some (54, false))⟩,
                ⟨(some 56), .mov (.t 10), (some (54, false))⟩,
                ⟨(some 57), .idxA 1 (.t 55) (.t 56), (some (54, false))⟩,
                ⟨(some 58), .loadP (.t 57) 1 false, (some (54, false))⟩,
                ⟨(some 59), .mov (.t 0), (some (54, false))⟩,
                ⟨(some 60), .bin .geq true (.t 58) (.t 59), (some (54, false))⟩,
                ⟨(some 61), .pick (.t 54) (.c (.bool true)) (.t 60), none⟩,
                ⟨(some 62), .mov (.t 61), none⟩,
                ⟨(some 63), .mov (.t 10), (some (62, false))⟩,
                ⟨(some 64), .bin .gtr true (.t 63) (.c (.int .i64 0)), (some (62, false))⟩,
                ⟨(some 65), .mov (.t 64), (some (62, false))⟩,
                ⟨(some 66), .mov (.t 9), (some (65, true))⟩,
                ⟨(some 67), .mov (.t 10), (some (65, true))⟩,
                ⟨(some 68), .bin .sub true (.t 67) (.c (.int .i64 1)), (some (65, true))⟩,
                ⟨(some 69), .idxA 1 (.t 66) (.t 68), (some (65, true))⟩,
                ⟨(some 70), .loadP (.t 69) 1 false, (some (65, true))⟩,
                ⟨(some 71), .mov (.t 9), (some (65, true))⟩,
                ⟨(some 72), .mov (.t 10), (some (65, true))⟩,
                ⟨(some 73), .idxA 1 (.t 71) (.t 72), (some (65, true))⟩,
                ⟨(some 74), .loadP (.t 73) 1 false, (some (65, true))⟩,
                ⟨(some 75), .bin .geq true (.t 70) (.t 74), (some (65, true))⟩,
                ⟨(some 76), .pick (.t 65) (.t 75) (.c (.bool false)), (some (62, false))⟩,
                ⟨(some 77), .pick (.t 62) (.c (.bool true)) (.t 76), none⟩,
                ⟨(some 78), .mov (.t 77), none⟩,
                ⟨(some 79), .mov (.t 7), (some (78, false))⟩,
                ⟨(some 80), .mov (.t 9), (some (78, false))⟩,
                ⟨(some 81), .mov (.t 10), (some (78, false))⟩,
                ⟨(some 82), .idxA 1 (.t 80) (.t 81), (some (78, false))⟩,
                ⟨(some 83), .loadP (.t 82) 1 false, (some (78, false))⟩,
                ⟨(some 84), .call 20 [(false, (.t 79)), (false, (.t 83))], (some (78, false))⟩,
                ⟨(some 85), .un .not (.t 84), (some (78, false))⟩,
                ⟨(some 86), .mov (.t 85), (some (78, false))⟩,
                ⟨(some 87), .mov (.t 8), (some (86, true))⟩,
                ⟨(some 88), .mov (.t 9), (some (86, true))⟩,
                ⟨(some 89), .mov (.t 10), (some (86, true))⟩,
                ⟨(some 90), .idxA 1 (.t 88) (.t 89), (some (86, true))⟩,
                ⟨(some 91), .loadP (.t 90) 1 false, (some (86, true))⟩,
                ⟨(some 92), .call 20 [(false, (.t 87)), (false, (.t 91))], (some (86, true))⟩,
                ⟨(some 93), .un .not (.t 92), (some (86, true))⟩,
                ⟨(some 94), .pick (.t 86) (.t 93) (.c (.bool false)), (some (78, false))⟩,
                ⟨(some 95), .pick (.t 78) (.c (.bool true)) (.t 94), none⟩] [0, 2, 7, 8, 9, 10, 95])
              (.cond 95
               (.seq
                (.reg false [⟨(some 6), .mov (.c (.bool false)), none⟩] [6])
                .ret)
               .skip)))
            (.reg false [⟨(some 47), .mov (.t 10), none⟩,
              ⟨(some 48), .bin .add true (.t 47) (.c (.int .i64 1)), none⟩,
              ⟨(some 10), .mov (.t 48), none⟩] [0, 2, 7, 8, 9, 10]))))))
       (.seq
        (.seq
         (.reg false [⟨(some 11), .mov (.c (.int .i64 0)), none⟩] [0, 2, 7, 9, 11])
         (.block 2
          (.loop
           (.seq
            (.seq
             (.reg false [⟨(some 96), .mov (.t 11), none⟩,
               ⟨(some 97), .mov (.t 7), none⟩,
               ⟨(some 98), .len false (.t 97), none⟩,
               ⟨(some 99), .bin .lss true (.t 96) (.t 98), none⟩] [0, 2, 7, 9, 11, 99])
             (.cond 99
              .skip
              (.exit 2)))
            (.seq
             (.block 3
              (.seq
               (.reg false [⟨(some 102), .mov (.t 9), none⟩,
                 ⟨(some 103), .mov (.t 7), none⟩,
                 ⟨(some 104), .mov (.t 11), none⟩,
                 ⟨(some 105), .idxA 1 (.t 103) (.t 104), none⟩,
                 ⟨(some 106), .loadP (.t 105) 1 false, none⟩,
                 ⟨(some 107), .call 20 [(false, (.t 102)), (false, (.t 106))], none⟩,
                 ⟨(some 108), .un .not (.t 107), none⟩] [0, 2, 7, 9, 11, 108])
               (.cond 108
                (.seq
                 (.reg false [⟨(some 6), .mov (.c (.bool false)), none⟩] [6])
                 .ret)
                .skip)))
             (.reg false [⟨(some 100), .mov (.t 11), none⟩,
               ⟨(some 101), .bin .add true (.t 100) (.c (.int .i64 1)), none⟩,
               ⟨(some 11), .mov (.t 101), none⟩] [0, 2, 7, 9, 11]))))))
        (.seq
         (.seq
          (.reg false [⟨(some 12), .mov (.c (.int .i64 0)), none⟩] [0, 2, 9, 12])
          (.block 4
           (.loop
            (.seq
             (.seq
              (.reg false [⟨(some 109), .mov (.t 12), none⟩,
                ⟨(some 110), .mov (.t 2), none⟩,
                ⟨(some 111), .len false (.t 110), none⟩,
                ⟨(some 112), .bin .lss true (.t 109) (.t 111), none⟩] [0, 2, 9, 12, 112])
              (.cond 112
               .skip
               (.exit 4)))
             (.seq
              (.block 5
               (.seq
                (.reg false [⟨(some 115), .mov (.t 9), none⟩,
                  ⟨(some 116), .mov (.t 2), none⟩,
                  ⟨(some 117), .mov (.t 12), none⟩,
                  ⟨(some 118), .idxA 1 (.t 116) (.t 117), none⟩,
                  ⟨(some 119), .loadP (.t 118) 1 false, none⟩,
                  ⟨(some 120), .mov (.t 0), none⟩,
                  ⟨(some 121), .call 12 [(false, (.t 119)), (false, (.t 120))], none⟩,
                  ⟨(some 122), .call 20 [(false, (.t 115)), (false, (.t 121))], none⟩,
                  ⟨(some 123), .un .not (.t 122), none⟩] [0, 2, 9, 12, 123])
                (.cond 123
                 (.seq
                  (.reg false [⟨(some 6), .mov (.c (.bool false)), none⟩] [6])
                  .ret)
                 .skip)))
              (.reg false [⟨(some 113), .mov (.t 12), none⟩,
                ⟨(some 114), .bin .add true (.t 113) (.c (.int .i64 1)), none⟩,
                ⟨(some 12), .mov (.t 114), none⟩] [0, 2, 9, 12]))))))
         (.seq
          (.reg false [⟨(some 124), .call 7 [], none⟩,
            ⟨(some 6), .mov (.t 124), none⟩] [6])
          .ret))))))))
def rs6 : List RS := [.tmp 6]
theorem shI_nat (l : List UInt8) (m : Nat) (h : 0 < m ∧ m ≤ 8) : shI l m = (shN l m : Nat) := by
  rw [shI, if_pos (by omega)]; rfl
theorem has_snoc (ls : List (List UInt8)) (m k j : Nat) (h : k < ls.length) : has (ls.take (k + 1)) m j = (has (ls.take k) m j || decide (shN ls[k] m = j)) := by
  unfold has
  rw [take_one ls k h, List.any_append]; simp; rfl
theorem pf18 (m : Nat) (ls : List (List UInt8)) (h : (0 < m ∧ m ≤ 8) ∧ ls.length ≤ 1000000 ∧ ∀ s ∈ ls, s.length ≤ 1000000) : PFx Try.prog 18 [.int .i64 m, .sl (ls.map .str) ls.length] (.row 1 (ints (shs m ls)) (shs m ls).length) := by
  refine PFx_of_W (rc := rc18) (rs := rs18) Try.func18 rfl T16_ok hm (by kernel_rfl) (by kernel_rfl) (by simp [Try.ntmps18]) ?_
  simp [rc18, rs18]
  have h8 : (m : Int) ≤ 8 := by omega
  refine W_forU m (fun _ => True) (fun k => [(5, .row 1 (ints ((List.range k).filter (has ls m))) ((List.range k).filter (has ls m)).length), (6, .int .i64 k)]) trivial (by simp) (fun k hk _ => ?_) fun _ => ?_
  · have hl : ((List.range k).filter (has ls m)).length ≤ k := by simpa using List.length_filter_le (has ls m) (List.range k)
    simp [hk, h8]
    refine W_forU ls.length (fun _ => True) (fun j => [(7, .bool (has (ls.take j) m k)), (8, .int .i64 j)]) trivial (by simp [has]) (fun j hj _ => ?_) fun _ => ?_
    · have e := T13_eq ls[j] m (h.2.2 _ (List.getElem_mem hj))
      rw [shI_nat _ _ h.1] at e
      cases hb : has (ls.take j) m k <;> simp [hj, hb, e, has_snoc, Int.natCast_inj] <;> omega
    · cases hb : has ls m k <;> simp [hb, filter_succ, ints_app, ints_one] <;> omega
  · simp [shs]
noncomputable def T18 : Tab := tabAdd T16 18 (fun z : Nat × (List (List UInt8)) => (0 < z.1 ∧ z.1 ≤ 8) ∧ z.2.length ≤ 1000000 ∧ ∀ s ∈ z.2, s.length ≤ 1000000) (fun z => [.int .i64 z.1, .sl (z.2.map .str) z.2.length]) (fun z => .row 1 (ints (shs z.1 z.2)) (shs z.1 z.2).length)
@[simp] theorem T18_eq (m : Nat) (ls : List (List UInt8)) (h : (0 < m ∧ m ≤ 8) ∧ ls.length ≤ 1000000 ∧ ∀ s ∈ ls, s.length ≤ 1000000) : T18 18 [.int .i64 m, .sl (ls.map .str) ls.length] = some (.row 1 (ints (shs m ls)) (shs m ls).length) := tabAdd_eq (a := (m, ls)) (by simp +contextual [Int.natCast_inj]) h rfl
@[simp] theorem T18_ne {g : Nat} {xs : List AV} (h : g ≠ 18) : T18 g xs = T16 g xs := tabAdd_ne h
theorem T18_ok : Sound Try.prog T18 := tabAdd_sound T16_ok fun z h => pf18 z.1 z.2 h
theorem a_sum : bv (sum [97]) = 12638187200555641996 := by decide +kernel
theorem a_nil : bv (sum []) = 14695981039346656037 := by decide +kernel
theorem a_shs : shs 8 [[97], [97]] = [0] := by decide +kernel
theorem a_sh : shI [97] 8 = 0 := by decide +kernel
theorem a_sh9 : shI [97] 9 = 0 := by decide +kernel
theorem a_undo : bv (undo (sum [97]) 97) = 14695981039346656037 := by decide +kernel
theorem pf7   : PFx Try.prog 7 [] (.bool true) := by
  refine PFx_of_W (rc := rc7) (rs := rs7) Try.func7 rfl T18_ok hm (by kernel_rfl) (by kernel_rfl) (by simp [Try.ntmps7]) ?_
  have e0 : T16 16 [.int .i64 8, .sl [.str [97], .str [97]] 2] = some (.row 1 (ints [0]) 1) := by
    have := T16_eq 8 [[97], [97]] (by simp)
    simp [a_shs] at this
    simpa using this
  have e1 : T10 10 [.str [97]] = some (.int .u64 12638187200555641996) := by simp [a_sum]
  have e2 : T10 10 [.str []] = some (.int .u64 14695981039346656037) := by simp [a_nil]
  have e3 : T12 12 [.str [97], .int .i64 8] = some (.int .i64 0) := by simp [a_sh]
  have e4 : T12 12 [.str [97], .int .i64 9] = some (.int .i64 0) := by simp [a_sh9]
  have e5 : T15 15 [.int .i64 3] = some (.row 1 (ints [0, 1, 2]) 3) := by simp [allN]; decide
  have e6 : T19 19 [.int .u64 12638187200555641996, .int .u8 97] = some (.int .u64 14695981039346656037) := by
    have := T19_eq (sum [97]) 97
    rw [a_undo, a_sum] at this
    simpa using this
  simp only [rc7, rs7]
  simp [e0, e1, e2, e3, e4, e5, e6, -T10_eq, -T12_eq, -T15_eq, ints]
noncomputable def T7 : Tab := tabAdd T18 7 (fun _ : Unit => True) (fun _ => []) (fun _ => .bool true)
@[simp] theorem T7_eq   : T7 7 [] = some (.bool true) := tabAdd_eq (a := ()) (by simp +contextual [Int.natCast_inj]) trivial rfl
@[simp] theorem T7_ne {g : Nat} {xs : List AV} (h : g ≠ 7) : T7 g xs = T18 g xs := tabAdd_ne h
theorem T7_ok : Sound Try.prog T7 := tabAdd_sound T18_ok fun _ _ => pf7  
def by1 (x : B) : UInt8 := UInt8.ofNat (x.toNat / 256)
theorem by8 (x : B) : IntKind.u8.wrap (IntKind.u64.wrap ((bv x).tdiv 256)) = ((by1 x).toNat : Int) := by
  have := x.isLt
  unfold bv
  rw [Int.tdiv_eq_ediv_of_nonneg (Int.natCast_nonneg _), u8_wrap, u64_wrap, by1, UInt8.toNat_ofNat']
  omega
theorem laws_pf (x : B) (s : List UInt8) (n : Int) : PFx Try.prog 3 [.int .u64 (bv x), .str s, .int .i64 n] (.bool true) := by
  refine PFx_of_W (rc := rc3) (rs := rs3) Try.func3 rfl T7_ok hm (by kernel_rfl) (by kernel_rfl) (by simp [Try.ntmps3]) ?_
  rcases Int.lt_or_le 300 s.length with h | h
  · simp [rc3, rs3, h]
  · have h' : ¬ (300 : Int) < s.length := by omega
    have hl : s.length ≤ 1000000 := by omega
    simp [rc3, rs3, h', hl, by8]
theorem shards_pf (n : Int) (ls : List (List UInt8)) (hmax : ls.length ≤ maxLen) : PFx Try.prog 4 [.int .i64 n, .sl (ls.map .str) ls.length] (.bool true) := by
  refine PFx_of_W (rc := rc4) (rs := rs4) Try.func4 rfl T7_ok hm (by kernel_rfl) (by kernel_rfl) (by simp [Try.ntmps4]) ?_
  have hmax' : ls.length ≤ 9223372036854775807 := Nat.le_trans hmax (by decide)
  by_cases hf : few ls
  · have h1 : ls.length ≤ 1000000 ∧ ∀ s ∈ ls, s.length ≤ 1000000 := ⟨by have := hf.1; omega, fun s hs => by have := hf.2 s hs; omega⟩
    by_cases hn : 1 ≤ n ∧ n ≤ 8
    · obtain ⟨m, rfl⟩ := Int.eq_ofNat_of_zero_le (show 0 ≤ n by omega)
      have e1 := T16_eq m ls h1
      have e2 := T18_eq m ls ⟨by omega, h1⟩
      have h3 : ¬ (m : Int) < 1 := by omega
      have h4 : ¬ (8 : Int) < m := by omega
      have h5 := shs_len m ls
      simp [rc4, rs4, hmax', hf, h3, h4, allN, hn]
      refine W_forU m (fun _ => True) (fun k => [(6, .int .i64 k)]) trivial (by simp) (fun k hk _ => ?_) fun _ => ?_
      · simp [hk]; omega
      · have h6 : (shs m ls).length ≤ 1000000 := by omega
        simp [e1, e2, hn, h6]
    · have e1 := T16_eq n ls h1
      simp [hn] at e1
      rcases Int.lt_or_le n 1 with h3 | h3
      · simp [rc4, rs4, hmax', hf, h3, allN, hn, e1]
      · have h4 : 8 < n := by omega
        have h3' : ¬ n < 1 := by omega
        simp [rc4, rs4, hmax', hf, h3', h4, allN, hn, e1]
  · simp [rc4, rs4, hmax', hf]
theorem undoes_pf (x y : B) (a b : UInt8) : PFx Try.prog 5 [.agg [.int .u64 (bv x), .int .u64 (bv y)], .agg [.int .u8 a.toNat, .int .u8 b.toNat]] (.bool true) := by
  refine PFx_of_W (rc := rc5) (rs := rs5) Try.func5 rfl T7_ok hm (by kernel_rfl) (by kernel_rfl) (by simp [Try.ntmps5]) ?_
  simp [rc5, rs5, undo_add, add_undo, add_inj, add_byte]
  have h1 : (y = x) = (x = y) := propext ⟨Eq.symm, Eq.symm⟩
  have h2 : (b = a) = (a = b) := propext ⟨Eq.symm, Eq.symm⟩
  simp [h1, h2]
theorem in_both {m : Nat} {a b : List (List UInt8)} {k : Nat} (h : k ∈ shs m (a ++ b)) : isIn (shs m a) k = true ∨ isIn (shs m b) k = true := by
  obtain ⟨h1, s, h2, h3⟩ := (mem_shs _ _ _).1 h
  rcases List.mem_append.1 h2 with h2 | h2
  · exact .inl (isIn_true.2 ⟨k, (mem_shs _ _ _).2 ⟨h1, s, h2, h3⟩, rfl⟩)
  · exact .inr (isIn_true.2 ⟨k, (mem_shs _ _ _).2 ⟨h1, s, h2, h3⟩, rfl⟩)
theorem in_left {m : Nat} {a b : List (List UInt8)} {k : Nat} (h : k ∈ shs m a) : isIn (shs m (a ++ b)) k = true := by
  obtain ⟨h1, s, h2, h3⟩ := (mem_shs _ _ _).1 h
  exact isIn_true.2 ⟨k, (mem_shs _ _ _).2 ⟨h1, s, List.mem_append_left _ h2, h3⟩, rfl⟩
theorem in_text {m : Nat} (hm : 0 < m) {a b : List (List UInt8)} {s : List UInt8} (h : s ∈ b) : isIn (shs m (a ++ b)) (shN s m : Nat) = true :=
  isIn_true.2 ⟨_, (mem_shs _ _ _).2 ⟨shN_lt s hm, s, List.mem_append_right _ h, rfl⟩, rfl⟩
theorem sets_pf (n : Int) (a b : List (List UInt8)) (hma : a.length ≤ maxLen) (hmb : b.length ≤ maxLen) : PFx Try.prog 6 [.int .i64 n, .sl (a.map .str) a.length, .sl (b.map .str) b.length] (.bool true) := by
  refine PFx_of_W (rc := rc6) (rs := rs6) Try.func6 rfl T7_ok hm (by kernel_rfl) (by kernel_rfl) (by simp [Try.ntmps6]) ?_
  have hma' : a.length ≤ 9223372036854775807 := Nat.le_trans hma (by decide)
  have hmb' : b.length ≤ 9223372036854775807 := Nat.le_trans hmb (by decide)
  by_cases hfa : few a
  · by_cases hfb : few b
    · have ha : a.length ≤ 1000000 ∧ ∀ s ∈ a, s.length ≤ 1000000 := ⟨by have := hfa.1; omega, fun s hs => by have := hfa.2 s hs; omega⟩
      have hb : b.length ≤ 1000000 ∧ ∀ s ∈ b, s.length ≤ 1000000 := ⟨by have := hfb.1; omega, fun s hs => by have := hfb.2 s hs; omega⟩
      have hab : (a ++ b).length ≤ 1000000 ∧ ∀ s ∈ a ++ b, s.length ≤ 1000000 := ⟨by simp; have := hfb.1; have := hfa.1; omega, fun s hs => by
        rcases List.mem_append.1 hs with hs | hs
        · exact ha.2 s hs
        · exact hb.2 s hs⟩
      by_cases hn : 1 ≤ n ∧ n ≤ 8
      · obtain ⟨m, rfl⟩ := Int.eq_ofNat_of_zero_le (show 0 ≤ n by omega)
        have h3 : ¬ (m : Int) < 1 := by omega
        have h4 : ¬ (8 : Int) < m := by omega
        have hm0 : 0 < m := by omega
        have e1 := T16_eq m a ha
        have e2 := T16_eq m b hb
        have e3 := T16_eq m (a ++ b) hab
        simp [hn] at e1 e2 e3
        have l1 := shs_len m a; have l2 := shs_len m b; have l3 := shs_len m (a ++ b)
        have l1' : (shs m a).length ≤ 1000000 := by omega
        have l2' : (shs m b).length ≤ 1000000 := by omega
        have l3' : (shs m (a ++ b)).length ≤ 1000000 := by omega
        have la := hfa.1; have lb := hfb.1
        simp [rc6, rs6, hma', hmb', hfa, hfb, h3, h4, e1, e2, e3]
        refine ⟨by omega, by omega, ?_⟩
        refine W_forU (shs m (a ++ b)).length (fun _ => True) (fun k => [(10, .int .i64 k)]) trivial (by simp) (fun k hk _ => ?_) fun _ => ?_
        · have hmem := List.getElem_mem hk
          have q1 := ((mem_shs _ _ _).1 hmem).1
          have q2 : ¬ ((shs m (a ++ b))[k] : Int) < 0 := by omega
          have q3 : ¬ (m : Int) ≤ ((shs m (a ++ b))[k] : Int) := by omega
          have q4 := in_both hmem
          have q5 : ∀ (h : 0 < k), ¬ (((shs m (a ++ b))[k] : Int) ≤ (shs m (a ++ b))[k - 1]'(by omega)) := fun h => by
            have := List.pairwise_iff_getElem.1 (shs_sorted m (a ++ b)) (k - 1) k (by omega) hk (by omega)
            omega
          rcases Nat.eq_zero_or_pos k with rfl | hk0
          · cases i1 : isIn (shs m a) ((shs m (a ++ b))[0] : Nat) with
            | true => simp [hk, q2, q3, i1, l1', l2']; try omega
            | false =>
              have i2 : isIn (shs m b) ((shs m (a ++ b))[0] : Nat) = true := by rcases q4 with q | q; (rw [i1] at q; cases q); exact q
              simp [hk, q2, q3, i1, i2, l1', l2']; try omega
          · have q6 := q5 hk0
            have hk0' : (0 : Int) < k := by omega
            have e4 : ((k : Int) - 1).toNat = k - 1 := by omega
            have e5 : k - 1 < (shs m (a ++ b)).length := by omega
            cases i1 : isIn (shs m a) ((shs m (a ++ b))[k] : Nat) with
            | true => simp [hk, hk0', q2, q3, q6, i1, l1', l2', e4, e5]; try omega
            | false =>
              have i2 : isIn (shs m b) ((shs m (a ++ b))[k] : Nat) = true := by rcases q4 with q | q; (rw [i1] at q; cases q); exact q
              simp [hk, hk0', q2, q3, q6, i1, i2, l1', l2', e4, e5]; try omega
        · simp
          refine W_forU (shs m a).length (fun _ => True) (fun k => [(11, .int .i64 k)]) trivial (by simp) (fun k hk _ => ?_) fun _ => ?_
          · have i1 := in_left (b := b) (List.getElem_mem hk)
            simp [hk, i1, l3']
            omega
          · simp
            refine W_forU b.length (fun _ => True) (fun k => [(12, .int .i64 k)]) trivial (by simp) (fun k hk _ => ?_) fun _ => ?_
            · have i1 := in_text hm0 (a := a) (List.getElem_mem hk)
              have e := T12_eq b[k] m (hb.2 _ (List.getElem_mem hk))
              rw [shI_nat _ _ (by omega)] at e
              simp [hk, e, i1, l3']
              omega
            · simp
      · rcases Int.lt_or_le n 1 with h3 | h3
        · simp [rc6, rs6, hma', hmb', hfa, hfb, h3]
        · have h4 : 8 < n := by omega
          have h3' : ¬ n < 1 := by omega
          simp [rc6, rs6, hma', hmb', hfa, hfb, h3', h4]
    · simp [rc6, rs6, hma', hmb', hfa, hfb]
  · simp [rc6, rs6, hma', hfa]
end Go.Proofs.Ytjljeojfomjefaa

