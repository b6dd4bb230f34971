/- Code of the program, as it is reckoned. -/
import Derived.Test.YtmolcbipiiimgaaProg
import Derived.Test.YtmolcbipiiimgaaE13
set_option linter.unusedVariables false
set_option linter.unusedSimpArgs false
namespace Go.Proofs.Ytmolcbipiiimgaa
open Go.Proofs.Ytmolcbipiiimgaa.Pad
/-- padlock/padlocklaw01.QuillLays -/
def rc3 : RC :=
  (.seq
   (.reg false [⟨(some 4), .box (.t 1), none⟩,
     ⟨(some 6), .mov (.c (.bool false)), none⟩] [0, 2, 4])
   (.seq
    (.seq
     (.reg false [⟨(some 16), .mov (.t 0), none⟩,
       ⟨(some 17), .len false (.t 16), none⟩,
       ⟨(some 18), .bin .gtr true (.t 17) (.c (.int .i64 200)), none⟩,
       ⟨(some 19), .mov (.t 18), none⟩,
       ⟨(some 20), .mov (.t 2), (some (19, false))⟩,
       ⟨(some 21), .call 8 [(false, (.t 20))], (some (19, false))⟩,
       ⟨(some 22), .bin .gtr true (.t 21) (.c (.int .i64 0)), (some (19, false))⟩,
       ⟨(some 23), .pick (.t 19) (.c (.bool true)) (.t 22), none⟩] [0, 2, 4, 23])
     (.cond 23
      (.seq
       (.reg false [⟨(some 24), .call 9 [], none⟩,
         ⟨(some 6), .mov (.t 24), none⟩] [6])
       .ret)
      .skip))
    (.seq
     (.reg false [⟨(some 25), .idxB 4 1 2 (.c (.int .i64 0)), none⟩,
       ⟨(some 26), .loadR 25 4 1 false, none⟩,
       ⟨(some 27), .bin .rem false (.t 26) (.c (.int .u64 12)), none⟩,
       ⟨(some 28), .conv true .i64 (.t 27), none⟩,
       ⟨(some 29), .bin .sub true (.t 28) (.c (.int .i64 1)), none⟩,
       ⟨(some 7), .mov (.t 29), none⟩] [0, 2, 4, 7])
     (.seq
      (.reg false [⟨(some 31), .mov (.t 0), none⟩,
        ⟨(some 32), .mov (.t 0), none⟩,
        ⟨(some 33), .b2s (.t 32), none⟩,
        ⟨(some 34), .call 10 [(false, (.t 31)), (false, (.t 33))], none⟩,
        ⟨(some 30), .mov (.t 34), none⟩,
        ⟨(some 35), .ext (.t 30) 0, none⟩,
        ⟨(some 36), .ext (.t 30) 1, none⟩,
        ⟨(some 8), .steal 35, none⟩,
        ⟨(some 9), .mov (.t 36), none⟩] [0, 2, 4, 7, 8, 9])
      (.seq
       (.reg false [⟨(some 38), .mov (.t 0), none⟩,
         ⟨(some 39), .mov (.t 0), none⟩,
         ⟨(some 40), .b2s (.t 39), none⟩,
         ⟨(some 41), .call 11 [(false, (.t 38)), (false, (.t 40))], none⟩,
         ⟨(some 37), .mov (.t 41), none⟩,
         ⟨(some 42), .ext (.t 37) 0, none⟩,
         ⟨(some 43), .ext (.t 37) 1, none⟩,
         ⟨(some 10), .steal 42, none⟩,
         ⟨(some 11), .mov (.t 43), none⟩] [0, 2, 4, 7, 8, 9, 10, 11])
       (.seq
        (.reg false [⟨(some 45), .mov (.t 2), none⟩,
          ⟨(some 46), .call 12 [(false, (.t 45))], none⟩,
          ⟨(some 44), .mov (.t 46), none⟩,
          ⟨(some 47), .ext (.t 44) 0, none⟩,
          ⟨(some 48), .ext (.t 44) 1, none⟩,
          ⟨(some 12), .steal 47, none⟩,
          ⟨(some 13), .mov (.t 48), none⟩] [0, 2, 4, 7, 8, 9, 10, 11, 12, 13])
        (.seq
         (.reg false [⟨(some 50), .mov (.t 2), none⟩,
           ⟨(some 51), .call 13 [(false, (.t 50))], none⟩,
           ⟨(some 49), .mov (.t 51), none⟩,
           ⟨(some 52), .ext (.t 49) 0, none⟩,
           ⟨(some 53), .ext (.t 49) 1, none⟩,
           ⟨(some 14), .steal 52, none⟩,
           ⟨(some 15), .mov (.t 53), none⟩] [0, 4, 7, 8, 9, 10, 11, 12, 13, 14, 15])
         (.seq
          (.reg true [⟨(some 54), .mov (.t 0), none⟩,
            ⟨(some 55), .mov (.t 7), none⟩,
            ⟨(some 56), .idxB 4 1 2 (.c (.int .i64 1)), none⟩,
            ⟨(some 57), .loadR 56 4 1 false, none⟩,
            ⟨(some 58), .call 14 [(false, (.t 54)), (false, (.t 55)), (false, (.t 57))], none⟩,
            ⟨(some 59), .b2s (.t 58), none⟩,
            ⟨(some 60), .mov (.t 0), none⟩,
            ⟨(some 61), .mov (.t 7), none⟩,
            ⟨(some 62), .idxB 4 1 2 (.c (.int .i64 1)), none⟩,
            ⟨(some 63), .loadR 62 4 1 false, none⟩,
            ⟨(some 64), .call 15 [(false, (.t 60)), (false, (.t 61)), (false, (.t 63))], none⟩,
            ⟨(some 65), .b2s (.t 64), none⟩,
            ⟨(some 66), .bin .eql false (.t 59) (.t 65), none⟩,
            ⟨(some 67), .mov (.t 66), none⟩,
            ⟨(some 68), .mov (.t 8), (some (67, true))⟩,
            ⟨(some 69), .b2s (.t 68), (some (67, true))⟩,
            ⟨(some 70), .mov (.t 10), (some (67, true))⟩,
            ⟨(some 71), .b2s (.t 70), (some (67, true))⟩,
            ⟨(some 72), .bin .eql false (.t 69) (.t 71), (some (67, true))⟩,
            ⟨(some 73), .pick (.t 67) (.t 72) (.c (.bool false)), none⟩,
            ⟨(some 74), .mov (.t 73), none⟩,
            ⟨(some 75), .mov (.t 9), (some (74, true))⟩,
            ⟨(some 76), .mov (.t 11), (some (74, true))⟩,
            ⟨(some 77), .bin .eql true (.t 75) (.t 76), (some (74, true))⟩,
            ⟨(some 78), .pick (.t 74) (.t 77) (.c (.bool false)), none⟩,
            ⟨(some 79), .mov (.t 78), none⟩,
            ⟨(some 80), .mov (.t 12), (some (79, true))⟩,
            ⟨(some 81), .b2s (.t 80), (some (79, true))⟩,
            ⟨(some 82), .mov (.t 14), (some (79, true))⟩,
            ⟨(some 83), .b2s (.t 82), (some (79, true))⟩,
            ⟨(some 84), .bin .eql false (.t 81) (.t 83), (some (79, true))⟩,
            ⟨(some 85), .pick (.t 79) (.t 84) (.c (.bool false)), none⟩,
            ⟨(some 86), .mov (.t 85), none⟩,
            ⟨(some 87), .mov (.t 13), (some (86, true))⟩,
            ⟨(some 88), .mov (.t 15), (some (86, true))⟩,
            ⟨(some 89), .bin .eql true (.t 87) (.t 88), (some (86, true))⟩,
            ⟨(some 90), .pick (.t 86) (.t 89) (.c (.bool false)), none⟩,
            ⟨(some 91), .mov (.t 90), none⟩,
            ⟨(some 92), .call 9 [], (some (91, true))⟩,
            ⟨(some 93), .pick (.t 91) (.t 92) (.c (.bool false)), none⟩,
            ⟨(some 6), .mov (.t 93), none⟩] [6])
          .ret))))))))
def rs3 : List RS := [.tmp 6]

/-- padlock/padlocklaw01.QuillScans -/
def rc4 : RC :=
  (.seq
   (.reg false [⟨(some 2), .box (.t 0), none⟩,
     ⟨(some 4), .mov (.c (.bool false)), none⟩] [1, 2])
   (.seq
    (.seq
     (.reg false [⟨(some 15), .fldB 2 0, none⟩,
       ⟨(some 16), .loadR 15 2 1 false, none⟩,
       ⟨(some 17), .len true (.t 16), none⟩,
       ⟨(some 18), .bin .gtr true (.t 17) (.c (.int .i64 400)), none⟩,
       ⟨(some 19), .mov (.t 18), none⟩,
       ⟨(some 20), .mov (.t 1), (some (19, false))⟩,
       ⟨(some 21), .len false (.t 20), (some (19, false))⟩,
       ⟨(some 22), .bin .gtr true (.t 21) (.c (.int .i64 40)), (some (19, false))⟩,
       ⟨(some 23), .pick (.t 19) (.c (.bool true)) (.t 22), none⟩] [1, 2, 23])
     (.cond 23
      (.seq
       (.reg false [⟨(some 24), .call 9 [], none⟩,
         ⟨(some 4), .mov (.t 24), none⟩] [4])
       .ret)
      .skip))
    (.seq
     (.reg false [⟨(some 25), .loadB 2 3 true, none⟩,
       ⟨(some 26), .call 16 [(false, (.t 25))], none⟩,
       ⟨(some 5), .alloc [(.str []), (.int .i64 0), (.int .i64 0)], none⟩,
       ⟨none, .stB 5 3 (.t 26), none⟩] [1, 2, 5])
     (.seq
      (.seq
       (.reg false [⟨(some 6), .mov (.c (.int .i64 0)), none⟩] [1, 2, 5, 6])
       (.block 0
        (.loop
         (.seq
          (.seq
           (.reg false [⟨(some 27), .mov (.t 6), none⟩,
             ⟨(some 28), .mov (.t 1), none⟩,
             ⟨(some 29), .len false (.t 28), none⟩,
             ⟨(some 30), .bin .leq true (.t 27) (.t 29), none⟩] [1, 2, 5, 6, 30])
           (.cond 30
            .skip
            (.exit 0)))
          (.seq
           (.block 1
            (.seq
             (.seq
              (.reg true [⟨(some 33), .loadB 5 3 true, none⟩,
                ⟨(some 34), .call 17 [(false, (.t 33))], none⟩,
                ⟨(some 35), .loadB 2 3 true, none⟩,
                ⟨(some 36), .call 18 [(false, (.t 35))], none⟩,
                ⟨(some 37), .bin .neq false (.t 34) (.t 36), none⟩,
                ⟨(some 38), .mov (.t 37), none⟩,
                ⟨(some 39), .loadB 5 3 true, (some (38, false))⟩,
                ⟨(some 40), .call 19 [(false, (.t 39))], (some (38, false))⟩,
                ⟨(some 41), .loadB 2 3 true, (some (38, false))⟩,
                ⟨(some 42), .call 20 [(false, (.t 41))], (some (38, false))⟩,
                ⟨(some 43), .bin .neq true (.t 40) (.t 42), (some (38, false))⟩,
                ⟨(some 44), .pick (.t 38) (.c (.bool true)) (.t 43), none⟩,
                ⟨(some 45), .mov (.t 44), none⟩,
                ⟨(some 46), .loadB 5 3 true, (some (45, false))⟩,
                ⟨(some 47), .call 21 [(false, (.t 46))], (some (45, false))⟩,
                ⟨(some 48), .loadB 2 3 true, (some (45, false))⟩,
                ⟨(some 49), .beq true (some [.s, .i, .i]) (.t 47) (.t 48), (some (45, false))⟩,
                ⟨(some 50), .pick (.t 45) (.c (.bool true)) (.t 49), none⟩] [1, 2, 5, 6, 50])
              (.cond 50
               (.seq
                (.reg false [⟨(some 4), .mov (.c (.bool false)), none⟩] [4])
                .ret)
               .skip))
             (.seq
              (.seq
               (.reg false [⟨(some 51), .mov (.t 6), none⟩,
                 ⟨(some 52), .mov (.t 1), none⟩,
                 ⟨(some 53), .len false (.t 52), none⟩,
                 ⟨(some 54), .bin .eql true (.t 51) (.t 53), none⟩] [1, 2, 5, 6, 54])
               (.cond 54
                (.seq
                 (.reg false [⟨(some 55), .call 9 [], none⟩,
                   ⟨(some 4), .mov (.t 55), none⟩] [4])
                 .ret)
                .skip))
              (.seq
               (.seq
                (.reg false [⟨(some 56), .mov (.t 1), none⟩,
                  ⟨(some 57), .mov (.t 6), none⟩,
                  ⟨(some 58), .idxA 1 (.t 56) (.t 57), none⟩,
                  ⟨(some 59), .loadP (.t 58) 1 false, none⟩,
                  ⟨(some 60), .bin .lss true (.t 59) (.c (.int .i64 0)), none⟩] [1, 2, 5, 6, 60])
                (.cond 60
                 (.seq
                  (.reg false [⟨(some 62), .loadB 5 3 true, none⟩,
                    ⟨(some 63), .call 22 [(false, (.t 62))], none⟩,
                    ⟨(some 61), .mov (.t 63), none⟩,
                    ⟨(some 64), .ext (.t 61) 0, none⟩,
                    ⟨(some 65), .ext (.t 61) 1, none⟩,
                    ⟨(some 8), .alloc [(.str []), (.int .i64 0), (.int .i64 0)], none⟩,
                    ⟨(some 7), .mov (.t 64), none⟩,
                    ⟨none, .stB 8 3 (.t 65), none⟩] [1, 2, 5, 6, 7, 8])
                  (.seq
                   (.reg false [⟨(some 67), .loadB 2 3 true, none⟩,
                     ⟨(some 68), .call 23 [(false, (.t 67))], none⟩,
                     ⟨(some 66), .mov (.t 68), none⟩,
                     ⟨(some 69), .ext (.t 66) 0, none⟩,
                     ⟨(some 70), .ext (.t 66) 1, none⟩,
                     ⟨(some 10), .alloc [(.str []), (.int .i64 0), (.int .i64 0)], none⟩,
                     ⟨(some 9), .mov (.t 69), none⟩,
                     ⟨none, .stB 10 3 (.t 70), none⟩] [1, 2, 5, 6, 7, 8, 9, 10])
                   (.seq
                    (.seq
                     (.reg false [⟨(some 71), .mov (.t 7), none⟩,
                       ⟨(some 72), .mov (.t 9), none⟩,
                       ⟨(some 73), .bin .neq false (.t 71) (.t 72), none⟩] [1, 2, 5, 6, 8, 10, 73])
                     (.cond 73
                      (.seq
                       (.reg false [⟨(some 4), .mov (.c (.bool false)), none⟩] [4])
                       .ret)
                      .skip))
                    (.seq
                     (.reg true [⟨(some 74), .loadB 8 3 true, none⟩,
                       ⟨(some 75), .loadB 10 3 true, none⟩,
                       ⟨none, .stB 5 3 (.t 74), none⟩,
                       ⟨none, .stB 2 3 (.t 75), none⟩] [1, 2, 5, 6])
                     (.exit 1)))))
                 .skip))
               (.seq
                (.reg true [⟨(some 77), .loadB 5 3 true, none⟩,
                  ⟨(some 78), .mov (.t 1), none⟩,
                  ⟨(some 79), .mov (.t 6), none⟩,
                  ⟨(some 80), .idxA 1 (.t 78) (.t 79), none⟩,
                  ⟨(some 81), .loadP (.t 80) 1 false, none⟩,
                  ⟨(some 82), .call 24 [(false, (.t 77)), (false, (.t 81))], none⟩,
                  ⟨(some 76), .mov (.t 82), none⟩,
                  ⟨(some 83), .ext (.t 76) 0, none⟩,
                  ⟨(some 84), .ext (.t 76) 1, none⟩,
                  ⟨(some 12), .alloc [(.str []), (.int .i64 0), (.int .i64 0)], none⟩,
                  ⟨(some 11), .mov (.t 83), none⟩,
                  ⟨none, .stB 12 3 (.t 84), none⟩] [1, 2, 5, 6, 11, 12])
                (.seq
                 (.reg true [⟨(some 86), .loadB 2 3 true, none⟩,
                   ⟨(some 87), .mov (.t 1), none⟩,
                   ⟨(some 88), .mov (.t 6), none⟩,
                   ⟨(some 89), .idxA 1 (.t 87) (.t 88), none⟩,
                   ⟨(some 90), .loadP (.t 89) 1 false, none⟩,
                   ⟨(some 91), .call 25 [(false, (.t 86)), (false, (.t 90))], none⟩,
                   ⟨(some 85), .mov (.t 91), none⟩,
                   ⟨(some 92), .ext (.t 85) 0, none⟩,
                   ⟨(some 93), .ext (.t 85) 1, none⟩,
                   ⟨(some 14), .alloc [(.str []), (.int .i64 0), (.int .i64 0)], none⟩,
                   ⟨(some 13), .mov (.t 92), none⟩,
                   ⟨none, .stB 14 3 (.t 93), none⟩] [1, 2, 5, 6, 11, 12, 13, 14])
                 (.seq
                  (.seq
                   (.reg false [⟨(some 94), .mov (.t 11), none⟩,
                     ⟨(some 95), .mov (.t 13), none⟩,
                     ⟨(some 96), .bin .neq false (.t 94) (.t 95), none⟩] [1, 2, 5, 6, 12, 14, 96])
                   (.cond 96
                    (.seq
                     (.reg false [⟨(some 4), .mov (.c (.bool false)), none⟩] [4])
                     .ret)
                    .skip))
                  (.reg true [⟨(some 97), .loadB 12 3 true, none⟩,
                    ⟨(some 98), .loadB 14 3 true, none⟩,
                    ⟨none, .stB 5 3 (.t 97), none⟩,
                    ⟨none, .stB 2 3 (.t 98), none⟩] [1, 2, 5, 6]))))))))
           (.reg false [⟨(some 31), .mov (.t 6), none⟩,
             ⟨(some 32), .bin .add true (.t 31) (.c (.int .i64 1)), none⟩,
             ⟨(some 6), .mov (.t 32), none⟩] [1, 2, 5, 6]))))))
      (.seq
       (.reg false [⟨(some 99), .call 9 [], none⟩,
         ⟨(some 4), .mov (.t 99), none⟩] [4])
       .ret)))))
def rs4 : List RS := [.tmp 4]

/-- padlock/padlocklaw01.QuillSplits -/
def rc5 : RC :=
  (.seq
   (.reg false [⟨(some 2), .mov (.c (.bool false)), none⟩] [0])
   (.seq
    (.seq
     (.reg false [⟨(some 7), .mov (.t 0), none⟩,
       ⟨(some 8), .len true (.t 7), none⟩,
       ⟨(some 9), .bin .gtr true (.t 8) (.c (.int .i64 400)), none⟩] [0, 9])
     (.cond 9
      (.seq
       (.reg false [⟨(some 10), .call 9 [], none⟩,
         ⟨(some 2), .mov (.t 10), none⟩] [2])
       .ret)
      .skip))
    (.seq
     (.reg false [⟨(some 12), .mov (.t 0), none⟩,
       ⟨(some 13), .call 26 [(false, (.t 12))], none⟩,
       ⟨(some 11), .mov (.t 13), none⟩,
       ⟨(some 14), .ext (.t 11) 0, none⟩,
       ⟨(some 15), .ext (.t 11) 1, none⟩,
       ⟨(some 3), .steal 14, none⟩,
       ⟨(some 4), .mov (.t 15), none⟩] [0, 3, 4])
     (.seq
      (.reg false [⟨(some 17), .mov (.t 0), none⟩,
        ⟨(some 18), .call 27 [(false, (.t 17))], none⟩,
        ⟨(some 16), .mov (.t 18), none⟩,
        ⟨(some 19), .ext (.t 16) 0, none⟩,
        ⟨(some 20), .ext (.t 16) 1, none⟩,
        ⟨(some 5), .steal 19, none⟩,
        ⟨(some 6), .mov (.t 20), none⟩] [3, 4, 5, 6])
      (.seq
       (.reg false [⟨(some 21), .mov (.t 3), none⟩,
         ⟨(some 22), .mov (.t 5), none⟩,
         ⟨(some 23), .call 28 [(false, (.t 21)), (false, (.t 22))], none⟩,
         ⟨(some 24), .mov (.t 23), none⟩,
         ⟨(some 25), .mov (.t 4), (some (24, true))⟩,
         ⟨(some 26), .mov (.t 6), (some (24, true))⟩,
         ⟨(some 27), .bin .eql true (.t 25) (.t 26), (some (24, true))⟩,
         ⟨(some 28), .pick (.t 24) (.t 27) (.c (.bool false)), none⟩,
         ⟨(some 29), .mov (.t 28), none⟩,
         ⟨(some 30), .call 9 [], (some (29, true))⟩,
         ⟨(some 31), .pick (.t 29) (.t 30) (.c (.bool false)), none⟩,
         ⟨(some 2), .mov (.t 31), none⟩] [2])
       .ret)))))
def rs5 : List RS := [.tmp 2]

/-- padlock/padlocklaw01.QuillBack -/
def rc6 : RC :=
  (.seq
   (.reg false [⟨(some 5), .box (.t 2), none⟩,
     ⟨(some 6), .mov (.c (.bool false)), none⟩] [0, 1, 5])
   (.seq
    (.seq
     (.reg false [⟨(some 15), .mov (.t 0), none⟩,
       ⟨(some 16), .len false (.t 15), none⟩,
       ⟨(some 17), .bin .gtr true (.t 16) (.c (.int .i64 200)), none⟩,
       ⟨(some 18), .mov (.t 17), none⟩,
       ⟨(some 19), .idxB 5 1 2 (.c (.int .i64 0)), (some (18, false))⟩,
       ⟨(some 20), .loadR 19 5 1 false, (some (18, false))⟩,
       ⟨(some 21), .len true (.t 20), (some (18, false))⟩,
       ⟨(some 22), .bin .gtr true (.t 21) (.c (.int .i64 200)), (some (18, false))⟩,
       ⟨(some 23), .pick (.t 18) (.c (.bool true)) (.t 22), none⟩,
       ⟨(some 24), .mov (.t 23), none⟩,
       ⟨(some 25), .idxB 5 1 2 (.c (.int .i64 1)), (some (24, false))⟩,
       ⟨(some 26), .loadR 25 5 1 false, (some (24, false))⟩,
       ⟨(some 27), .len true (.t 26), (some (24, false))⟩,
       ⟨(some 28), .bin .gtr true (.t 27) (.c (.int .i64 200)), (some (24, false))⟩,
       ⟨(some 29), .pick (.t 24) (.c (.bool true)) (.t 28), none⟩] [0, 1, 5, 29])
     (.cond 29
      (.seq
       (.reg false [⟨(some 30), .call 9 [], none⟩,
         ⟨(some 6), .mov (.t 30), none⟩] [6])
       .ret)
      .skip))
    (.seq
     (.reg false [⟨(some 31), .mov (.t 1), none⟩,
       ⟨(some 32), .bin .rem false (.t 31) (.c (.int .u64 8)), none⟩,
       ⟨(some 33), .conv true .i64 (.t 32), none⟩,
       ⟨(some 34), .bin .add true (.c (.int .i64 1)) (.t 33), none⟩,
       ⟨(some 7), .mov (.t 34), none⟩] [0, 1, 5, 7])
     (.seq
      (.reg false [⟨(some 35), .mov (.t 0), none⟩,
        ⟨(some 36), .mov (.t 7), none⟩,
        ⟨(some 37), .mov (.t 1), none⟩,
        ⟨(some 38), .call 14 [(false, (.t 35)), (false, (.t 36)), (false, (.t 37))], none⟩,
        ⟨(some 8), .steal 38, none⟩] [0, 1, 5, 7, 8])
      (.seq
       (.reg false [⟨(some 40), .mov (.t 8), none⟩,
         ⟨(some 41), .idxB 5 1 2 (.c (.int .i64 0)), none⟩,
         ⟨(some 42), .loadR 41 5 1 false, none⟩,
         ⟨(some 43), .call 10 [(false, (.t 40)), (false, (.t 42))], none⟩,
         ⟨(some 39), .mov (.t 43), none⟩,
         ⟨(some 44), .ext (.t 39) 0, none⟩,
         ⟨(some 45), .ext (.t 39) 1, none⟩,
         ⟨(some 9), .steal 44, none⟩,
         ⟨(some 10), .mov (.t 45), none⟩] [0, 1, 5, 7, 8, 9, 10])
       (.seq
        (.seq
         (.reg true [⟨(some 46), .mov (.t 10), none⟩,
           ⟨(some 47), .bin .neq true (.t 46) (.c (.int .i64 0)), none⟩,
           ⟨(some 48), .mov (.t 47), none⟩,
           ⟨(some 49), .mov (.t 8), (some (48, false))⟩,
           ⟨(some 50), .len false (.t 49), (some (48, false))⟩,
           ⟨(some 51), .mov (.t 0), (some (48, false))⟩,
           ⟨(some 52), .len false (.t 51), (some (48, false))⟩,
           ⟨(some 53), .mov (.t 7), (some (48, false))⟩,
           ⟨(some 54), .bin .add true (.t 52) (.t 53), (some (48, false))⟩,
           ⟨(some 55), .bin .neq true (.t 50) (.t 54), (some (48, false))⟩,
           ⟨(some 56), .pick (.t 48) (.c (.bool true)) (.t 55), none⟩,
           ⟨(some 57), .mov (.t 56), none⟩,
           ⟨(some 58), .mov (.t 9), (some (57, false))⟩,
           ⟨(some 59), .len false (.t 58), (some (57, false))⟩,
           ⟨(some 60), .mov (.t 8), (some (57, false))⟩,
           ⟨(some 61), .len false (.t 60), (some (57, false))⟩,
           ⟨(some 62), .bin .add true (.t 61) (.c (.int .i64 2)), (some (57, false))⟩,
           ⟨(some 63), .idxB 5 1 2 (.c (.int .i64 0)), (some (57, false))⟩,
           ⟨(some 64), .loadR 63 5 1 false, (some (57, false))⟩,
           ⟨(some 65), .len true (.t 64), (some (57, false))⟩,
           ⟨(some 66), .bin .add true (.t 62) (.t 65), (some (57, false))⟩,
           ⟨(some 67), .bin .neq true (.t 59) (.t 66), (some (57, false))⟩,
           ⟨(some 68), .pick (.t 57) (.c (.bool true)) (.t 67), none⟩,
           ⟨(some 69), .mov (.t 68), none⟩,
           ⟨(some 70), .mov (.t 8), (some (69, false))⟩,
           ⟨(some 71), .mov (.t 0), (some (69, false))⟩,
           ⟨(some 72), .len false (.t 71), (some (69, false))⟩,
           ⟨(some 73), .slsl 1 (.t 70) none (some (.t 72)), (some (69, false))⟩,
           ⟨(some 74), .b2s (.t 73), (some (69, false))⟩,
           ⟨(some 75), .mov (.t 0), (some (69, false))⟩,
           ⟨(some 76), .b2s (.t 75), (some (69, false))⟩,
           ⟨(some 77), .bin .neq false (.t 74) (.t 76), (some (69, false))⟩,
           ⟨(some 78), .pick (.t 69) (.c (.bool true)) (.t 77), none⟩] [0, 1, 5, 7, 9, 78])
         (.cond 78
          (.seq
           (.reg false [⟨(some 6), .mov (.c (.bool false)), none⟩] [6])
           .ret)
          .skip))
        (.seq
         (.reg false [⟨(some 80), .mov (.t 9), none⟩,
           ⟨(some 81), .b2s (.t 80), none⟩,
           ⟨(some 82), .idxB 5 1 2 (.c (.int .i64 1)), none⟩,
           ⟨(some 83), .loadR 82 5 1 false, none⟩,
           ⟨(some 84), .bin .add false (.t 81) (.t 83), none⟩,
           ⟨(some 85), .mov (.t 0), none⟩,
           ⟨(some 86), .len false (.t 85), none⟩,
           ⟨(some 87), .build [(.str []), (.int .i64 0), (.int .i64 0)] [(0, 1, (.t 84)), (1, 1, (.t 86))], none⟩,
           ⟨(some 88), .mov (.t 7), none⟩,
           ⟨(some 89), .call 24 [(false, (.t 87)), (false, (.t 88))], none⟩,
           ⟨(some 79), .mov (.t 89), none⟩,
           ⟨(some 90), .ext (.t 79) 0, none⟩,
           ⟨(some 91), .ext (.t 79) 1, none⟩,
           ⟨(some 12), .alloc [(.str []), (.int .i64 0), (.int .i64 0)], none⟩,
           ⟨(some 11), .mov (.t 90), none⟩,
           ⟨none, .stB 12 3 (.t 91), none⟩] [1, 5, 7, 11, 12])
         (.seq
          (.reg false [⟨(some 93), .loadB 12 3 true, none⟩,
            ⟨(some 94), .call 22 [(false, (.t 93))], none⟩,
            ⟨(some 92), .mov (.t 94), none⟩,
            ⟨(some 95), .ext (.t 92) 0, none⟩,
            ⟨(some 96), .ext (.t 92) 1, none⟩,
            ⟨(some 14), .alloc [(.str []), (.int .i64 0), (.int .i64 0)], none⟩,
            ⟨(some 13), .mov (.t 95), none⟩,
            ⟨none, .stB 14 3 (.t 96), none⟩] [1, 5, 7, 11, 13, 14])
          (.seq
           (.seq
            (.reg true [⟨(some 97), .mov (.t 7), none⟩,
              ⟨(some 98), .bin .lss true (.t 97) (.c (.int .i64 8)), none⟩,
              ⟨(some 99), .mov (.t 98), none⟩,
              ⟨(some 100), .mov (.t 11), (some (99, true))⟩,
              ⟨(some 101), .mov (.t 1), (some (99, true))⟩,
              ⟨(some 102), .mov (.t 7), (some (99, true))⟩,
              ⟨(some 103), .bin .mul true (.c (.int .i64 8)) (.t 102), (some (99, true))⟩,
              ⟨(some 104), .conv true .u64 (.t 103), (some (99, true))⟩,
              ⟨(some 105), .bin .shl false (.c (.int .u64 1)) (.t 104), (some (99, true))⟩,
              ⟨(some 106), .bin .rem false (.t 101) (.t 105), (some (99, true))⟩,
              ⟨(some 107), .bin .neq false (.t 100) (.t 106), (some (99, true))⟩,
              ⟨(some 108), .pick (.t 99) (.t 107) (.c (.bool false)), none⟩,
              ⟨(some 109), .mov (.t 108), none⟩,
              ⟨(some 110), .mov (.t 7), (some (109, false))⟩,
              ⟨(some 111), .bin .eql true (.t 110) (.c (.int .i64 8)), (some (109, false))⟩,
              ⟨(some 112), .mov (.t 111), (some (109, false))⟩,
              ⟨(some 113), .mov (.t 11), (some (112, true))⟩,
              ⟨(some 114), .mov (.t 1), (some (112, true))⟩,
              ⟨(some 115), .bin .neq false (.t 113) (.t 114), (some (112, true))⟩,
              ⟨(some 116), .pick (.t 112) (.t 115) (.c (.bool false)), (some (109, false))⟩,
              ⟨(some 117), .pick (.t 109) (.c (.bool true)) (.t 116), none⟩,
              ⟨(some 118), .mov (.t 117), none⟩,
              ⟨(some 119), .mov (.t 13), (some (118, false))⟩,
              ⟨(some 120), .idxB 5 1 2 (.c (.int .i64 0)), (some (118, false))⟩,
              ⟨(some 121), .loadR 120 5 1 false, (some (118, false))⟩,
              ⟨(some 122), .bin .neq false (.t 119) (.t 121), (some (118, false))⟩,
              ⟨(some 123), .pick (.t 118) (.c (.bool true)) (.t 122), none⟩,
              ⟨(some 124), .mov (.t 123), none⟩,
              ⟨(some 125), .fldB 14 2, (some (124, false))⟩,
              ⟨(some 126), .loadR 125 14 1 false, (some (124, false))⟩,
              ⟨(some 127), .bin .neq true (.t 126) (.c (.int .i64 0)), (some (124, false))⟩,
              ⟨(some 128), .pick (.t 124) (.c (.bool true)) (.t 127), none⟩,
              ⟨(some 129), .mov (.t 128), none⟩,
              ⟨(some 130), .loadB 14 3 true, (some (129, false))⟩,
              ⟨(some 131), .call 17 [(false, (.t 130))], (some (129, false))⟩,
              ⟨(some 132), .idxB 5 1 2 (.c (.int .i64 1)), (some (129, false))⟩,
              ⟨(some 133), .loadR 132 5 1 false, (some (129, false))⟩,
              ⟨(some 134), .bin .neq false (.t 131) (.t 133), (some (129, false))⟩,
              ⟨(some 135), .pick (.t 129) (.c (.bool true)) (.t 134), none⟩] [5, 14, 135])
            (.cond 135
             (.seq
              (.reg false [⟨(some 6), .mov (.c (.bool false)), none⟩] [6])
              .ret)
             .skip))
           (.seq
            (.reg true [⟨(some 136), .loadB 14 3 true, none⟩,
              ⟨(some 137), .call 19 [(false, (.t 136))], none⟩,
              ⟨(some 138), .bin .eql true (.t 137) (.c (.int .i64 0)), none⟩,
              ⟨(some 139), .idxB 5 1 2 (.c (.int .i64 1)), none⟩,
              ⟨(some 140), .loadR 139 5 1 false, none⟩,
              ⟨(some 141), .bin .eql false (.t 140) (.c (.str [])), none⟩,
              ⟨(some 142), .beq false none (.t 138) (.t 141), none⟩,
              ⟨(some 143), .mov (.t 142), none⟩,
              ⟨(some 144), .call 9 [], (some (143, true))⟩,
              ⟨(some 145), .pick (.t 143) (.t 144) (.c (.bool false)), none⟩,
              ⟨(some 6), .mov (.t 145), none⟩] [6])
            .ret))))))))))
def rs6 : List RS := [.tmp 6]

/-- padlock/padlocklaw01.QuillRows -/
def rc7 : RC :=
  (.seq
   (.reg false [⟨(some 4), .mov (.c (.bool false)), none⟩] [0, 1])
   (.seq
    (.seq
     (.reg false [⟨(some 14), .mov (.t 0), none⟩,
       ⟨(some 15), .call 8 [(false, (.t 14))], none⟩,
       ⟨(some 16), .bin .gtr true (.t 15) (.c (.int .i64 0)), none⟩,
       ⟨(some 17), .mov (.t 16), none⟩,
       ⟨(some 18), .mov (.t 1), (some (17, false))⟩,
       ⟨(some 19), .call 8 [(false, (.t 18))], (some (17, false))⟩,
       ⟨(some 20), .bin .gtr true (.t 19) (.c (.int .i64 0)), (some (17, false))⟩,
       ⟨(some 21), .pick (.t 17) (.c (.bool true)) (.t 20), none⟩] [0, 1, 21])
     (.cond 21
      (.seq
       (.reg false [⟨(some 22), .call 9 [], none⟩,
         ⟨(some 4), .mov (.t 22), none⟩] [4])
       .ret)
      .skip))
    (.seq
     (.reg false [⟨(some 24), .mov (.t 0), none⟩,
       ⟨(some 25), .call 12 [(false, (.t 24))], none⟩,
       ⟨(some 23), .mov (.t 25), none⟩,
       ⟨(some 26), .ext (.t 23) 0, none⟩,
       ⟨(some 27), .ext (.t 23) 1, none⟩,
       ⟨(some 5), .steal 26, none⟩,
       ⟨(some 6), .mov (.t 27), none⟩] [0, 1, 5, 6])
     (.seq
      (.reg false [⟨(some 29), .mov (.t 1), none⟩,
        ⟨(some 30), .call 12 [(false, (.t 29))], none⟩,
        ⟨(some 28), .mov (.t 30), none⟩,
        ⟨(some 31), .ext (.t 28) 0, none⟩,
        ⟨(some 32), .ext (.t 28) 1, none⟩,
        ⟨(some 7), .steal 31, none⟩,
        ⟨(some 8), .mov (.t 32), none⟩] [0, 1, 5, 6, 7, 8])
      (.seq
       (.reg false [⟨(some 33), .mov (.t 5), none⟩,
         ⟨(some 34), .b2s (.t 33), none⟩,
         ⟨(some 35), .mov (.t 7), none⟩,
         ⟨(some 36), .b2s (.t 35), none⟩,
         ⟨(some 37), .bin .add false (.t 34) (.t 36), none⟩,
         ⟨(some 9), .mov (.t 37), none⟩] [0, 1, 6, 8, 9])
       (.seq
        (.reg false [⟨(some 39), .mov (.t 9), none⟩,
          ⟨(some 40), .call 26 [(false, (.t 39))], none⟩,
          ⟨(some 38), .mov (.t 40), none⟩,
          ⟨(some 41), .ext (.t 38) 0, none⟩,
          ⟨(some 42), .ext (.t 38) 1, none⟩,
          ⟨(some 10), .steal 41, none⟩,
          ⟨(some 11), .mov (.t 42), none⟩] [0, 1, 6, 8, 9, 10, 11])
        (.seq
         (.seq
          (.reg false [⟨(some 43), .mov (.t 6), none⟩,
            ⟨(some 44), .bin .neq true (.t 43) (.c (.int .i64 0)), none⟩,
            ⟨(some 45), .mov (.t 44), none⟩,
            ⟨(some 46), .mov (.t 8), (some (45, false))⟩,
            ⟨(some 47), .bin .neq true (.t 46) (.c (.int .i64 0)), (some (45, false))⟩,
            ⟨(some 48), .pick (.t 45) (.c (.bool true)) (.t 47), none⟩,
            ⟨(some 49), .mov (.t 48), none⟩,
            ⟨(some 50), .mov (.t 11), (some (49, false))⟩,
            ⟨(some 51), .bin .neq true (.t 50) (.c (.int .i64 0)), (some (49, false))⟩,
            ⟨(some 52), .pick (.t 49) (.c (.bool true)) (.t 51), none⟩,
            ⟨(some 53), .mov (.t 52), none⟩,
            ⟨(some 54), .mov (.t 10), (some (53, false))⟩,
            ⟨(some 55), .mkSl 1 0 [] [], (some (53, false))⟩,
            ⟨(some 56), .mov (.t 0), (some (53, false))⟩,
            ⟨(some 57), .app 1 16 (.t 55) (.t 56), (some (53, false))⟩,
            ⟨(some 58), .mov (.t 1), (some (53, false))⟩,
            ⟨(some 59), .app 1 16 (.t 57) (.t 58), (some (53, false))⟩,
            ⟨(some 60), .call 28 [(false, (.t 54)), (false, (.t 59))], (some (53, false))⟩,
            ⟨(some 61), .un .not (.t 60), (some (53, false))⟩,
            ⟨(some 62), .pick (.t 53) (.c (.bool true)) (.t 61), none⟩] [9, 62])
          (.cond 62
           (.seq
            (.reg false [⟨(some 4), .mov (.c (.bool false)), none⟩] [4])
            .ret)
           .skip))
         (.seq
          (.seq
           (.reg false [⟨(some 63), .mov (.t 9), none⟩,
             ⟨(some 64), .bin .eql false (.t 63) (.c (.str [])), none⟩] [9, 64])
           (.cond 64
            (.seq
             (.reg false [⟨(some 65), .call 9 [], none⟩,
               ⟨(some 4), .mov (.t 65), none⟩] [4])
             .ret)
            .skip))
          (.seq
           (.reg false [⟨(some 67), .mov (.t 9), none⟩,
             ⟨(some 68), .mov (.t 9), none⟩,
             ⟨(some 69), .len true (.t 68), none⟩,
             ⟨(some 70), .bin .sub true (.t 69) (.c (.int .i64 1)), none⟩,
             ⟨(some 71), .ssl (.t 67) none (some (.t 70)), none⟩,
             ⟨(some 72), .call 26 [(false, (.t 71))], none⟩,
             ⟨(some 66), .mov (.t 72), none⟩,
             ⟨(some 73), .ext (.t 66) 0, none⟩,
             ⟨(some 74), .ext (.t 66) 1, none⟩,
             ⟨(some 12), .steal 73, none⟩,
             ⟨(some 13), .mov (.t 74), none⟩] [12, 13])
           (.seq
            (.reg false [⟨(some 75), .mov (.t 12), none⟩,
              ⟨(some 76), .len false (.t 75), none⟩,
              ⟨(some 77), .bin .eql true (.t 76) (.c (.int .i64 0)), none⟩,
              ⟨(some 78), .mov (.t 77), none⟩,
              ⟨(some 79), .mov (.t 13), (some (78, true))⟩,
              ⟨(some 80), .bin .eql true (.t 79) (.c (.int .i64 3)), (some (78, true))⟩,
              ⟨(some 81), .pick (.t 78) (.t 80) (.c (.bool false)), none⟩,
              ⟨(some 82), .mov (.t 81), none⟩,
              ⟨(some 83), .call 9 [], (some (82, true))⟩,
              ⟨(some 84), .pick (.t 82) (.t 83) (.c (.bool false)), none⟩,
              ⟨(some 4), .mov (.t 84), none⟩] [4])
            .ret))))))))))
def rs7 : List RS := [.tmp 4]

/-- padlock/padlocklaw01.Over -/
def rc8 : RC :=
  (.seq
   (.reg false [⟨(some 2), .mov (.c (.int .i64 0)), none⟩] [0])
   (.seq
    (.seq
     (.reg false [⟨(some 4), .mov (.t 0), none⟩,
       ⟨(some 5), .len false (.t 4), none⟩,
       ⟨(some 6), .bin .gtr true (.t 5) (.c (.int .i64 40)), none⟩] [0, 6])
     (.cond 6
      (.seq
       (.reg false [⟨(some 2), .mov (.c (.int .i64 1)), none⟩] [2])
       .ret)
      .skip))
    (.seq
     (.seq
      (.reg false [⟨(some 3), .mov (.c (.int .i64 0)), none⟩] [0, 3])
      (.block 0
       (.loop
        (.seq
         (.seq
          (.reg false [⟨(some 7), .mov (.t 3), none⟩,
            ⟨(some 8), .mov (.t 0), none⟩,
            ⟨(some 9), .len false (.t 8), none⟩,
            ⟨(some 10), .bin .lss true (.t 7) (.t 9), none⟩] [0, 3, 10])
          (.cond 10
           .skip
           (.exit 0)))
         (.seq
          (.block 1
           (.seq
            (.reg false [⟨(some 13), .mov (.t 0), none⟩,
              ⟨(some 14), .mov (.t 3), none⟩,
              ⟨(some 15), .idxA 1 (.t 13) (.t 14), none⟩,
              ⟨(some 16), .loadP (.t 15) 1 false, none⟩,
              ⟨(some 17), .len true (.t 16), none⟩,
              ⟨(some 18), .bin .gtr true (.t 17) (.c (.int .i64 200)), none⟩] [0, 3, 18])
            (.cond 18
             (.seq
              (.reg false [⟨(some 2), .mov (.c (.int .i64 1)), none⟩] [2])
              .ret)
             .skip)))
          (.reg false [⟨(some 11), .mov (.t 3), none⟩,
            ⟨(some 12), .bin .add true (.t 11) (.c (.int .i64 1)), none⟩,
            ⟨(some 3), .mov (.t 12), none⟩] [0, 3]))))))
     (.seq
      (.reg false [⟨(some 2), .mov (.c (.int .i64 0)), none⟩] [2])
      .ret))))
def rs8 : List RS := [.tmp 2]

/-- padlock/padlocklaw01.awake -/
def rc9 : RC :=
  (.seq
   (.reg false [⟨(some 0), .mov (.c (.bool false)), none⟩] [])
   (.seq
    (.reg false [⟨(some 12), .call 14 [(false, (.c (.row 1 [] 0))), (false, (.c (.int .i64 2))), (false, (.c (.int .u64 258)))], none⟩,
      ⟨(some 1), .steal 12, none⟩] [1])
    (.seq
     (.reg false [⟨(some 14), .mov (.t 1), none⟩,
       ⟨(some 15), .call 10 [(false, (.t 14)), (false, (.c (.str [97, 98])))], none⟩,
       ⟨(some 13), .mov (.t 15), none⟩,
       ⟨(some 16), .ext (.t 13) 0, none⟩,
       ⟨(some 17), .ext (.t 13) 1, none⟩,
       ⟨(some 2), .steal 16, none⟩,
       ⟨(some 3), .mov (.t 17), none⟩] [2, 3])
     (.seq
      (.reg false [⟨(some 19), .mov (.t 2), none⟩,
        ⟨(some 20), .b2s (.t 19), none⟩,
        ⟨(some 21), .build [(.str []), (.int .i64 0), (.int .i64 0)] [(0, 1, (.t 20))], none⟩,
        ⟨(some 22), .call 24 [(false, (.t 21)), (false, (.c (.int .i64 2)))], none⟩,
        ⟨(some 18), .mov (.t 22), none⟩,
        ⟨(some 23), .ext (.t 18) 0, none⟩,
        ⟨(some 24), .ext (.t 18) 1, none⟩,
        ⟨(some 5), .alloc [(.str []), (.int .i64 0), (.int .i64 0)], none⟩,
        ⟨(some 4), .mov (.t 23), none⟩,
        ⟨none, .stB 5 3 (.t 24), none⟩] [2, 3, 4, 5])
      (.seq
       (.reg false [⟨(some 26), .loadB 5 3 true, none⟩,
         ⟨(some 27), .call 22 [(false, (.t 26))], none⟩,
         ⟨(some 25), .mov (.t 27), none⟩,
         ⟨(some 28), .ext (.t 25) 0, none⟩,
         ⟨(some 29), .ext (.t 25) 1, none⟩,
         ⟨(some 7), .alloc [(.str []), (.int .i64 0), (.int .i64 0)], none⟩,
         ⟨(some 6), .mov (.t 28), none⟩,
         ⟨none, .stB 7 3 (.t 29), none⟩] [2, 3, 4, 5, 6, 7])
       (.seq
        (.reg false [⟨(some 31), .loadB 7 3 true, none⟩,
          ⟨(some 32), .call 24 [(false, (.t 31)), (false, (.c (.int .i64 1)))], none⟩,
          ⟨(some 30), .mov (.t 32), none⟩,
          ⟨(some 33), .ext (.t 30) 0, none⟩,
          ⟨(some 34), .ext (.t 30) 1, none⟩,
          ⟨(some 9), .alloc [(.str []), (.int .i64 0), (.int .i64 0)], none⟩,
          ⟨(some 8), .mov (.t 33), none⟩,
          ⟨none, .stB 9 3 (.t 34), none⟩] [2, 3, 4, 5, 6, 7, 9])
        (.seq
         (.reg false [⟨(some 36), .call 26 [(false, (.c (.str [0, 1, 120, 0, 0])))], none⟩,
           ⟨(some 35), .mov (.t 36), none⟩,
           ⟨(some 37), .ext (.t 35) 0, none⟩,
           ⟨(some 38), .ext (.t 35) 1, none⟩,
           ⟨(some 10), .steal 37, none⟩,
           ⟨(some 11), .mov (.t 38), none⟩] [2, 3, 4, 5, 6, 7, 9, 10, 11])
         (.seq
          (.reg false [⟨(some 39), .mov (.t 2), none⟩,
            ⟨(some 40), .b2s (.t 39), none⟩,
            ⟨(some 41), .bin .eql false (.t 40) (.c (.str [1, 2, 0, 2, 97, 98])), none⟩,
            ⟨(some 42), .mov (.t 41), none⟩,
            ⟨(some 43), .mov (.t 3), (some (42, true))⟩,
            ⟨(some 44), .bin .eql true (.t 43) (.c (.int .i64 0)), (some (42, true))⟩,
            ⟨(some 45), .pick (.t 42) (.t 44) (.c (.bool false)), none⟩,
            ⟨(some 46), .mov (.t 45), none⟩,
            ⟨(some 47), .mov (.t 4), (some (46, true))⟩,
            ⟨(some 48), .bin .eql false (.t 47) (.c (.int .u64 258)), (some (46, true))⟩,
            ⟨(some 49), .pick (.t 46) (.t 48) (.c (.bool false)), none⟩,
            ⟨(some 50), .mov (.t 49), none⟩,
            ⟨(some 51), .mov (.t 6), (some (50, true))⟩,
            ⟨(some 52), .bin .eql false (.t 51) (.c (.str [97, 98])), (some (50, true))⟩,
            ⟨(some 53), .pick (.t 50) (.t 52) (.c (.bool false)), none⟩,
            ⟨(some 54), .mov (.t 53), none⟩,
            ⟨(some 55), .loadB 7 3 true, (some (54, true))⟩,
            ⟨(some 56), .call 19 [(false, (.t 55))], (some (54, true))⟩,
            ⟨(some 57), .bin .eql true (.t 56) (.c (.int .i64 0)), (some (54, true))⟩,
            ⟨(some 58), .pick (.t 54) (.t 57) (.c (.bool false)), none⟩,
            ⟨(some 59), .mov (.t 58), none⟩,
            ⟨(some 60), .loadB 5 3 true, (some (59, true))⟩,
            ⟨(some 61), .call 17 [(false, (.t 60))], (some (59, true))⟩,
            ⟨(some 62), .bin .eql false (.t 61) (.c (.str [0, 2, 97, 98])), (some (59, true))⟩,
            ⟨(some 63), .pick (.t 59) (.t 62) (.c (.bool false)), none⟩,
            ⟨(some 64), .mov (.t 63), none⟩,
            ⟨(some 65), .fldB 9 2, (some (64, true))⟩,
            ⟨(some 66), .loadR 65 9 1 false, (some (64, true))⟩,
            ⟨(some 67), .bin .eql true (.t 66) (.c (.int .i64 3)), (some (64, true))⟩,
            ⟨(some 68), .pick (.t 64) (.t 67) (.c (.bool false)), none⟩,
            ⟨(some 69), .mov (.t 68), none⟩,
            ⟨(some 70), .mov (.t 11), (some (69, true))⟩,
            ⟨(some 71), .bin .eql true (.t 70) (.c (.int .i64 0)), (some (69, true))⟩,
            ⟨(some 72), .pick (.t 69) (.t 71) (.c (.bool false)), none⟩,
            ⟨(some 73), .mov (.t 72), none⟩,
            ⟨(some 74), .mov (.t 10), (some (73, true))⟩,
            ⟨(some 75), .len false (.t 74), (some (73, true))⟩,
            ⟨(some 76), .bin .eql true (.t 75) (.c (.int .i64 2)), (some (73, true))⟩,
            ⟨(some 77), .pick (.t 73) (.t 76) (.c (.bool false)), none⟩,
            ⟨(some 78), .mov (.t 77), none⟩,
            ⟨(some 79), .mov (.t 10), (some (78, true))⟩,
            ⟨(some 80), .idxA 1 (.t 79) (.c (.int .i64 0)), (some (78, true))⟩,
            ⟨(some 81), .loadP (.t 80) 1 false, (some (78, true))⟩,
            ⟨(some 82), .bin .eql false (.t 81) (.c (.str [120])), (some (78, true))⟩,
            ⟨(some 83), .pick (.t 78) (.t 82) (.c (.bool false)), none⟩,
            ⟨(some 84), .mov (.t 83), none⟩,
            ⟨(some 85), .mov (.t 10), (some (84, true))⟩,
            ⟨(some 86), .idxA 1 (.t 85) (.c (.int .i64 1)), (some (84, true))⟩,
            ⟨(some 87), .loadP (.t 86) 1 false, (some (84, true))⟩,
            ⟨(some 88), .bin .eql false (.t 87) (.c (.str [])), (some (84, true))⟩,
            ⟨(some 89), .pick (.t 84) (.t 88) (.c (.bool false)), none⟩,
            ⟨(some 90), .mov (.t 89), none⟩,
            ⟨(some 91), .pick (.t 90) (.c (.bool true)) (.c (.bool false)), none⟩,
            ⟨(some 92), .mov (.t 91), none⟩,
            ⟨(some 93), .pick (.t 92) (.c (.bool true)) (.c (.bool false)), none⟩,
            ⟨(some 94), .mov (.t 93), none⟩,
            ⟨(some 95), .pick (.t 94) (.c (.bool true)) (.c (.bool false)), none⟩,
            ⟨(some 0), .mov (.t 95), none⟩] [0])
          .ret))))))))
def rs9 : List RS := [.tmp 0]

/-- padlock/quill.Row -/
def rc10 : RC :=
  (.seq
   (.reg false [⟨(some 4), .nilR 1, none⟩,
     ⟨(some 5), .mov (.c (.int .i64 0)), none⟩] [0, 1])
   (.seq
    (.seq
     (.reg false [⟨(some 6), .mov (.t 1), none⟩,
       ⟨(some 7), .len true (.t 6), none⟩,
       ⟨(some 8), .bin .gtr true (.t 7) (.c (.int .i64 65535)), none⟩] [0, 1, 8])
     (.cond 8
      (.seq
       (.reg false [⟨(some 4), .nilR 1, none⟩,
         ⟨(some 5), .mov (.c (.int .i64 5)), none⟩] [4, 5])
       .ret)
      .skip))
    (.seq
     (.reg false [⟨(some 9), .mov (.t 0), none⟩,
       ⟨(some 10), .mov (.t 1), none⟩,
       ⟨(some 11), .len true (.t 10), none⟩,
       ⟨(some 12), .bin .add true (.c (.int .i64 2)) (.t 11), none⟩,
       ⟨(some 13), .call 30 [(false, (.t 9)), (false, (.t 12))], none⟩,
       ⟨(some 14), .mov (.t 1), none⟩,
       ⟨(some 15), .call 29 [(true, (.t 13)), (false, (.t 14))], none⟩,
       ⟨(some 4), .steal 15, none⟩,
       ⟨(some 5), .mov (.c (.int .i64 0)), none⟩] [4, 5])
     .ret)))
def rs10 : List RS := [.tmp 4, .tmp 5]

/-- padlock/padlockref01.Row -/
def rc11 : RC :=
  (.seq
   (.reg false [⟨(some 4), .nilR 1, none⟩,
     ⟨(some 5), .mov (.c (.int .i64 0)), none⟩] [0, 1])
   (.seq
    (.seq
     (.reg false [⟨(some 6), .mov (.t 1), none⟩,
       ⟨(some 7), .len true (.t 6), none⟩,
       ⟨(some 8), .bin .gtr true (.t 7) (.c (.int .i64 65535)), none⟩] [0, 1, 8])
     (.cond 8
      (.seq
       (.reg false [⟨(some 4), .nilR 1, none⟩,
         ⟨(some 5), .mov (.c (.int .i64 5)), none⟩] [4, 5])
       .ret)
      .skip))
    (.seq
     (.reg false [⟨(some 9), .mov (.t 0), none⟩,
       ⟨(some 10), .mov (.t 1), none⟩,
       ⟨(some 11), .len true (.t 10), none⟩,
       ⟨(some 12), .conv true .u64 (.t 11), none⟩,
       ⟨(some 13), .call 15 [(false, (.t 9)), (false, (.c (.int .i64 2))), (false, (.t 12))], none⟩,
       ⟨(some 14), .mov (.t 1), none⟩,
       ⟨(some 15), .app 1 1 (.t 13) (.t 14), none⟩,
       ⟨(some 4), .steal 15, none⟩,
       ⟨(some 5), .mov (.c (.int .i64 0)), none⟩] [4, 5])
     .ret)))
def rs11 : List RS := [.tmp 4, .tmp 5]

/-- padlock/quill.Rows -/
def rc12 : RC :=
  (.seq
   (.reg false [⟨(some 2), .nilR 1, none⟩,
     ⟨(some 3), .mov (.c (.int .i64 0)), none⟩] [0])
   (.seq
    (.seq
     (.reg false [⟨(some 10), .mov (.t 0), none⟩,
       ⟨(some 11), .len false (.t 10), none⟩,
       ⟨(some 12), .bin .gtr true (.t 11) (.c (.int .i64 1024)), none⟩] [0, 12])
     (.cond 12
      (.seq
       (.reg false [⟨(some 2), .nilR 1, none⟩,
         ⟨(some 3), .mov (.c (.int .i64 24)), none⟩] [2, 3])
       .ret)
      .skip))
    (.seq
     (.reg false [⟨(some 4), .mov (.c (.int .i64 0)), none⟩] [0, 4])
     (.seq
      (.seq
       (.reg false [⟨(some 13), .mov (.t 0), none⟩,
         ⟨(some 14), .len false (.t 13), none⟩,
         ⟨(some 15), .mov (.c (.int .i64 0)), none⟩] [0, 4, 13, 14, 15])
       (.block 0
        (.loop
         (.seq
          (.reg false [⟨(some 16), .bin .lss true (.t 15) (.t 14), none⟩] [0, 4, 13, 14, 15, 16])
          (.seq
           (.cond 16
            .skip
            (.exit 0))
           (.seq
            (.block 1
             (.seq
              (.reg false [⟨(some 17), .idxA 1 (.t 13) (.t 15), none⟩,
                ⟨(some 18), .loadP (.t 17) 1 false, none⟩,
                ⟨(some 6), .mov (.t 18), none⟩] [0, 4, 6, 13, 14, 15])
              (.seq
               (.seq
                (.reg false [⟨(some 19), .mov (.t 6), none⟩,
                  ⟨(some 20), .len true (.t 19), none⟩,
                  ⟨(some 21), .bin .gtr true (.t 20) (.c (.int .i64 65535)), none⟩] [0, 4, 6, 13, 14, 15, 21])
                (.cond 21
                 (.seq
                  (.reg false [⟨(some 2), .nilR 1, none⟩,
                    ⟨(some 3), .mov (.c (.int .i64 5)), none⟩] [2, 3])
                  .ret)
                 .skip))
               (.reg false [⟨(some 22), .mov (.t 4), none⟩,
                 ⟨(some 23), .mov (.t 6), none⟩,
                 ⟨(some 24), .len true (.t 23), none⟩,
                 ⟨(some 25), .bin .add true (.c (.int .i64 2)) (.t 24), none⟩,
                 ⟨(some 26), .bin .add true (.t 22) (.t 25), none⟩,
                 ⟨(some 4), .mov (.t 26), none⟩] [0, 4, 13, 14, 15]))))
            (.reg false [⟨(some 27), .bin .add true (.t 15) (.c (.int .i64 1)), none⟩,
              ⟨(some 15), .mov (.t 27), none⟩] [0, 4, 13, 14, 15])))))))
      (.seq
       (.reg false [⟨(some 28), .mov (.t 4), none⟩,
         ⟨(some 29), .make 1 1 [(.int .u8 0)] (.c (.int .i64 0)) (.t 28), none⟩,
         ⟨(some 7), .steal 29, none⟩] [0, 7])
       (.seq
        (.seq
         (.reg false [⟨(some 30), .mov (.t 0), none⟩,
           ⟨(some 31), .len false (.t 30), none⟩,
           ⟨(some 32), .mov (.c (.int .i64 0)), none⟩] [7, 30, 31, 32])
         (.block 2
          (.loop
           (.seq
            (.reg false [⟨(some 33), .bin .lss true (.t 32) (.t 31), none⟩] [7, 30, 31, 32, 33])
            (.seq
             (.cond 33
              .skip
              (.exit 2))
             (.seq
              (.block 3
               (.seq
                (.reg false [⟨(some 34), .idxA 1 (.t 30) (.t 32), none⟩,
                  ⟨(some 35), .loadP (.t 34) 1 false, none⟩,
                  ⟨(some 9), .mov (.t 35), none⟩] [7, 9, 30, 31, 32])
                (.reg false [⟨(some 36), .steal 7, none⟩,
                  ⟨(some 37), .mov (.t 9), none⟩,
                  ⟨(some 38), .call 29 [(true, (.t 36)), (false, (.t 37))], none⟩,
                  ⟨(some 7), .steal 38, none⟩] [7, 30, 31, 32])))
              (.reg false [⟨(some 39), .bin .add true (.t 32) (.c (.int .i64 1)), none⟩,
                ⟨(some 32), .mov (.t 39), none⟩] [7, 30, 31, 32])))))))
        (.seq
         (.reg false [⟨(some 40), .steal 7, none⟩,
           ⟨(some 2), .steal 40, none⟩,
           ⟨(some 3), .mov (.c (.int .i64 0)), none⟩] [2, 3])
         .ret)))))))
def rs12 : List RS := [.tmp 2, .tmp 3]

/-- padlock/padlockref01.Rows -/
def rc13 : RC :=
  (.seq
   (.reg false [⟨(some 2), .nilR 1, none⟩,
     ⟨(some 3), .mov (.c (.int .i64 0)), none⟩] [0])
   (.seq
    (.seq
     (.reg false [⟨(some 8), .mov (.t 0), none⟩,
       ⟨(some 9), .len false (.t 8), none⟩,
       ⟨(some 10), .bin .gtr true (.t 9) (.c (.int .i64 1024)), none⟩] [0, 10])
     (.cond 10
      (.seq
       (.reg false [⟨(some 2), .nilR 1, none⟩,
         ⟨(some 3), .mov (.c (.int .i64 24)), none⟩] [2, 3])
       .ret)
      .skip))
    (.seq
     (.reg false [⟨(some 4), .nilR 1, none⟩] [0, 4])
     (.seq
      (.seq
       (.reg false [⟨(some 5), .mov (.c (.int .i64 0)), none⟩] [0, 4, 5])
       (.block 0
        (.loop
         (.seq
          (.seq
           (.reg false [⟨(some 11), .mov (.t 5), none⟩,
             ⟨(some 12), .mov (.t 0), none⟩,
             ⟨(some 13), .len false (.t 12), none⟩,
             ⟨(some 14), .bin .lss true (.t 11) (.t 13), none⟩] [0, 4, 5, 14])
           (.cond 14
            .skip
            (.exit 0)))
          (.seq
           (.block 1
            (.seq
             (.reg false [⟨(some 18), .mov (.t 4), none⟩,
               ⟨(some 19), .mov (.t 0), none⟩,
               ⟨(some 20), .mov (.t 5), none⟩,
               ⟨(some 21), .idxA 1 (.t 19) (.t 20), none⟩,
               ⟨(some 22), .loadP (.t 21) 1 false, none⟩,
               ⟨(some 23), .call 11 [(false, (.t 18)), (false, (.t 22))], none⟩,
               ⟨(some 17), .mov (.t 23), none⟩,
               ⟨(some 24), .ext (.t 17) 0, none⟩,
               ⟨(some 25), .ext (.t 17) 1, none⟩,
               ⟨(some 6), .steal 24, none⟩,
               ⟨(some 7), .mov (.t 25), none⟩] [0, 5, 6, 7])
             (.seq
              (.seq
               (.reg false [⟨(some 26), .mov (.t 7), none⟩,
                 ⟨(some 27), .bin .neq true (.t 26) (.c (.int .i64 0)), none⟩] [0, 5, 6, 7, 27])
               (.cond 27
                (.seq
                 (.reg false [⟨(some 28), .mov (.t 7), none⟩,
                   ⟨(some 2), .nilR 1, none⟩,
                   ⟨(some 3), .mov (.t 28), none⟩] [2, 3])
                 .ret)
                .skip))
              (.reg false [⟨(some 29), .steal 6, none⟩,
                ⟨(some 4), .steal 29, none⟩] [0, 4, 5]))))
           (.reg false [⟨(some 15), .mov (.t 5), none⟩,
             ⟨(some 16), .bin .add true (.t 15) (.c (.int .i64 1)), none⟩,
             ⟨(some 5), .mov (.t 16), none⟩] [0, 4, 5]))))))
      (.seq
       (.reg false [⟨(some 30), .steal 4, none⟩,
         ⟨(some 2), .steal 30, none⟩,
         ⟨(some 3), .mov (.c (.int .i64 0)), none⟩] [2, 3])
       .ret)))))
def rs13 : List RS := [.tmp 2, .tmp 3]

/-- padlock/quill.Num -/
def rc14 : RC :=
  (.seq
   (.reg false [⟨(some 6), .nilR 1, none⟩] [0, 1, 2])
   (.seq
    (.seq
     (.reg false [⟨(some 7), .mov (.t 1), none⟩,
       ⟨(some 8), .call 31 [(false, (.t 7))], none⟩,
       ⟨(some 9), .un .not (.t 8), none⟩] [0, 1, 2, 9])
     (.cond 9
      (.seq
       (.reg false [⟨(some 10), .mov (.t 0), none⟩,
         ⟨(some 11), .call 30 [(false, (.t 10)), (false, (.c (.int .i64 0)))], none⟩,
         ⟨(some 6), .steal 11, none⟩] [6])
       .ret)
      .skip))
    (.seq
     (.reg false [⟨(some 12), .mov (.t 0), none⟩,
       ⟨(some 13), .mov (.t 1), none⟩,
       ⟨(some 14), .call 30 [(false, (.t 12)), (false, (.t 13))], none⟩,
       ⟨(some 15), .mov (.t 1), none⟩,
       ⟨(some 16), .mov (.t 2), none⟩,
       ⟨(some 17), .call 32 [(true, (.t 14)), (false, (.t 15)), (false, (.t 16))], none⟩,
       ⟨(some 6), .steal 17, none⟩] [6])
     .ret)))
def rs14 : List RS := [.tmp 6]

/-- padlock/padlockref01.Num -/
def rc15 : RC :=
  (.seq
   (.reg false [⟨(some 6), .nilR 1, none⟩] [0, 1, 2])
   (.seq
    (.reg false [⟨(some 11), .mkSl 1 0 [] [], none⟩,
      ⟨(some 12), .mov (.t 0), none⟩,
      ⟨(some 13), .app 1 1 (.t 11) (.t 12), none⟩,
      ⟨(some 7), .steal 13, none⟩] [1, 2, 7])
    (.seq
     (.seq
      (.reg false [⟨(some 14), .mov (.t 1), none⟩,
        ⟨(some 15), .bin .lss true (.t 14) (.c (.int .i64 1)), none⟩,
        ⟨(some 16), .mov (.t 15), none⟩,
        ⟨(some 17), .mov (.t 1), (some (16, false))⟩,
        ⟨(some 18), .bin .gtr true (.t 17) (.c (.int .i64 8)), (some (16, false))⟩,
        ⟨(some 19), .pick (.t 16) (.c (.bool true)) (.t 18), none⟩] [1, 2, 7, 19])
      (.cond 19
       (.seq
        (.reg false [⟨(some 20), .steal 7, none⟩,
          ⟨(some 6), .steal 20, none⟩] [6])
        .ret)
       .skip))
     (.seq
      (.seq
       (.reg false [⟨(some 21), .mov (.t 1), none⟩,
         ⟨(some 22), .bin .sub true (.t 21) (.c (.int .i64 1)), none⟩,
         ⟨(some 8), .mov (.t 22), none⟩] [2, 7, 8])
       (.block 0
        (.loop
         (.seq
          (.seq
           (.reg false [⟨(some 23), .mov (.t 8), none⟩,
             ⟨(some 24), .bin .geq true (.t 23) (.c (.int .i64 0)), none⟩] [2, 7, 8, 24])
           (.cond 24
            .skip
            (.exit 0)))
          (.seq
           (.block 1
            (.seq
             (.reg false [⟨(some 27), .mov (.t 2), none⟩,
               ⟨(some 9), .mov (.t 27), none⟩] [2, 7, 8, 9])
             (.seq
              (.seq
               (.reg false [⟨(some 10), .mov (.c (.int .i64 0)), none⟩] [2, 7, 8, 9, 10])
               (.block 2
                (.loop
                 (.seq
                  (.seq
                   (.reg false [⟨(some 28), .mov (.t 10), none⟩,
                     ⟨(some 29), .mov (.t 8), none⟩,
                     ⟨(some 30), .bin .lss true (.t 28) (.t 29), none⟩] [2, 7, 8, 9, 10, 30])
                   (.cond 30
                    .skip
                    (.exit 2)))
                  (.seq
                   (.block 3
                    (.reg false [⟨(some 33), .mov (.t 9), none⟩,
                      ⟨(some 34), .bin .quo false (.t 33) (.c (.int .u64 256)), none⟩,
                      ⟨(some 9), .mov (.t 34), none⟩] [2, 7, 8, 9, 10]))
                   (.reg false [⟨(some 31), .mov (.t 10), none⟩,
                     ⟨(some 32), .bin .add true (.t 31) (.c (.int .i64 1)), none⟩,
                     ⟨(some 10), .mov (.t 32), none⟩] [2, 7, 8, 9, 10]))))))
              (.reg false [⟨(some 35), .steal 7, none⟩,
                ⟨(some 36), .mov (.t 9), none⟩,
                ⟨(some 37), .bin .rem false (.t 36) (.c (.int .u64 256)), none⟩,
                ⟨(some 38), .conv false .u8 (.t 37), none⟩,
                ⟨(some 39), .mkSl 1 1 [(.int .u8 0)] [(0, 1, (.t 38))], none⟩,
                ⟨(some 40), .app 1 1 (.t 35) (.t 39), none⟩,
                ⟨(some 7), .steal 40, none⟩] [2, 7, 8]))))
           (.reg false [⟨(some 25), .mov (.t 8), none⟩,
             ⟨(some 26), .bin .sub true (.t 25) (.c (.int .i64 1)), none⟩,
             ⟨(some 8), .mov (.t 26), none⟩] [2, 7, 8]))))))
      (.seq
       (.reg false [⟨(some 41), .steal 7, none⟩,
         ⟨(some 6), .steal 41, none⟩] [6])
       .ret)))))
def rs15 : List RS := [.tmp 6]

/-- padlock/padlocklaw01.Own -/
def rc16 : RC :=
  (.seq
   (.reg false [⟨(some 1), .box (.t 0), none⟩,
     ⟨(some 2), .alloc [(.str []), (.int .i64 0), (.int .i64 0)], none⟩] [1, 2])
   (.seq
    (.reg false [⟨(some 3), .fldB 1 0, none⟩,
      ⟨(some 4), .loadR 3 1 1 false, none⟩,
      ⟨(some 5), .fldB 1 1, none⟩,
      ⟨(some 6), .loadR 5 1 1 false, none⟩,
      ⟨(some 7), .fldB 1 2, none⟩,
      ⟨(some 8), .loadR 7 1 1 false, none⟩,
      ⟨(some 9), .build [(.str []), (.int .i64 0), (.int .i64 0)] [(0, 1, (.t 4)), (1, 1, (.t 6)), (2, 1, (.t 8))], none⟩,
      ⟨none, .stB 2 3 (.t 9), none⟩] [2])
    .ret))
def rs16 : List RS := [.cell 2 3 true]

/-- (padlock/quill.Scan).Rest -/
def rc17 : RC :=
  (.seq
   (.reg false [⟨(some 1), .box (.t 0), none⟩,
     ⟨(some 2), .mov (.c (.str [])), none⟩] [1])
   (.seq
    (.seq
     (.reg false [⟨(some 3), .fldB 1 2, none⟩,
       ⟨(some 4), .loadR 3 1 1 false, none⟩,
       ⟨(some 5), .bin .neq true (.t 4) (.c (.int .i64 0)), none⟩,
       ⟨(some 6), .mov (.t 5), none⟩,
       ⟨(some 7), .loadB 1 3 true, (some (6, false))⟩,
       ⟨(some 8), .call 33 [(false, (.t 7))], (some (6, false))⟩,
       ⟨(some 9), .un .not (.t 8), (some (6, false))⟩,
       ⟨(some 10), .pick (.t 6) (.c (.bool true)) (.t 9), none⟩] [1, 10])
     (.cond 10
      (.seq
       (.reg false [⟨(some 2), .mov (.c (.str [])), none⟩] [2])
       .ret)
      .skip))
    (.seq
     (.reg false [⟨(some 11), .loadB 1 3 true, none⟩,
       ⟨(some 12), .fldB 1 0, none⟩,
       ⟨(some 13), .loadR 12 1 1 false, none⟩,
       ⟨(some 14), .len true (.t 13), none⟩,
       ⟨(some 15), .call 34 [(false, (.t 11)), (false, (.t 14))], none⟩,
       ⟨(some 2), .mov (.t 15), none⟩] [2])
     .ret)))
def rs17 : List RS := [.tmp 2]

/-- padlock/padlockref01.Rest -/
def rc18 : RC :=
  (.seq
   (.reg false [⟨(some 1), .box (.t 0), none⟩,
     ⟨(some 2), .mov (.c (.str [])), none⟩] [1])
   (.seq
    (.seq
     (.reg false [⟨(some 3), .fldB 1 2, none⟩,
       ⟨(some 4), .loadR 3 1 1 false, none⟩,
       ⟨(some 5), .bin .neq true (.t 4) (.c (.int .i64 0)), none⟩,
       ⟨(some 6), .mov (.t 5), none⟩,
       ⟨(some 7), .loadB 1 3 true, (some (6, false))⟩,
       ⟨(some 8), .call 35 [(false, (.t 7))], (some (6, false))⟩,
       ⟨(some 9), .un .not (.t 8), (some (6, false))⟩,
       ⟨(some 10), .pick (.t 6) (.c (.bool true)) (.t 9), none⟩] [1, 10])
     (.cond 10
      (.seq
       (.reg false [⟨(some 2), .mov (.c (.str [])), none⟩] [2])
       .ret)
      .skip))
    (.seq
     (.reg false [⟨(some 11), .fldB 1 0, none⟩,
       ⟨(some 12), .loadR 11 1 1 false, none⟩,
       ⟨(some 13), .fldB 1 1, none⟩,
       ⟨(some 14), .loadR 13 1 1 false, none⟩,
       ⟨(some 15), .ssl (.t 12) (some (.t 14)) none, none⟩,
       ⟨(some 2), .mov (.t 15), none⟩] [2])
     .ret)))
def rs18 : List RS := [.tmp 2]

/-- (padlock/quill.Scan).End -/
def rc19 : RC :=
  (.seq
   (.reg false [⟨(some 1), .box (.t 0), none⟩,
     ⟨(some 2), .mov (.c (.int .i64 0)), none⟩] [1])
   (.seq
    (.block 0
     (.seq
      (.reg false [⟨(some 4), .fldB 1 2, none⟩,
        ⟨(some 5), .loadR 4 1 1 false, none⟩,
        ⟨(some 6), .bin .neq true (.t 5) (.c (.int .i64 0)), none⟩,
        ⟨(some 3), .mov (.t 6), none⟩] [1, 3])
      (.cond 3
       (.seq
        (.reg false [⟨(some 7), .fldB 1 2, none⟩,
          ⟨(some 8), .loadR 7 1 1 false, none⟩,
          ⟨(some 2), .mov (.t 8), none⟩] [2])
        .ret)
       (.seq
        (.reg false [⟨(some 10), .loadB 1 3 true, none⟩,
          ⟨(some 11), .call 33 [(false, (.t 10))], none⟩,
          ⟨(some 12), .un .not (.t 11), none⟩,
          ⟨(some 9), .mov (.t 12), none⟩] [1, 9])
        (.cond 9
         (.seq
          (.reg false [⟨(some 2), .mov (.c (.int .i64 2)), none⟩] [2])
          .ret)
         (.seq
          (.reg false [⟨(some 14), .loadB 1 3 true, none⟩,
            ⟨(some 15), .call 36 [(false, (.t 14))], none⟩,
            ⟨(some 16), .bin .gtr true (.t 15) (.c (.int .i64 0)), none⟩,
            ⟨(some 13), .mov (.t 16), none⟩] [13])
          (.cond 13
           (.seq
            (.reg false [⟨(some 2), .mov (.c (.int .i64 4)), none⟩] [2])
            .ret)
           .skip)))))))
    (.seq
     (.reg false [⟨(some 2), .mov (.c (.int .i64 0)), none⟩] [2])
     .ret)))
def rs19 : List RS := [.tmp 2]

/-- padlock/padlockref01.End -/
def rc20 : RC :=
  (.seq
   (.reg false [⟨(some 1), .box (.t 0), none⟩,
     ⟨(some 2), .mov (.c (.int .i64 0)), none⟩] [1])
   (.seq
    (.seq
     (.reg false [⟨(some 3), .fldB 1 2, none⟩,
       ⟨(some 4), .loadR 3 1 1 false, none⟩,
       ⟨(some 5), .bin .neq true (.t 4) (.c (.int .i64 0)), none⟩] [1, 5])
     (.cond 5
      (.seq
       (.reg false [⟨(some 6), .fldB 1 2, none⟩,
         ⟨(some 7), .loadR 6 1 1 false, none⟩,
         ⟨(some 2), .mov (.t 7), none⟩] [2])
       .ret)
      .skip))
    (.seq
     (.seq
      (.reg false [⟨(some 8), .loadB 1 3 true, none⟩,
        ⟨(some 9), .call 35 [(false, (.t 8))], none⟩,
        ⟨(some 10), .un .not (.t 9), none⟩] [1, 10])
      (.cond 10
       (.seq
        (.reg false [⟨(some 2), .mov (.c (.int .i64 2)), none⟩] [2])
        .ret)
       .skip))
     (.seq
      (.seq
       (.reg false [⟨(some 11), .fldB 1 1, none⟩,
         ⟨(some 12), .loadR 11 1 1 false, none⟩,
         ⟨(some 13), .fldB 1 0, none⟩,
         ⟨(some 14), .loadR 13 1 1 false, none⟩,
         ⟨(some 15), .len true (.t 14), none⟩,
         ⟨(some 16), .bin .neq true (.t 12) (.t 15), none⟩] [16])
       (.cond 16
        (.seq
         (.reg false [⟨(some 2), .mov (.c (.int .i64 4)), none⟩] [2])
         .ret)
        .skip))
      (.seq
       (.reg false [⟨(some 2), .mov (.c (.int .i64 0)), none⟩] [2])
       .ret)))))
def rs20 : List RS := [.tmp 2]

/-- padlock/padlocklaw01.Back -/
def rc21 : RC :=
  (.seq
   (.reg false [⟨(some 1), .box (.t 0), none⟩,
     ⟨(some 2), .alloc [(.str []), (.int .i64 0), (.int .i64 0)], none⟩] [1, 2])
   (.seq
    (.reg false [⟨(some 3), .fldB 1 0, none⟩,
      ⟨(some 4), .loadR 3 1 1 false, none⟩,
      ⟨(some 5), .fldB 1 1, none⟩,
      ⟨(some 6), .loadR 5 1 1 false, none⟩,
      ⟨(some 7), .fldB 1 2, none⟩,
      ⟨(some 8), .loadR 7 1 1 false, none⟩,
      ⟨(some 9), .build [(.str []), (.int .i64 0), (.int .i64 0)] [(0, 1, (.t 4)), (1, 1, (.t 6)), (2, 1, (.t 8))], none⟩,
      ⟨none, .stB 2 3 (.t 9), none⟩] [2])
    .ret))
def rs21 : List RS := [.cell 2 3 true]

/-- (padlock/quill.Scan).Row -/
def rc22 : RC :=
  (.seq
   (.reg false [⟨(some 1), .box (.t 0), none⟩,
     ⟨(some 2), .mov (.c (.str [])), none⟩,
     ⟨(some 3), .alloc [(.str []), (.int .i64 0), (.int .i64 0)], none⟩] [1, 3])
   (.seq
    (.reg false [⟨(some 9), .loadB 1 3 true, none⟩,
      ⟨(some 10), .call 24 [(false, (.t 9)), (false, (.c (.int .i64 2)))], none⟩,
      ⟨(some 8), .mov (.t 10), none⟩,
      ⟨(some 11), .ext (.t 8) 0, none⟩,
      ⟨(some 12), .ext (.t 8) 1, none⟩,
      ⟨(some 5), .alloc [(.str []), (.int .i64 0), (.int .i64 0)], none⟩,
      ⟨(some 4), .mov (.t 11), none⟩,
      ⟨none, .stB 5 3 (.t 12), none⟩] [1, 3, 4, 5])
    (.seq
     (.seq
      (.reg false [⟨(some 13), .fldB 5 2, none⟩,
        ⟨(some 14), .loadR 13 5 1 false, none⟩,
        ⟨(some 15), .bin .neq true (.t 14) (.c (.int .i64 0)), none⟩] [1, 3, 4, 5, 15])
      (.cond 15
       (.seq
        (.reg true [⟨(some 16), .loadB 5 3 true, none⟩,
          ⟨(some 2), .mov (.c (.str [])), none⟩,
          ⟨none, .stB 3 3 (.t 16), none⟩] [2, 3])
        .ret)
       .skip))
     (.seq
      (.seq
       (.reg false [⟨(some 17), .loadB 5 3 true, none⟩,
         ⟨(some 18), .call 36 [(false, (.t 17))], none⟩,
         ⟨(some 19), .mov (.t 4), none⟩,
         ⟨(some 20), .conv true .i64 (.t 19), none⟩,
         ⟨(some 21), .bin .lss true (.t 18) (.t 20), none⟩] [1, 3, 4, 5, 21])
       (.cond 21
        (.seq
         (.reg false [⟨(some 22), .loadB 1 3 true, none⟩,
           ⟨(some 23), .call 37 [(false, (.t 22)), (false, (.c (.int .i64 3)))], none⟩,
           ⟨(some 2), .mov (.c (.str [])), none⟩,
           ⟨none, .stB 3 3 (.t 23), none⟩] [2, 3])
         .ret)
        .skip))
      (.seq
       (.reg false [⟨(some 24), .fldB 5 1, none⟩,
         ⟨(some 25), .loadR 24 5 1 false, none⟩,
         ⟨(some 26), .mov (.t 4), none⟩,
         ⟨(some 27), .conv true .i64 (.t 26), none⟩,
         ⟨(some 28), .bin .add true (.t 25) (.t 27), none⟩,
         ⟨(some 6), .mov (.t 28), none⟩] [3, 5, 6])
       (.seq
        (.reg false [⟨(some 29), .loadB 5 3 true, none⟩,
          ⟨(some 30), .mov (.t 6), none⟩,
          ⟨(some 31), .call 34 [(false, (.t 29)), (false, (.t 30))], none⟩,
          ⟨(some 7), .mov (.t 31), none⟩] [3, 5, 6, 7])
        (.seq
         (.reg false [⟨(some 32), .mov (.t 6), none⟩,
           ⟨(some 33), .fldB 5 1, none⟩,
           ⟨none, .stR 33 5 1 (.t 32), none⟩] [3, 5, 7])
         (.seq
          (.reg true [⟨(some 34), .mov (.t 7), none⟩,
            ⟨(some 35), .loadB 5 3 true, none⟩,
            ⟨(some 2), .mov (.t 34), none⟩,
            ⟨none, .stB 3 3 (.t 35), none⟩] [2, 3])
          .ret))))))))
def rs22 : List RS := [.tmp 2, .cell 3 3 true]

/-- padlock/padlockref01.TakeRow -/
def rc23 : RC :=
  (.seq
   (.reg false [⟨(some 1), .box (.t 0), none⟩,
     ⟨(some 2), .mov (.c (.str [])), none⟩,
     ⟨(some 3), .alloc [(.str []), (.int .i64 0), (.int .i64 0)], none⟩] [1, 3])
   (.seq
    (.reg false [⟨(some 7), .loadB 1 3 true, none⟩,
      ⟨(some 8), .call 25 [(false, (.t 7)), (false, (.c (.int .i64 2)))], none⟩,
      ⟨(some 6), .mov (.t 8), none⟩,
      ⟨(some 9), .ext (.t 6) 0, none⟩,
      ⟨(some 10), .ext (.t 6) 1, none⟩,
      ⟨(some 5), .alloc [(.str []), (.int .i64 0), (.int .i64 0)], none⟩,
      ⟨(some 4), .mov (.t 9), none⟩,
      ⟨none, .stB 5 3 (.t 10), none⟩] [1, 3, 4, 5])
    (.seq
     (.seq
      (.reg false [⟨(some 11), .fldB 5 2, none⟩,
        ⟨(some 12), .loadR 11 5 1 false, none⟩,
        ⟨(some 13), .bin .neq true (.t 12) (.c (.int .i64 0)), none⟩] [1, 3, 4, 5, 13])
      (.cond 13
       (.seq
        (.reg true [⟨(some 14), .loadB 5 3 true, none⟩,
          ⟨(some 2), .mov (.c (.str [])), none⟩,
          ⟨none, .stB 3 3 (.t 14), none⟩] [2, 3])
        .ret)
       .skip))
     (.seq
      (.seq
       (.reg false [⟨(some 15), .fldB 5 0, none⟩,
         ⟨(some 16), .loadR 15 5 1 false, none⟩,
         ⟨(some 17), .len true (.t 16), none⟩,
         ⟨(some 18), .fldB 5 1, none⟩,
         ⟨(some 19), .loadR 18 5 1 false, none⟩,
         ⟨(some 20), .bin .sub true (.t 17) (.t 19), none⟩,
         ⟨(some 21), .mov (.t 4), none⟩,
         ⟨(some 22), .conv true .i64 (.t 21), none⟩,
         ⟨(some 23), .bin .lss true (.t 20) (.t 22), none⟩] [1, 3, 4, 5, 23])
       (.cond 23
        (.seq
         (.reg false [⟨(some 24), .loadB 1 3 true, none⟩,
           ⟨(some 25), .call 38 [(false, (.t 24)), (false, (.c (.int .i64 3)))], none⟩,
           ⟨(some 2), .mov (.c (.str [])), none⟩,
           ⟨none, .stB 3 3 (.t 25), none⟩] [2, 3])
         .ret)
        .skip))
      (.seq
       (.reg true [⟨(some 26), .fldB 5 0, none⟩,
         ⟨(some 27), .loadR 26 5 1 false, none⟩,
         ⟨(some 28), .fldB 5 1, none⟩,
         ⟨(some 29), .loadR 28 5 1 false, none⟩,
         ⟨(some 30), .fldB 5 1, none⟩,
         ⟨(some 31), .loadR 30 5 1 false, none⟩,
         ⟨(some 32), .mov (.t 4), none⟩,
         ⟨(some 33), .conv true .i64 (.t 32), none⟩,
         ⟨(some 34), .bin .add true (.t 31) (.t 33), none⟩,
         ⟨(some 35), .ssl (.t 27) (some (.t 29)) (some (.t 34)), none⟩,
         ⟨(some 36), .fldB 5 0, none⟩,
         ⟨(some 37), .loadR 36 5 1 false, none⟩,
         ⟨(some 38), .fldB 5 1, none⟩,
         ⟨(some 39), .loadR 38 5 1 false, none⟩,
         ⟨(some 40), .mov (.t 4), none⟩,
         ⟨(some 41), .conv true .i64 (.t 40), none⟩,
         ⟨(some 42), .bin .add true (.t 39) (.t 41), none⟩,
         ⟨(some 43), .build [(.str []), (.int .i64 0), (.int .i64 0)] [(0, 1, (.t 37)), (1, 1, (.t 42)), (2, 1, (.c (.int .i64 0)))], none⟩,
         ⟨(some 2), .mov (.t 35), none⟩,
         ⟨none, .stB 3 3 (.t 43), none⟩] [2, 3])
       .ret)))))
def rs23 : List RS := [.tmp 2, .cell 3 3 true]

/-- (padlock/quill.Scan).Num -/
def rc24 : RC :=
  (.seq
   (.reg false [⟨(some 2), .box (.t 0), none⟩,
     ⟨(some 4), .mov (.c (.int .u64 0)), none⟩,
     ⟨(some 5), .alloc [(.str []), (.int .i64 0), (.int .i64 0)], none⟩] [1, 2, 5])
   (.seq
    (.seq
     (.reg false [⟨(some 7), .fldB 2 2, none⟩,
       ⟨(some 8), .loadR 7 2 1 false, none⟩,
       ⟨(some 9), .bin .neq true (.t 8) (.c (.int .i64 0)), none⟩] [1, 2, 5, 9])
     (.cond 9
      (.seq
       (.reg true [⟨(some 10), .loadB 2 3 true, none⟩,
         ⟨(some 4), .mov (.c (.int .u64 0)), none⟩,
         ⟨none, .stB 5 3 (.t 10), none⟩] [4, 5])
       .ret)
      .skip))
    (.seq
     (.seq
      (.reg false [⟨(some 11), .loadB 2 3 true, none⟩,
        ⟨(some 12), .call 33 [(false, (.t 11))], none⟩,
        ⟨(some 13), .un .not (.t 12), none⟩,
        ⟨(some 14), .mov (.t 13), none⟩,
        ⟨(some 15), .mov (.t 1), (some (14, false))⟩,
        ⟨(some 16), .call 31 [(false, (.t 15))], (some (14, false))⟩,
        ⟨(some 17), .un .not (.t 16), (some (14, false))⟩,
        ⟨(some 18), .pick (.t 14) (.c (.bool true)) (.t 17), none⟩] [1, 2, 5, 18])
      (.cond 18
       (.seq
        (.reg false [⟨(some 19), .loadB 2 3 true, none⟩,
          ⟨(some 20), .call 37 [(false, (.t 19)), (false, (.c (.int .i64 2)))], none⟩,
          ⟨(some 4), .mov (.c (.int .u64 0)), none⟩,
          ⟨none, .stB 5 3 (.t 20), none⟩] [4, 5])
        .ret)
       .skip))
     (.seq
      (.seq
       (.reg false [⟨(some 21), .loadB 2 3 true, none⟩,
         ⟨(some 22), .call 36 [(false, (.t 21))], none⟩,
         ⟨(some 23), .mov (.t 1), none⟩,
         ⟨(some 24), .bin .lss true (.t 22) (.t 23), none⟩] [1, 2, 5, 24])
       (.cond 24
        (.seq
         (.reg false [⟨(some 25), .loadB 2 3 true, none⟩,
           ⟨(some 26), .call 37 [(false, (.t 25)), (false, (.c (.int .i64 3)))], none⟩,
           ⟨(some 4), .mov (.c (.int .u64 0)), none⟩,
           ⟨none, .stB 5 3 (.t 26), none⟩] [4, 5])
         .ret)
        .skip))
      (.seq
       (.reg false [⟨(some 6), .mov (.c (.int .u64 0)), none⟩] [1, 2, 5, 6])
       (.seq
        (.seq
         (.reg false [⟨(some 27), .mov (.t 1), none⟩,
           ⟨(some 28), .mov (.c (.int .i64 0)), none⟩] [2, 5, 6, 27, 28])
         (.block 0
          (.loop
           (.seq
            (.reg false [⟨(some 29), .bin .lss true (.t 28) (.t 27), none⟩] [2, 5, 6, 27, 28, 29])
            (.seq
             (.cond 29
              .skip
              (.exit 0))
             (.seq
              (.block 1
               (.seq
                (.reg false [⟨(some 30), .mov (.t 6), none⟩,
                  ⟨(some 31), .bin .shl false (.t 30) (.c (.int .u64 8)), none⟩,
                  ⟨(some 32), .fldB 2 0, none⟩,
                  ⟨(some 33), .loadR 32 2 1 false, none⟩,
                  ⟨(some 34), .fldB 2 1, none⟩,
                  ⟨(some 35), .loadR 34 2 1 false, none⟩,
                  ⟨(some 36), .sidx (.t 33) (.t 35), none⟩,
                  ⟨(some 37), .conv true .u64 (.t 36), none⟩,
                  ⟨(some 38), .bin .or false (.t 31) (.t 37), none⟩,
                  ⟨(some 6), .mov (.t 38), none⟩] [2, 5, 6, 27, 28])
                (.reg false [⟨(some 39), .fldB 2 1, none⟩,
                  ⟨(some 40), .loadR 39 2 1 false, none⟩,
                  ⟨(some 41), .bin .add true (.t 40) (.c (.int .i64 1)), none⟩,
                  ⟨(some 42), .fldB 2 1, none⟩,
                  ⟨none, .stR 42 2 1 (.t 41), none⟩] [2, 5, 6, 27, 28])))
              (.reg false [⟨(some 43), .bin .add true (.t 28) (.c (.int .i64 1)), none⟩,
                ⟨(some 28), .mov (.t 43), none⟩] [2, 5, 6, 27, 28])))))))
        (.seq
         (.reg true [⟨(some 44), .mov (.t 6), none⟩,
           ⟨(some 45), .loadB 2 3 true, none⟩,
           ⟨(some 4), .mov (.t 44), none⟩,
           ⟨none, .stB 5 3 (.t 45), none⟩] [4, 5])
         .ret)))))))
def rs24 : List RS := [.tmp 4, .cell 5 3 true]

/-- padlock/padlockref01.TakeNum -/
def rc25 : RC :=
  (.seq
   (.reg false [⟨(some 2), .box (.t 0), none⟩,
     ⟨(some 4), .mov (.c (.int .u64 0)), none⟩,
     ⟨(some 5), .alloc [(.str []), (.int .i64 0), (.int .i64 0)], none⟩] [1, 2, 5])
   (.seq
    (.seq
     (.reg false [⟨(some 8), .fldB 2 2, none⟩,
       ⟨(some 9), .loadR 8 2 1 false, none⟩,
       ⟨(some 10), .bin .neq true (.t 9) (.c (.int .i64 0)), none⟩] [1, 2, 5, 10])
     (.cond 10
      (.seq
       (.reg true [⟨(some 11), .loadB 2 3 true, none⟩,
         ⟨(some 4), .mov (.c (.int .u64 0)), none⟩,
         ⟨none, .stB 5 3 (.t 11), none⟩] [4, 5])
       .ret)
      .skip))
    (.seq
     (.seq
      (.reg false [⟨(some 12), .loadB 2 3 true, none⟩,
        ⟨(some 13), .call 35 [(false, (.t 12))], none⟩,
        ⟨(some 14), .un .not (.t 13), none⟩,
        ⟨(some 15), .mov (.t 14), none⟩,
        ⟨(some 16), .mov (.t 1), (some (15, false))⟩,
        ⟨(some 17), .bin .lss true (.t 16) (.c (.int .i64 1)), (some (15, false))⟩,
        ⟨(some 18), .pick (.t 15) (.c (.bool true)) (.t 17), none⟩,
        ⟨(some 19), .mov (.t 18), none⟩,
        ⟨(some 20), .mov (.t 1), (some (19, false))⟩,
        ⟨(some 21), .bin .gtr true (.t 20) (.c (.int .i64 8)), (some (19, false))⟩,
        ⟨(some 22), .pick (.t 19) (.c (.bool true)) (.t 21), none⟩] [1, 2, 5, 22])
      (.cond 22
       (.seq
        (.reg false [⟨(some 23), .loadB 2 3 true, none⟩,
          ⟨(some 24), .call 38 [(false, (.t 23)), (false, (.c (.int .i64 2)))], none⟩,
          ⟨(some 4), .mov (.c (.int .u64 0)), none⟩,
          ⟨none, .stB 5 3 (.t 24), none⟩] [4, 5])
        .ret)
       .skip))
     (.seq
      (.seq
       (.reg false [⟨(some 25), .fldB 2 0, none⟩,
         ⟨(some 26), .loadR 25 2 1 false, none⟩,
         ⟨(some 27), .len true (.t 26), none⟩,
         ⟨(some 28), .fldB 2 1, none⟩,
         ⟨(some 29), .loadR 28 2 1 false, none⟩,
         ⟨(some 30), .bin .sub true (.t 27) (.t 29), none⟩,
         ⟨(some 31), .mov (.t 1), none⟩,
         ⟨(some 32), .bin .lss true (.t 30) (.t 31), none⟩] [1, 2, 5, 32])
       (.cond 32
        (.seq
         (.reg false [⟨(some 33), .loadB 2 3 true, none⟩,
           ⟨(some 34), .call 38 [(false, (.t 33)), (false, (.c (.int .i64 3)))], none⟩,
           ⟨(some 4), .mov (.c (.int .u64 0)), none⟩,
           ⟨none, .stB 5 3 (.t 34), none⟩] [4, 5])
         .ret)
        .skip))
      (.seq
       (.reg false [⟨(some 6), .mov (.c (.int .u64 0)), none⟩] [1, 2, 5, 6])
       (.seq
        (.seq
         (.reg false [⟨(some 7), .mov (.c (.int .i64 0)), none⟩] [1, 2, 5, 6, 7])
         (.block 0
          (.loop
           (.seq
            (.seq
             (.reg false [⟨(some 35), .mov (.t 7), none⟩,
               ⟨(some 36), .mov (.t 1), none⟩,
               ⟨(some 37), .bin .lss true (.t 35) (.t 36), none⟩] [1, 2, 5, 6, 7, 37])
             (.cond 37
              .skip
              (.exit 0)))
            (.seq
             (.block 1
              (.reg false [⟨(some 40), .mov (.t 6), none⟩,
                ⟨(some 41), .bin .mul false (.c (.int .u64 256)) (.t 40), none⟩,
                ⟨(some 42), .fldB 2 0, none⟩,
                ⟨(some 43), .loadR 42 2 1 false, none⟩,
                ⟨(some 44), .fldB 2 1, none⟩,
                ⟨(some 45), .loadR 44 2 1 false, none⟩,
                ⟨(some 46), .mov (.t 7), none⟩,
                ⟨(some 47), .bin .add true (.t 45) (.t 46), none⟩,
                ⟨(some 48), .sidx (.t 43) (.t 47), none⟩,
                ⟨(some 49), .conv true .u64 (.t 48), none⟩,
                ⟨(some 50), .bin .add false (.t 41) (.t 49), none⟩,
                ⟨(some 6), .mov (.t 50), none⟩] [1, 2, 5, 6, 7]))
             (.reg false [⟨(some 38), .mov (.t 7), none⟩,
               ⟨(some 39), .bin .add true (.t 38) (.c (.int .i64 1)), none⟩,
               ⟨(some 7), .mov (.t 39), none⟩] [1, 2, 5, 6, 7]))))))
        (.seq
         (.reg true [⟨(some 51), .mov (.t 6), none⟩,
           ⟨(some 52), .fldB 2 0, none⟩,
           ⟨(some 53), .loadR 52 2 1 false, none⟩,
           ⟨(some 54), .fldB 2 1, none⟩,
           ⟨(some 55), .loadR 54 2 1 false, none⟩,
           ⟨(some 56), .mov (.t 1), none⟩,
           ⟨(some 57), .bin .add true (.t 55) (.t 56), none⟩,
           ⟨(some 58), .build [(.str []), (.int .i64 0), (.int .i64 0)] [(0, 1, (.t 53)), (1, 1, (.t 57)), (2, 1, (.c (.int .i64 0)))], none⟩,
           ⟨(some 4), .mov (.t 51), none⟩,
           ⟨none, .stB 5 3 (.t 58), none⟩] [4, 5])
         .ret)))))))
def rs25 : List RS := [.tmp 4, .cell 5 3 true]

/-- padlock/quill.Split -/
def rc26 : RC :=
  (.seq
   (.reg false [⟨(some 2), .nilR 1, none⟩,
     ⟨(some 3), .mov (.c (.int .i64 0)), none⟩] [0])
   (.seq
    (.reg false [⟨(some 4), .nilR 1, none⟩] [0, 4])
    (.seq
     (.reg false [⟨(some 7), .mov (.t 0), none⟩,
       ⟨(some 8), .build [(.str []), (.int .i64 0), (.int .i64 0)] [(0, 1, (.t 7))], none⟩,
       ⟨(some 5), .alloc [(.str []), (.int .i64 0), (.int .i64 0)], none⟩,
       ⟨none, .stB 5 3 (.t 8), none⟩] [4, 5])
     (.seq
      (.block 0
       (.loop
        (.seq
         (.seq
          (.reg false [⟨(some 9), .loadB 5 3 true, none⟩,
            ⟨(some 10), .call 36 [(false, (.t 9))], none⟩,
            ⟨(some 11), .bin .gtr true (.t 10) (.c (.int .i64 0)), none⟩] [4, 5, 11])
          (.cond 11
           .skip
           (.exit 0)))
         (.block 1
          (.seq
           (.seq
            (.reg false [⟨(some 12), .mov (.t 4), none⟩,
              ⟨(some 13), .len false (.t 12), none⟩,
              ⟨(some 14), .bin .eql true (.t 13) (.c (.int .i64 1024)), none⟩] [4, 5, 14])
            (.cond 14
             (.seq
              (.reg false [⟨(some 2), .nilR 1, none⟩,
                ⟨(some 3), .mov (.c (.int .i64 24)), none⟩] [2, 3])
              .ret)
             .skip))
           (.seq
            (.reg false [⟨(some 6), .mov (.c (.str [])), none⟩] [4, 5])
            (.seq
             (.reg false [⟨(some 16), .loadB 5 3 true, none⟩,
               ⟨(some 17), .call 22 [(false, (.t 16))], none⟩,
               ⟨(some 15), .mov (.t 17), none⟩,
               ⟨(some 18), .ext (.t 15) 0, none⟩,
               ⟨(some 19), .ext (.t 15) 1, none⟩,
               ⟨(some 6), .mov (.t 18), none⟩,
               ⟨none, .stB 5 3 (.t 19), none⟩] [4, 5, 6])
             (.seq
              (.seq
               (.reg false [⟨(some 20), .fldB 5 2, none⟩,
                 ⟨(some 21), .loadR 20 5 1 false, none⟩,
                 ⟨(some 22), .bin .neq true (.t 21) (.c (.int .i64 0)), none⟩] [4, 5, 6, 22])
               (.cond 22
                (.seq
                 (.reg true [⟨(some 23), .fldB 5 2, none⟩,
                   ⟨(some 24), .loadR 23 5 1 false, none⟩,
                   ⟨(some 2), .nilR 1, none⟩,
                   ⟨(some 3), .mov (.t 24), none⟩] [2, 3])
                 .ret)
                .skip))
              (.reg false [⟨(some 25), .steal 4, none⟩,
                ⟨(some 26), .mov (.t 6), none⟩,
                ⟨(some 27), .mkSl 1 1 [(.str [])] [(0, 1, (.t 26))], none⟩,
                ⟨(some 28), .app 1 16 (.t 25) (.t 27), none⟩,
                ⟨(some 4), .steal 28, none⟩] [4, 5])))))))))
      (.seq
       (.reg false [⟨(some 29), .steal 4, none⟩,
         ⟨(some 2), .steal 29, none⟩,
         ⟨(some 3), .mov (.c (.int .i64 0)), none⟩] [2, 3])
       .ret)))))
def rs26 : List RS := [.tmp 2, .tmp 3]

/-- padlock/padlockref01.Split -/
def rc27 : RC :=
  (.seq
   (.reg false [⟨(some 2), .nilR 1, none⟩,
     ⟨(some 3), .mov (.c (.int .i64 0)), none⟩] [0])
   (.seq
    (.reg false [⟨(some 8), .mov (.t 0), none⟩,
      ⟨(some 9), .build [(.str []), (.int .i64 0), (.int .i64 0)] [(0, 1, (.t 8)), (1, 1, (.c (.int .i64 0))), (2, 1, (.c (.int .i64 0)))], none⟩,
      ⟨(some 4), .alloc [(.str []), (.int .i64 0), (.int .i64 0)], none⟩,
      ⟨none, .stB 4 3 (.t 9), none⟩] [0, 4])
    (.seq
     (.reg false [⟨(some 5), .nilR 1, none⟩] [0, 4, 5])
     (.seq
      (.block 0
       (.loop
        (.seq
         (.seq
          (.reg false [⟨(some 10), .fldB 4 1, none⟩,
            ⟨(some 11), .loadR 10 4 1 false, none⟩,
            ⟨(some 12), .mov (.t 0), none⟩,
            ⟨(some 13), .len true (.t 12), none⟩,
            ⟨(some 14), .bin .lss true (.t 11) (.t 13), none⟩] [0, 4, 5, 14])
          (.cond 14
           .skip
           (.exit 0)))
         (.block 1
          (.seq
           (.seq
            (.reg false [⟨(some 15), .mov (.t 5), none⟩,
              ⟨(some 16), .len false (.t 15), none⟩,
              ⟨(some 17), .bin .eql true (.t 16) (.c (.int .i64 1024)), none⟩] [0, 4, 5, 17])
            (.cond 17
             (.seq
              (.reg false [⟨(some 2), .nilR 1, none⟩,
                ⟨(some 3), .mov (.c (.int .i64 24)), none⟩] [2, 3])
              .ret)
             .skip))
           (.seq
            (.reg false [⟨(some 19), .loadB 4 3 true, none⟩,
              ⟨(some 20), .call 23 [(false, (.t 19))], none⟩,
              ⟨(some 18), .mov (.t 20), none⟩,
              ⟨(some 21), .ext (.t 18) 0, none⟩,
              ⟨(some 22), .ext (.t 18) 1, none⟩,
              ⟨(some 7), .alloc [(.str []), (.int .i64 0), (.int .i64 0)], none⟩,
              ⟨(some 6), .mov (.t 21), none⟩,
              ⟨none, .stB 7 3 (.t 22), none⟩] [0, 4, 5, 6, 7])
            (.seq
             (.seq
              (.reg false [⟨(some 23), .fldB 7 2, none⟩,
                ⟨(some 24), .loadR 23 7 1 false, none⟩,
                ⟨(some 25), .bin .neq true (.t 24) (.c (.int .i64 0)), none⟩] [0, 4, 5, 6, 7, 25])
              (.cond 25
               (.seq
                (.reg true [⟨(some 26), .fldB 7 2, none⟩,
                  ⟨(some 27), .loadR 26 7 1 false, none⟩,
                  ⟨(some 2), .nilR 1, none⟩,
                  ⟨(some 3), .mov (.t 27), none⟩] [2, 3])
                .ret)
               .skip))
             (.seq
              (.reg false [⟨(some 28), .steal 5, none⟩,
                ⟨(some 29), .mov (.t 6), none⟩,
                ⟨(some 30), .mkSl 1 1 [(.str [])] [(0, 1, (.t 29))], none⟩,
                ⟨(some 31), .app 1 16 (.t 28) (.t 30), none⟩,
                ⟨(some 5), .steal 31, none⟩] [0, 4, 5, 7])
              (.reg false [⟨(some 32), .loadB 7 3 true, none⟩,
                ⟨none, .stB 4 3 (.t 32), none⟩] [0, 4, 5])))))))))
      (.seq
       (.reg false [⟨(some 33), .steal 5, none⟩,
         ⟨(some 2), .steal 33, none⟩,
         ⟨(some 3), .mov (.c (.int .i64 0)), none⟩] [2, 3])
       .ret)))))
def rs27 : List RS := [.tmp 2, .tmp 3]

/-- padlock/padlockref01.SameTexts -/
def rc28 : RC :=
  (.seq
   (.reg false [⟨(some 4), .mov (.c (.bool false)), none⟩] [0, 1])
   (.seq
    (.seq
     (.reg false [⟨(some 6), .mov (.t 0), none⟩,
       ⟨(some 7), .len false (.t 6), none⟩,
       ⟨(some 8), .mov (.t 1), none⟩,
       ⟨(some 9), .len false (.t 8), none⟩,
       ⟨(some 10), .bin .neq true (.t 7) (.t 9), none⟩] [0, 1, 10])
     (.cond 10
      (.seq
       (.reg false [⟨(some 4), .mov (.c (.bool false)), none⟩] [4])
       .ret)
      .skip))
    (.seq
     (.seq
      (.reg false [⟨(some 5), .mov (.c (.int .i64 0)), none⟩] [0, 1, 5])
      (.block 0
       (.loop
        (.seq
         (.seq
          (.reg false [⟨(some 11), .mov (.t 5), none⟩,
            ⟨(some 12), .mov (.t 0), none⟩,
            ⟨(some 13), .len false (.t 12), none⟩,
            ⟨(some 14), .bin .lss true (.t 11) (.t 13), none⟩] [0, 1, 5, 14])
          (.cond 14
           .skip
           (.exit 0)))
         (.seq
          (.block 1
           (.seq
            (.reg true [⟨(some 17), .mov (.t 0), none⟩,
              ⟨(some 18), .mov (.t 5), none⟩,
              ⟨(some 19), .idxA 1 (.t 17) (.t 18), none⟩,
              ⟨(some 20), .loadP (.t 19) 1 false, none⟩,
              ⟨(some 21), .mov (.t 1), none⟩,
              ⟨(some 22), .mov (.t 5), none⟩,
              ⟨(some 23), .idxA 1 (.t 21) (.t 22), none⟩,
              ⟨(some 24), .loadP (.t 23) 1 false, none⟩,
              ⟨(some 25), .bin .neq false (.t 20) (.t 24), none⟩] [0, 1, 5, 25])
            (.cond 25
             (.seq
              (.reg false [⟨(some 4), .mov (.c (.bool false)), none⟩] [4])
              .ret)
             .skip)))
          (.reg false [⟨(some 15), .mov (.t 5), none⟩,
            ⟨(some 16), .bin .add true (.t 15) (.c (.int .i64 1)), none⟩,
            ⟨(some 5), .mov (.t 16), none⟩] [0, 1, 5]))))))
     (.seq
      (.reg false [⟨(some 4), .mov (.c (.bool true)), none⟩] [4])
      .ret))))
def rs28 : List RS := [.tmp 4]

/-- padlock/quill.addRow -/
def rc29 : RC :=
  (.seq
   (.reg false [⟨(some 4), .nilR 1, none⟩] [0, 1])
   (.seq
    (.reg false [⟨(some 5), .steal 0, none⟩,
      ⟨(some 6), .mov (.t 1), none⟩,
      ⟨(some 7), .len true (.t 6), none⟩,
      ⟨(some 8), .conv true .u64 (.t 7), none⟩,
      ⟨(some 9), .call 32 [(true, (.t 5)), (false, (.c (.int .i64 2))), (false, (.t 8))], none⟩,
      ⟨(some 10), .mov (.t 1), none⟩,
      ⟨(some 11), .app 1 1 (.t 9) (.t 10), none⟩,
      ⟨(some 4), .steal 11, none⟩] [4])
    .ret))
def rs29 : List RS := [.tmp 4]

/-- padlock/quill.copyOf -/
def rc30 : RC :=
  (.seq
   (.reg false [⟨(some 4), .nilR 1, none⟩] [0, 1])
   (.seq
    (.reg false [⟨(some 5), .mov (.t 0), none⟩,
      ⟨(some 6), .len false (.t 5), none⟩,
      ⟨(some 7), .mov (.t 1), none⟩,
      ⟨(some 8), .bin .add true (.t 6) (.t 7), none⟩,
      ⟨(some 9), .make 1 1 [(.int .u8 0)] (.c (.int .i64 0)) (.t 8), none⟩,
      ⟨(some 10), .mov (.t 0), none⟩,
      ⟨(some 11), .app 1 1 (.t 9) (.t 10), none⟩,
      ⟨(some 4), .steal 11, none⟩] [4])
    .ret))
def rs30 : List RS := [.tmp 4]

/-- padlock/quill.isSize -/
def rc31 : RC :=
  (.seq
   (.reg false [⟨(some 2), .mov (.c (.bool false)), none⟩] [0])
   (.seq
    (.reg false [⟨(some 3), .mov (.t 0), none⟩,
      ⟨(some 4), .bin .geq true (.t 3) (.c (.int .i64 1)), none⟩,
      ⟨(some 5), .mov (.t 4), none⟩,
      ⟨(some 6), .mov (.t 0), (some (5, true))⟩,
      ⟨(some 7), .bin .leq true (.t 6) (.c (.int .i64 8)), (some (5, true))⟩,
      ⟨(some 8), .pick (.t 5) (.t 7) (.c (.bool false)), none⟩,
      ⟨(some 2), .mov (.t 8), none⟩] [2])
    .ret))
def rs31 : List RS := [.tmp 2]

/-- padlock/quill.addNum -/
def rc32 : RC :=
  (.seq
   (.reg false [⟨(some 6), .nilR 1, none⟩] [0, 1, 2])
   (.seq
    (.seq
     (.reg false [⟨(some 8), .mov (.t 1), none⟩,
       ⟨(some 9), .bin .sub true (.t 8) (.c (.int .i64 1)), none⟩,
       ⟨(some 7), .mov (.t 9), none⟩] [0, 2, 7])
     (.block 0
      (.loop
       (.seq
        (.seq
         (.reg false [⟨(some 10), .mov (.t 7), none⟩,
           ⟨(some 11), .bin .geq true (.t 10) (.c (.int .i64 0)), none⟩] [0, 2, 7, 11])
         (.cond 11
          .skip
          (.exit 0)))
        (.seq
         (.block 1
          (.reg false [⟨(some 14), .steal 0, none⟩,
            ⟨(some 15), .mov (.t 2), none⟩,
            ⟨(some 16), .mov (.t 7), none⟩,
            ⟨(some 17), .bin .mul true (.c (.int .i64 8)) (.t 16), none⟩,
            ⟨(some 18), .bin .shr false (.t 15) (.t 17), none⟩,
            ⟨(some 19), .conv false .u8 (.t 18), none⟩,
            ⟨(some 20), .mkSl 1 1 [(.int .u8 0)] [(0, 1, (.t 19))], none⟩,
            ⟨(some 21), .app 1 1 (.t 14) (.t 20), none⟩,
            ⟨(some 0), .steal 21, none⟩] [0, 2, 7]))
         (.reg false [⟨(some 12), .mov (.t 7), none⟩,
           ⟨(some 13), .bin .sub true (.t 12) (.c (.int .i64 1)), none⟩,
           ⟨(some 7), .mov (.t 13), none⟩] [0, 2, 7]))))))
    (.seq
     (.reg false [⟨(some 22), .steal 0, none⟩,
       ⟨(some 6), .steal 22, none⟩] [6])
     .ret)))
def rs32 : List RS := [.tmp 6]

/-- (padlock/quill.Scan).valid -/
def rc33 : RC :=
  (.seq
   (.reg false [⟨(some 1), .box (.t 0), none⟩,
     ⟨(some 2), .mov (.c (.bool false)), none⟩] [1])
   (.seq
    (.reg false [⟨(some 3), .fldB 1 1, none⟩,
      ⟨(some 4), .loadR 3 1 1 false, none⟩,
      ⟨(some 5), .bin .geq true (.t 4) (.c (.int .i64 0)), none⟩,
      ⟨(some 6), .mov (.t 5), none⟩,
      ⟨(some 7), .fldB 1 1, (some (6, true))⟩,
      ⟨(some 8), .loadR 7 1 1 false, (some (6, true))⟩,
      ⟨(some 9), .fldB 1 0, (some (6, true))⟩,
      ⟨(some 10), .loadR 9 1 1 false, (some (6, true))⟩,
      ⟨(some 11), .len true (.t 10), (some (6, true))⟩,
      ⟨(some 12), .bin .leq true (.t 8) (.t 11), (some (6, true))⟩,
      ⟨(some 13), .pick (.t 6) (.t 12) (.c (.bool false)), none⟩,
      ⟨(some 2), .mov (.t 13), none⟩] [2])
    .ret))
def rs33 : List RS := [.tmp 2]

/-- (padlock/quill.Scan).cut -/
def rc34 : RC :=
  (.seq
   (.reg false [⟨(some 2), .box (.t 0), none⟩,
     ⟨(some 4), .mov (.c (.str [])), none⟩] [1, 2])
   (.seq
    (.reg false [⟨(some 5), .fldB 2 0, none⟩,
      ⟨(some 6), .loadR 5 2 1 false, none⟩,
      ⟨(some 7), .fldB 2 1, none⟩,
      ⟨(some 8), .loadR 7 2 1 false, none⟩,
      ⟨(some 9), .mov (.t 1), none⟩,
      ⟨(some 10), .ssl (.t 6) (some (.t 8)) (some (.t 9)), none⟩,
      ⟨(some 11), .call 39 [(false, (.t 10))], none⟩,
      ⟨(some 4), .mov (.t 11), none⟩] [4])
    .ret))
def rs34 : List RS := [.tmp 4]

/-- padlock/padlockref01.Stands -/
def rc35 : RC :=
  (.seq
   (.reg false [⟨(some 1), .box (.t 0), none⟩,
     ⟨(some 2), .mov (.c (.bool false)), none⟩] [1])
   (.seq
    (.reg false [⟨(some 3), .fldB 1 1, none⟩,
      ⟨(some 4), .loadR 3 1 1 false, none⟩,
      ⟨(some 5), .bin .geq true (.t 4) (.c (.int .i64 0)), none⟩,
      ⟨(some 6), .mov (.t 5), none⟩,
      ⟨(some 7), .fldB 1 1, (some (6, true))⟩,
      ⟨(some 8), .loadR 7 1 1 false, (some (6, true))⟩,
      ⟨(some 9), .fldB 1 0, (some (6, true))⟩,
      ⟨(some 10), .loadR 9 1 1 false, (some (6, true))⟩,
      ⟨(some 11), .len true (.t 10), (some (6, true))⟩,
      ⟨(some 12), .bin .leq true (.t 8) (.t 11), (some (6, true))⟩,
      ⟨(some 13), .pick (.t 6) (.t 12) (.c (.bool false)), none⟩,
      ⟨(some 2), .mov (.t 13), none⟩] [2])
    .ret))
def rs35 : List RS := [.tmp 2]

/-- (padlock/quill.Scan).left -/
def rc36 : RC :=
  (.seq
   (.reg false [⟨(some 1), .box (.t 0), none⟩,
     ⟨(some 2), .mov (.c (.int .i64 0)), none⟩] [1])
   (.seq
    (.reg false [⟨(some 3), .fldB 1 0, none⟩,
      ⟨(some 4), .loadR 3 1 1 false, none⟩,
      ⟨(some 5), .len true (.t 4), none⟩,
      ⟨(some 6), .fldB 1 1, none⟩,
      ⟨(some 7), .loadR 6 1 1 false, none⟩,
      ⟨(some 8), .bin .sub true (.t 5) (.t 7), none⟩,
      ⟨(some 2), .mov (.t 8), none⟩] [2])
    .ret))
def rs36 : List RS := [.tmp 2]

/-- (padlock/quill.Scan).fail -/
def rc37 : RC :=
  (.seq
   (.reg false [⟨(some 2), .box (.t 0), none⟩,
     ⟨(some 4), .alloc [(.str []), (.int .i64 0), (.int .i64 0)], none⟩] [1, 2, 4])
   (.seq
    (.reg false [⟨(some 5), .mov (.t 1), none⟩,
      ⟨(some 6), .fldB 2 2, none⟩,
      ⟨none, .stR 6 2 1 (.t 5), none⟩] [2, 4])
    (.seq
     (.reg false [⟨(some 7), .loadB 2 3 true, none⟩,
       ⟨none, .stB 4 3 (.t 7), none⟩] [4])
     .ret)))
def rs37 : List RS := [.cell 4 3 true]

/-- padlock/padlockref01.bad -/
def rc38 : RC :=
  (.seq
   (.reg false [⟨(some 2), .box (.t 0), none⟩,
     ⟨(some 4), .alloc [(.str []), (.int .i64 0), (.int .i64 0)], none⟩] [1, 2, 4])
   (.seq
    (.reg false [⟨(some 5), .fldB 2 0, none⟩,
      ⟨(some 6), .loadR 5 2 1 false, none⟩,
      ⟨(some 7), .fldB 2 1, none⟩,
      ⟨(some 8), .loadR 7 2 1 false, none⟩,
      ⟨(some 9), .mov (.t 1), none⟩,
      ⟨(some 10), .build [(.str []), (.int .i64 0), (.int .i64 0)] [(0, 1, (.t 6)), (1, 1, (.t 8)), (2, 1, (.t 9))], none⟩,
      ⟨none, .stB 4 3 (.t 10), none⟩] [4])
    .ret))
def rs38 : List RS := [.cell 4 3 true]

/-- strings.Clone -/
def rc39 : RC :=
  (.seq
   (.reg false [⟨(some 2), .mov (.c (.str [])), none⟩] [0])
   (.seq
    (.reg false [⟨(some 3), .mov (.t 0), none⟩,
      ⟨(some 4), .call 40 [(false, (.t 3))], none⟩,
      ⟨(some 2), .mov (.t 4), none⟩] [2])
    .ret))
def rs39 : List RS := [.tmp 2]

end Go.Proofs.Ytmolcbipiiimgaa
