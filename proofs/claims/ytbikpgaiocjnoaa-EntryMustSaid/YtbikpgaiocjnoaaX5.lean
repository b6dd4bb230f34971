/- entry, of the document: a value's bytes, and a value taken of bytes. -/
import Derived.Test.YtbikpgaiocjnoaaX4
import Derived.Test.YtbikpgaiocjnoaaXT
set_option linter.unusedVariables false
set_option linter.unusedSimpArgs false
namespace Go.Proofs.Ytbikpgaiocjnoaa
open Go.Proofs.Ytbikpgaiocjnoaa.Pad Go.Proofs.Ytbikpgaiocjnoaa.Pad.En
/-- padlock/padlockref10.Put -/
def rc14 : RC :=
  (.seq
   (.reg false [⟨(some 1), .box (.t 0), none⟩,
     ⟨(some 2), .mov (.c (.str [])), none⟩] [1])
   (.seq
    (.seq
     (.reg false [⟨(some 9), .fldB 1 0, none⟩,
       ⟨(some 10), .loadR 9 1 1 false, none⟩,
       ⟨(some 11), .bin .eql false (.t 10) (.c (.int .u8 0)), none⟩] [1, 11])
     (.cond 11
      (.seq
       (.reg false [⟨(some 2), .mov (.c (.str [0])), none⟩] [2])
       .ret)
      (.reg false [] [1])))
    (.seq
     (.seq
      (.reg false [⟨(some 12), .fldB 1 0, none⟩,
        ⟨(some 13), .loadR 12 1 1 false, none⟩,
        ⟨(some 14), .bin .eql false (.t 13) (.c (.int .u8 1)), none⟩] [1, 14])
      (.cond 14
       (.seq
        (.seq
         (.reg false [⟨(some 15), .fldB 1 1, none⟩,
           ⟨(some 16), .loadR 15 1 1 false, none⟩,
           ⟨(some 17), .bin .eql false (.t 16) (.c (.int .u64 1)), none⟩] [17])
         (.cond 17
          (.seq
           (.reg false [⟨(some 2), .mov (.c (.str [2])), none⟩] [2])
           .ret)
          (.reg false [] [])))
        (.seq
         (.reg false [⟨(some 2), .mov (.c (.str [1])), none⟩] [2])
         .ret))
       (.reg false [] [1])))
     (.seq
      (.seq
       (.reg false [⟨(some 18), .fldB 1 0, none⟩,
         ⟨(some 19), .loadR 18 1 1 false, none⟩,
         ⟨(some 20), .bin .eql false (.t 19) (.c (.int .u8 2)), none⟩] [1, 20])
       (.cond 20
        (.seq
         (.reg false [⟨(some 21), .mkSl 1 1 [(.int .u8 0)] [(0, 1, (.c (.int .u8 3)))], none⟩,
           ⟨(some 22), .fldB 1 1, none⟩,
           ⟨(some 23), .loadR 22 1 1 false, none⟩,
           ⟨(some 24), .call 30 [(false, (.t 21)), (false, (.c (.int .i64 8))), (false, (.t 23))], none⟩,
           ⟨(some 25), .b2s (.t 24), none⟩,
           ⟨(some 2), .mov (.t 25), none⟩] [2])
         .ret)
        (.reg false [] [1])))
      (.seq
       (.seq
        (.reg false [⟨(some 26), .fldB 1 0, none⟩,
          ⟨(some 27), .loadR 26 1 1 false, none⟩,
          ⟨(some 28), .bin .eql false (.t 27) (.c (.int .u8 3)), none⟩] [1, 28])
        (.cond 28
         (.seq
          (.reg false [⟨(some 30), .mkSl 1 1 [(.int .u8 0)] [(0, 1, (.c (.int .u8 4)))], none⟩,
            ⟨(some 31), .fldB 1 2, none⟩,
            ⟨(some 32), .loadR 31 1 1 false, none⟩,
            ⟨(some 33), .call 31 [(false, (.t 30)), (false, (.t 32))], none⟩,
            ⟨(some 29), .mov (.t 33), none⟩,
            ⟨(some 34), .ext (.t 29) 0, none⟩,
            ⟨(some 35), .ext (.t 29) 1, none⟩,
            ⟨(some 3), .steal 34, none⟩,
            ⟨(some 4), .mov (.t 35), none⟩] [3])
          (.seq
           (.reg false [⟨(some 36), .mov (.t 3), none⟩,
             ⟨(some 37), .b2s (.t 36), none⟩,
             ⟨(some 2), .mov (.t 37), none⟩] [2])
           .ret))
         (.reg false [] [1])))
       (.seq
        (.reg false [⟨(some 38), .fldB 1 0, none⟩,
          ⟨(some 39), .loadR 38 1 1 false, none⟩,
          ⟨(some 40), .bin .add false (.t 39) (.c (.int .u8 1)), none⟩,
          ⟨(some 41), .fldB 1 3, none⟩,
          ⟨(some 42), .loadR 41 1 1 false, none⟩,
          ⟨(some 43), .len false (.t 42), none⟩,
          ⟨(some 44), .conv false .u8 (.t 43), none⟩,
          ⟨(some 45), .mkSl 1 2 [(.int .u8 0), (.int .u8 0)] [(0, 1, (.t 40)), (1, 1, (.t 44))], none⟩,
          ⟨(some 46), .b2s (.t 45), none⟩,
          ⟨(some 5), .mov (.t 46), none⟩] [1, 5])
        (.seq
         (.seq
          (.reg false [⟨(some 6), .mov (.c (.int .i64 0)), none⟩] [1, 5, 6])
          (.block 0
           (.loop
            (.seq
             (.seq
              (.reg false [⟨(some 47), .mov (.t 6), none⟩,
                ⟨(some 48), .fldB 1 3, none⟩,
                ⟨(some 49), .loadR 48 1 1 false, none⟩,
                ⟨(some 50), .len false (.t 49), none⟩,
                ⟨(some 51), .bin .lss true (.t 47) (.t 50), none⟩] [1, 5, 6, 51])
              (.cond 51
               (.reg false [] [1, 5, 6])
               (.seq
                (.reg false [] [5])
                (.exit 0))))
             (.seq
              (.block 1
               (.seq
                (.seq
                 (.reg false [⟨(some 54), .fldB 1 0, none⟩,
                   ⟨(some 55), .loadR 54 1 1 false, none⟩,
                   ⟨(some 56), .bin .eql false (.t 55) (.c (.int .u8 5)), none⟩] [1, 5, 6, 56])
                 (.cond 56
                  (.seq
                   (.reg false [⟨(some 58), .loadB 1 5 true, none⟩,
                     ⟨(some 59), .mov (.t 6), none⟩,
                     ⟨(some 60), .call 28 [(false, (.t 58)), (false, (.t 59))], none⟩,
                     ⟨(some 61), .call 31 [(false, (.c (.row 1 [] 0))), (false, (.t 60))], none⟩,
                     ⟨(some 57), .mov (.t 61), none⟩,
                     ⟨(some 62), .ext (.t 57) 0, none⟩,
                     ⟨(some 63), .ext (.t 57) 1, none⟩,
                     ⟨(some 7), .steal 62, none⟩,
                     ⟨(some 8), .mov (.t 63), none⟩] [1, 5, 6, 7])
                   (.reg false [⟨(some 64), .mov (.t 5), none⟩,
                     ⟨(some 65), .mov (.t 7), none⟩,
                     ⟨(some 66), .b2s (.t 65), none⟩,
                     ⟨(some 67), .bin .add false (.t 64) (.t 66), none⟩,
                     ⟨(some 5), .mov (.t 67), none⟩] [1, 5, 6]))
                  (.reg false [] [1, 5, 6])))
                (.reg false [⟨(some 68), .mov (.t 5), none⟩,
                  ⟨(some 69), .fldB 1 3, none⟩,
                  ⟨(some 70), .loadR 69 1 1 false, none⟩,
                  ⟨(some 71), .mov (.t 6), none⟩,
                  ⟨(some 72), .idxA 5 (.t 70) (.t 71), none⟩,
                  ⟨(some 73), .loadP (.t 72) 5 true, none⟩,
                  ⟨(some 74), .call 14 [(false, (.t 73))], none⟩,
                  ⟨(some 75), .bin .add false (.t 68) (.t 74), none⟩,
                  ⟨(some 5), .mov (.t 75), none⟩] [1, 5, 6])))
              (.reg false [⟨(some 52), .mov (.t 6), none⟩,
                ⟨(some 53), .bin .add true (.t 52) (.c (.int .i64 1)), none⟩,
                ⟨(some 6), .mov (.t 53), none⟩] [1, 5, 6]))))))
         (.seq
          (.reg false [⟨(some 76), .mov (.t 5), none⟩,
            ⟨(some 2), .mov (.t 76), none⟩] [2])
          .ret))))))))
def rs14 : List RS := [.tmp 2]
/-- padlock/padlockref10.one -/
def rc34 : RC :=
  (.seq
   (.reg false [⟨(some 2), .box (.t 0), none⟩,
     ⟨(some 4), .alloc [(.int .u8 0), (.int .u64 0), (.str []), (.sl [] 0), (.sl [] 0)], none⟩,
     ⟨(some 5), .alloc [(.str []), (.int .i64 0), (.int .i64 0)], none⟩] [1, 2, 4, 5])
   (.seq
    (.reg false [⟨(some 19), .loadB 2 3 true, none⟩,
      ⟨(some 20), .call 51 [(false, (.t 19)), (false, (.c (.int .i64 1)))], none⟩,
      ⟨(some 18), .mov (.t 20), none⟩,
      ⟨(some 21), .ext (.t 18) 0, none⟩,
      ⟨(some 22), .ext (.t 18) 1, none⟩,
      ⟨(some 6), .mov (.t 21), none⟩,
      ⟨none, .stB 2 3 (.t 22), none⟩] [1, 2, 4, 5, 6])
    (.seq
     (.seq
      (.reg false [⟨(some 23), .fldB 2 2, none⟩,
        ⟨(some 24), .loadR 23 2 1 false, none⟩,
        ⟨(some 25), .bin .neq true (.t 24) (.c (.int .i64 0)), none⟩] [1, 2, 4, 5, 6, 25])
      (.cond 25
       (.seq
        (.reg true [⟨(some 26), .build [(.int .u8 0), (.int .u64 0), (.str []), (.sl [] 0), (.sl [] 0)] [], none⟩,
          ⟨(some 27), .loadB 2 3 true, none⟩,
          ⟨none, .stB 4 5 (.t 26), none⟩,
          ⟨none, .stB 5 3 (.t 27), none⟩] [4, 5])
        .ret)
       (.reg false [] [1, 2, 4, 5, 6])))
     (.seq
      (.seq
       (.reg false [⟨(some 28), .mov (.t 6), none⟩,
         ⟨(some 29), .bin .gtr false (.t 28) (.c (.int .u64 6)), none⟩] [1, 2, 4, 5, 6, 29])
       (.cond 29
        (.seq
         (.reg false [⟨(some 30), .fldB 2 2, none⟩,
           ⟨none, .stR 30 2 1 (.c (.int .i64 22)), none⟩] [2, 4, 5])
         (.seq
          (.reg true [⟨(some 31), .build [(.int .u8 0), (.int .u64 0), (.str []), (.sl [] 0), (.sl [] 0)] [], none⟩,
            ⟨(some 32), .loadB 2 3 true, none⟩,
            ⟨none, .stB 4 5 (.t 31), none⟩,
            ⟨none, .stB 5 3 (.t 32), none⟩] [4, 5])
          .ret))
        (.reg false [] [1, 2, 4, 5, 6])))
      (.seq
       (.seq
        (.reg false [⟨(some 33), .mov (.t 6), none⟩,
          ⟨(some 34), .bin .eql false (.t 33) (.c (.int .u64 0)), none⟩] [1, 2, 4, 5, 6, 34])
        (.cond 34
         (.seq
          (.reg true [⟨(some 35), .build [(.int .u8 0), (.int .u64 0), (.str []), (.sl [] 0), (.sl [] 0)] [], none⟩,
            ⟨(some 36), .loadB 2 3 true, none⟩,
            ⟨none, .stB 4 5 (.t 35), none⟩,
            ⟨none, .stB 5 3 (.t 36), none⟩] [4, 5])
          .ret)
         (.reg false [] [1, 2, 4, 5, 6])))
       (.seq
        (.seq
         (.reg false [⟨(some 37), .mov (.t 6), none⟩,
           ⟨(some 38), .bin .lss false (.t 37) (.c (.int .u64 3)), none⟩] [1, 2, 4, 5, 6, 38])
         (.cond 38
          (.seq
           (.reg true [⟨(some 39), .mov (.t 6), none⟩,
             ⟨(some 40), .bin .sub false (.t 39) (.c (.int .u64 1)), none⟩,
             ⟨(some 41), .build [(.int .u8 0), (.int .u64 0), (.str []), (.sl [] 0), (.sl [] 0)] [(0, 1, (.c (.int .u8 1))), (1, 1, (.t 40))], none⟩,
             ⟨(some 42), .loadB 2 3 true, none⟩,
             ⟨none, .stB 4 5 (.t 41), none⟩,
             ⟨none, .stB 5 3 (.t 42), none⟩] [4, 5])
           .ret)
          (.reg false [] [1, 2, 4, 5, 6])))
        (.seq
         (.seq
          (.reg false [⟨(some 43), .mov (.t 6), none⟩,
            ⟨(some 44), .bin .eql false (.t 43) (.c (.int .u64 3)), none⟩] [1, 2, 4, 5, 6, 44])
          (.cond 44
           (.seq
            (.reg false [⟨(some 46), .loadB 2 3 true, none⟩,
              ⟨(some 47), .call 51 [(false, (.t 46)), (false, (.c (.int .i64 8)))], none⟩,
              ⟨(some 45), .mov (.t 47), none⟩,
              ⟨(some 48), .ext (.t 45) 0, none⟩,
              ⟨(some 49), .ext (.t 45) 1, none⟩,
              ⟨(some 8), .alloc [(.str []), (.int .i64 0), (.int .i64 0)], none⟩,
              ⟨(some 7), .mov (.t 48), none⟩,
              ⟨none, .stB 8 3 (.t 49), none⟩] [4, 5, 7, 8])
            (.seq
             (.reg true [⟨(some 50), .mov (.t 7), none⟩,
               ⟨(some 51), .build [(.int .u8 0), (.int .u64 0), (.str []), (.sl [] 0), (.sl [] 0)] [(0, 1, (.c (.int .u8 2))), (1, 1, (.t 50))], none⟩,
               ⟨(some 52), .loadB 8 3 true, none⟩,
               ⟨none, .stB 4 5 (.t 51), none⟩,
               ⟨none, .stB 5 3 (.t 52), none⟩] [4, 5])
             .ret))
           (.reg false [] [1, 2, 4, 5, 6])))
         (.seq
          (.seq
           (.reg false [⟨(some 53), .mov (.t 6), none⟩,
             ⟨(some 54), .bin .eql false (.t 53) (.c (.int .u64 4)), none⟩] [1, 2, 4, 5, 6, 54])
           (.cond 54
            (.seq
             (.reg false [⟨(some 56), .loadB 2 3 true, none⟩,
               ⟨(some 57), .call 52 [(false, (.t 56))], none⟩,
               ⟨(some 55), .mov (.t 57), none⟩,
               ⟨(some 58), .ext (.t 55) 0, none⟩,
               ⟨(some 59), .ext (.t 55) 1, none⟩,
               ⟨(some 10), .alloc [(.str []), (.int .i64 0), (.int .i64 0)], none⟩,
               ⟨(some 9), .mov (.t 58), none⟩,
               ⟨none, .stB 10 3 (.t 59), none⟩] [4, 5, 9, 10])
             (.seq
              (.reg true [⟨(some 60), .mov (.t 9), none⟩,
                ⟨(some 61), .build [(.int .u8 0), (.int .u64 0), (.str []), (.sl [] 0), (.sl [] 0)] [(0, 1, (.c (.int .u8 3))), (2, 1, (.t 60))], none⟩,
                ⟨(some 62), .loadB 10 3 true, none⟩,
                ⟨none, .stB 4 5 (.t 61), none⟩,
                ⟨none, .stB 5 3 (.t 62), none⟩] [4, 5])
              .ret))
            (.reg false [] [1, 2, 4, 5, 6])))
          (.seq
           (.seq
            (.reg false [⟨(some 63), .mov (.t 1), none⟩,
              ⟨(some 64), .bin .geq true (.t 63) (.c (.int .i64 4)), none⟩] [1, 2, 4, 5, 6, 64])
            (.cond 64
             (.seq
              (.reg false [⟨(some 65), .fldB 2 2, none⟩,
                ⟨none, .stR 65 2 1 (.c (.int .i64 24)), none⟩] [2, 4, 5])
              (.seq
               (.reg true [⟨(some 66), .build [(.int .u8 0), (.int .u64 0), (.str []), (.sl [] 0), (.sl [] 0)] [], none⟩,
                 ⟨(some 67), .loadB 2 3 true, none⟩,
                 ⟨none, .stB 4 5 (.t 66), none⟩,
                 ⟨none, .stB 5 3 (.t 67), none⟩] [4, 5])
               .ret))
             (.reg false [] [1, 2, 4, 5, 6])))
           (.seq
            (.reg false [⟨(some 69), .loadB 2 3 true, none⟩,
              ⟨(some 70), .call 51 [(false, (.t 69)), (false, (.c (.int .i64 1)))], none⟩,
              ⟨(some 68), .mov (.t 70), none⟩,
              ⟨(some 71), .ext (.t 68) 0, none⟩,
              ⟨(some 72), .ext (.t 68) 1, none⟩,
              ⟨(some 11), .mov (.t 71), none⟩,
              ⟨none, .stB 2 3 (.t 72), none⟩] [1, 2, 4, 5, 6, 11])
            (.seq
             (.reg false [⟨(some 73), .mov (.t 6), none⟩,
               ⟨(some 74), .bin .sub false (.t 73) (.c (.int .u64 1)), none⟩,
               ⟨(some 75), .conv false .u8 (.t 74), none⟩,
               ⟨(some 76), .build [(.int .u8 0), (.int .u64 0), (.str []), (.nilS 5), (.nilS 1)] [(0, 1, (.t 75))], none⟩,
               ⟨(some 12), .allocO [(.int .u8 0), (.int .u64 0), (.str []), (.nilS 5), (.nilS 1)], none⟩,
               ⟨none, .stO 12 5 (.t 76), none⟩] [1, 2, 4, 5, 6, 11, 12])
             (.seq
              (.seq
               (.reg false [⟨(some 77), .fldB 2 2, none⟩,
                 ⟨(some 78), .loadR 77 2 1 false, none⟩,
                 ⟨(some 79), .bin .eql true (.t 78) (.c (.int .i64 0)), none⟩,
                 ⟨(some 80), .mov (.t 79), none⟩,
                 ⟨(some 81), .mov (.t 11), (some (80, true))⟩,
                 ⟨(some 82), .bin .gtr false (.t 81) (.c (.int .u64 64)), (some (80, true))⟩,
                 ⟨(some 83), .pick (.t 80) (.t 82) (.c (.bool false)), none⟩] [1, 2, 4, 5, 6, 11, 12, 83])
               (.cond 83
                (.reg false [⟨(some 84), .fldB 2 2, none⟩,
                  ⟨none, .stR 84 2 1 (.c (.int .i64 5)), none⟩] [1, 2, 4, 5, 6, 11, 12])
                (.reg false [] [1, 2, 4, 5, 6, 11, 12])))
              (.seq
               (.seq
                (.reg false [⟨(some 13), .mov (.c (.int .i64 0)), none⟩] [1, 2, 4, 5, 6, 11, 12, 13])
                (.block 0
                 (.loop
                  (.seq
                   (.seq
                    (.reg false [⟨(some 85), .mov (.t 13), none⟩,
                      ⟨(some 86), .mov (.t 11), none⟩,
                      ⟨(some 87), .conv true .i64 (.t 86), none⟩,
                      ⟨(some 88), .bin .lss true (.t 85) (.t 87), none⟩,
                      ⟨(some 89), .mov (.t 88), none⟩,
                      ⟨(some 90), .fldB 2 2, (some (89, true))⟩,
                      ⟨(some 91), .loadR 90 2 1 false, (some (89, true))⟩,
                      ⟨(some 92), .bin .eql true (.t 91) (.c (.int .i64 0)), (some (89, true))⟩,
                      ⟨(some 93), .pick (.t 89) (.t 92) (.c (.bool false)), none⟩] [1, 2, 4, 5, 6, 11, 12, 13, 93])
                    (.cond 93
                     (.reg false [] [1, 2, 4, 5, 6, 11, 12, 13])
                     (.seq
                      (.reg false [] [2, 4, 5, 12])
                      (.exit 0))))
                   (.seq
                    (.block 1
                     (.seq
                      (.seq
                       (.reg false [⟨(some 96), .mov (.t 6), none⟩,
                         ⟨(some 97), .bin .eql false (.t 96) (.c (.int .u64 6)), none⟩] [1, 2, 4, 5, 6, 11, 12, 13, 97])
                       (.cond 97
                        (.seq
                         (.reg false [⟨(some 99), .loadB 2 3 true, none⟩,
                           ⟨(some 100), .call 52 [(false, (.t 99))], none⟩,
                           ⟨(some 98), .mov (.t 100), none⟩,
                           ⟨(some 101), .ext (.t 98) 0, none⟩,
                           ⟨(some 102), .ext (.t 98) 1, none⟩,
                           ⟨(some 15), .alloc [(.str []), (.int .i64 0), (.int .i64 0)], none⟩,
                           ⟨(some 14), .mov (.t 101), none⟩,
                           ⟨none, .stB 15 3 (.t 102), none⟩] [1, 2, 4, 5, 6, 11, 12, 13, 14, 15])
                         (.seq
                          (.reg false [⟨(some 103), .loadB 15 3 true, none⟩,
                            ⟨none, .stB 2 3 (.t 103), none⟩] [1, 2, 4, 5, 6, 11, 12, 13, 14])
                          (.seq
                           (.seq
                            (.reg false [⟨(some 104), .fldB 2 2, none⟩,
                              ⟨(some 105), .loadR 104 2 1 false, none⟩,
                              ⟨(some 106), .bin .eql true (.t 105) (.c (.int .i64 0)), none⟩,
                              ⟨(some 107), .mov (.t 106), none⟩,
                              ⟨(some 108), .mov (.t 13), (some (107, true))⟩,
                              ⟨(some 109), .bin .gtr true (.t 108) (.c (.int .i64 0)), (some (107, true))⟩,
                              ⟨(some 110), .pick (.t 107) (.t 109) (.c (.bool false)), none⟩,
                              ⟨(some 111), .mov (.t 110), none⟩,
                              ⟨(some 112), .fldO 12 4, (some (111, true))⟩,
                              ⟨(some 113), .loadRO 112 12 1 false, (some (111, true))⟩,
                              ⟨(some 114), .mov (.t 13), (some (111, true))⟩,
                              ⟨(some 115), .bin .sub true (.t 114) (.c (.int .i64 1)), (some (111, true))⟩,
                              ⟨(some 116), .idxA 1 (.t 113) (.t 115), (some (111, true))⟩,
                              ⟨(some 117), .loadP (.t 116) 1 false, (some (111, true))⟩,
                              ⟨(some 118), .mov (.t 14), (some (111, true))⟩,
                              ⟨(some 119), .bin .geq false (.t 117) (.t 118), (some (111, true))⟩,
                              ⟨(some 120), .pick (.t 111) (.t 119) (.c (.bool false)), none⟩] [1, 2, 4, 5, 6, 11, 12, 13, 14, 120])
                            (.cond 120
                             (.reg false [⟨(some 121), .fldB 2 2, none⟩,
                               ⟨none, .stR 121 2 1 (.c (.int .i64 4)), none⟩] [1, 2, 4, 5, 6, 11, 12, 13, 14])
                             (.reg false [] [1, 2, 4, 5, 6, 11, 12, 13, 14])))
                           (.seq
                            (.seq
                             (.reg false [⟨(some 122), .fldB 2 2, none⟩,
                               ⟨(some 123), .loadR 122 2 1 false, none⟩,
                               ⟨(some 124), .bin .neq true (.t 123) (.c (.int .i64 0)), none⟩] [1, 2, 4, 5, 6, 11, 12, 13, 14, 124])
                             (.cond 124
                              (.seq
                               (.reg true [⟨(some 125), .build [(.int .u8 0), (.int .u64 0), (.str []), (.sl [] 0), (.sl [] 0)] [], none⟩,
                                 ⟨(some 126), .loadB 2 3 true, none⟩,
                                 ⟨none, .stB 4 5 (.t 125), none⟩,
                                 ⟨none, .stB 5 3 (.t 126), none⟩] [4, 5])
                               .ret)
                              (.reg false [] [1, 2, 4, 5, 6, 11, 12, 13, 14])))
                            (.reg false [⟨(some 127), .fldO 12 4, none⟩,
                              ⟨(some 128), .takeO 127 12, none⟩,
                              ⟨(some 129), .mov (.t 14), none⟩,
                              ⟨(some 130), .mkSl 1 1 [(.str [])] [(0, 1, (.t 129))], none⟩,
                              ⟨(some 131), .app 1 16 (.t 128) (.t 130), none⟩,
                              ⟨(some 132), .fldO 12 4, none⟩,
                              ⟨none, .putO 132 12 131, none⟩] [1, 2, 4, 5, 6, 11, 12, 13])))))
                        (.reg false [] [1, 2, 4, 5, 6, 11, 12, 13])))
                      (.seq
                       (.reg false [⟨(some 134), .loadB 2 3 true, none⟩,
                         ⟨(some 135), .mov (.t 1), none⟩,
                         ⟨(some 136), .bin .add true (.t 135) (.c (.int .i64 1)), none⟩,
                         ⟨(some 137), .call 34 [(false, (.t 134)), (false, (.t 136))], none⟩,
                         ⟨(some 133), .mov (.t 137), none⟩,
                         ⟨(some 138), .ext (.t 133) 0, none⟩,
                         ⟨(some 139), .ext (.t 133) 1, none⟩,
                         ⟨(some 16), .alloc [(.int .u8 0), (.int .u64 0), (.str []), (.sl [] 0), (.sl [] 0)], none⟩,
                         ⟨(some 17), .alloc [(.str []), (.int .i64 0), (.int .i64 0)], none⟩,
                         ⟨none, .stB 16 5 (.t 138), none⟩,
                         ⟨none, .stB 17 3 (.t 139), none⟩] [1, 2, 4, 5, 6, 11, 12, 13, 16, 17])
                       (.seq
                        (.reg false [⟨(some 140), .loadB 17 3 true, none⟩,
                          ⟨none, .stB 2 3 (.t 140), none⟩] [1, 2, 4, 5, 6, 11, 12, 13, 16])
                        (.reg false [⟨(some 141), .fldO 12 3, none⟩,
                          ⟨(some 142), .takeO 141 12, none⟩,
                          ⟨(some 143), .loadB 16 5 true, none⟩,
                          ⟨(some 144), .mkSl 5 1 [(.int .u8 0), (.int .u64 0), (.str []), (.sl [] 0), (.sl [] 0)] [(0, 5, (.t 143))], none⟩,
                          ⟨(some 145), .app 5 80 (.t 142) (.t 144), none⟩,
                          ⟨(some 146), .fldO 12 3, none⟩,
                          ⟨none, .putO 146 12 145, none⟩] [1, 2, 4, 5, 6, 11, 12, 13])))))
                    (.reg false [⟨(some 94), .mov (.t 13), none⟩,
                      ⟨(some 95), .bin .add true (.t 94) (.c (.int .i64 1)), none⟩,
                      ⟨(some 13), .mov (.t 95), none⟩] [1, 2, 4, 5, 6, 11, 12, 13]))))))
               (.seq
                (.reg true [⟨(some 147), .loadO 12 5 true, none⟩,
                  ⟨(some 148), .loadB 2 3 true, none⟩,
                  ⟨none, .stB 4 5 (.t 147), none⟩,
                  ⟨none, .stB 5 3 (.t 148), none⟩] [4, 5])
                .ret))))))))))))))
def rs34 : List RS := [.cell 4 5 true, .cell 5 3 true]
/-- padlock/padlockref10.Take -/
def rc16 : RC :=
  (.seq
   (.reg false [⟨(some 2), .alloc [(.int .u8 0), (.int .u64 0), (.str []), (.sl [] 0), (.sl [] 0)], none⟩,
     ⟨(some 3), .mov (.c (.int .i64 0)), none⟩] [0, 2])
   (.seq
    (.reg false [⟨(some 8), .mov (.t 0), none⟩,
      ⟨(some 9), .build [(.str []), (.int .i64 0), (.int .i64 0)] [(0, 1, (.t 8))], none⟩,
      ⟨(some 10), .call 34 [(false, (.t 9)), (false, (.c (.int .i64 0)))], none⟩,
      ⟨(some 7), .mov (.t 10), none⟩,
      ⟨(some 11), .ext (.t 7) 0, none⟩,
      ⟨(some 12), .ext (.t 7) 1, none⟩,
      ⟨(some 4), .alloc [(.int .u8 0), (.int .u64 0), (.str []), (.sl [] 0), (.sl [] 0)], none⟩,
      ⟨(some 5), .alloc [(.str []), (.int .i64 0), (.int .i64 0)], none⟩,
      ⟨none, .stB 4 5 (.t 11), none⟩,
      ⟨none, .stB 5 3 (.t 12), none⟩] [2, 4, 5])
    (.seq
     (.reg false [⟨(some 13), .loadB 5 3 true, none⟩,
       ⟨(some 14), .call 35 [(false, (.t 13))], none⟩,
       ⟨(some 6), .mov (.t 14), none⟩] [2, 4, 6])
     (.seq
      (.seq
       (.reg false [⟨(some 15), .mov (.t 6), none⟩,
         ⟨(some 16), .bin .neq true (.t 15) (.c (.int .i64 0)), none⟩] [2, 4, 6, 16])
       (.cond 16
        (.seq
         (.reg false [⟨(some 17), .build [(.int .u8 0), (.int .u64 0), (.str []), (.sl [] 0), (.sl [] 0)] [], none⟩,
           ⟨(some 18), .mov (.t 6), none⟩,
           ⟨none, .stB 2 5 (.t 17), none⟩,
           ⟨(some 3), .mov (.t 18), none⟩] [2, 3])
         .ret)
        (.reg false [] [2, 4])))
      (.seq
       (.reg false [⟨(some 19), .loadB 4 5 true, none⟩,
         ⟨none, .stB 2 5 (.t 19), none⟩,
         ⟨(some 3), .mov (.c (.int .i64 0)), none⟩] [2, 3])
       .ret)))))
def rs16 : List RS := [.cell 2 5 true, .tmp 3]
theorem encL_app (p : Bool) (names : List Tx) : ∀ (a b : List Nd) (i : Nat), encL p names i (a ++ b) = encL p names i a ++ encL p names (i + a.length) b
  | [], b, i => by simp [encL]
  | x :: a, b, i => by
    rw [List.cons_append, encL, encL, encL_app p names a b (i + 1), List.length_cons, show i + 1 + a.length = i + (a.length + 1) by omega]
    simp
theorem encL_step (p : Bool) (names : List Tx) (l : List Nd) (j : Nat) (h : j < l.length) : encL p names 0 (l.take (j + 1)) = encL p names 0 (l.take j) ++ ((bif p then rowB (nm names j) else []) ++ encN l[j]) := by
  rw [take_one l j h, encL_app, List.length_take, Nat.zero_add, Nat.min_eq_left (by omega)]
  simp [encL]
theorem encL_le (p : Bool) (names : List Tx) (l : List Nd) (j : Nat) (h : j < l.length) : (encL p names 0 (l.take (j + 1))).length ≤ (encL p names 0 l).length := by
  have : l = l.take (j + 1) ++ l.drop (j + 1) := (List.take_append_drop ..).symm
  conv => rhs; rw [this, encL_app, List.length_append]
  omega
theorem chkL_kid {d : Nat} {p : Bool} {names : List Tx} : ∀ {l : List Nd} {i : Nat}, chkL d p names i l = 0 → ∀ (j : Nat) (h : j < l.length), chk d l[j] = 0 ∧ (p = true → (nm names (i + j)).length ≤ 65535)
  | [], _, _, j, h => by simp at h
  | x :: l, i, hc, 0, _ => by
    obtain ⟨c1, _, c3, _⟩ := (chkL_cons ..).1 hc
    exact ⟨c3, c1⟩
  | x :: l, i, hc, j + 1, h => by
    obtain ⟨_, _, _, c4⟩ := (chkL_cons ..).1 hc
    have := chkL_kid c4 j (by simpa using h)
    rwa [show i + 1 + j = i + (j + 1) by omega] at this
noncomputable def R14 (m : Nat) : Tab := tabAdd T17 14 (fun z : Nd => ((∃ d, chk d z = 0) ∧ (encN z).length ≤ 100000) ∧ z.sz < m) (fun z => [.agg z.av]) (fun z => .str (encN z))
theorem R14_eq (m : Nat) (x : Nd) (h : (∃ d, chk d x = 0) ∧ (encN x).length ≤ 100000) (hm : x.sz < m) : R14 m 14 [.agg x.av] = some (.str (encN x)) := tabAdd_eq (a := x) (by intro a b h; simp only [List.cons.injEq, AV.agg.injEq, and_true] at h; rw [av_inj _ _ h]) ⟨h, hm⟩ rfl
@[simp] theorem R14_ne {m g : Nat} {xs : List AV} (h : g ≠ 14) : R14 m g xs = T17 g xs := tabAdd_ne h
theorem pf14 (x : Nd) (h : (∃ d, chk d x = 0) ∧ (encN x).length ≤ 100000) : PFx Try.prog 14 [.agg x.av] (.str (encN x)) := by
  refine tabRec (T := T17) (p := fun z : Nd => (∃ d, chk d z = 0) ∧ (encN z).length ≤ 100000) (args := fun z => [.agg z.av]) (res := fun z => .str (encN z)) (fun z => z.sz) T17_ok (fun z h hT => ?_) (by unfold inPlace; omega) x h
  rename Nd => x
  try dsimp only at h
  replace hT : Sound Try.prog (R14 (x.sz)) := hT
  refine PFx_of_W (rc := rc14) (rs := rs14) Try.func14 rfl hT hm (by kernel_rfl) (by kernel_rfl) (by simp [Try.ntmps14]) ?_
  obtain ⟨k, n, s, kids, names⟩ := x
  obtain ⟨⟨d, hd⟩, hlen⟩ := h
  obtain ⟨c1, c2, c3⟩ := chk_kind hd
  have hname : ∀ i : Nat, T28 28 [.agg (Nd.av (.mk k n s kids names)), .int .i64 i] = some (.str (nm names i)) := fun i => T28_eq (.mk k n s kids names) i
  simp only [Nd.av] at hname ⊢
  by_cases h0 : k.toNat = 0
  · have h0' : (k.toNat : Int) = 0 := by omega
    simp [rc14, rs14, h0, h0', encN]
  have h0' : ¬ (k.toNat : Int) = 0 := by omega
  by_cases h1 : k.toNat = 1
  · have h1' : (k.toNat : Int) = 1 := by omega
    by_cases hb : bv n = 1
    · simp [rc14, rs14, h1, h1', hb, encN]
    · simp [rc14, rs14, h1, h1', hb, encN]
  have h1' : ¬ (k.toNat : Int) = 1 := by omega
  by_cases h2 : k.toNat = 2
  · have h2' : (k.toNat : Int) = 2 := by omega
    have e : T30 30 [.sl [.int .u8 3] 1, .int .i64 8, .int .u64 (bv n)] = some (.row 1 (bytesAV (3 :: beB 8 n.toNat)) 9) := by
      have := T30_eq [3] 8 n.toNat ⟨by decide, n.isLt⟩
      simpa [numB, bytesAV, bv] using this
    simp [rc14, rs14, h0', h1', h2, h2', e, encN]
  have h2' : ¬ (k.toNat : Int) = 2 := by omega
  by_cases h3 : k.toNat = 3
  · have h3' : (k.toNat : Int) = 3 := by omega
    have e : T31 31 [.sl [.int .u8 4] 1, .str s] = some (.tup [.sl (bytesAV (4 :: rowB s)) (1 + (2 + s.length)), .int .i64 0]) := by
      have := T31_eq [4] s ⟨by decide, c2 h3⟩
      simpa [bytesAV] using this
    simp [rc14, rs14, h0', h1', h2', h3, h3', e, encN]
    omega
  have h3' : ¬ (k.toNat : Int) = 3 := by omega
  obtain ⟨g1, g2, g3⟩ := c3 (by omega)
  have hk : k.toNat = 4 ∨ k.toNat = 5 := by omega
  have e1 : IntKind.u8.wrap ((k.toNat : Int) + 1) = ((k.toNat + 1 : Nat) : Int) := by rw [u8_wrap]; omega
  have e2 : IntKind.u8.wrap (kids.length : Int) = (kids.length : Int) := by rw [u8_wrap]; omega
  obtain ⟨p, hp⟩ : ∃ p, p = decide (k.toNat = 5) := ⟨_, rfl⟩
  rw [← hp] at g3
  have hE : encN (.mk k n s kids names) = UInt8.ofNat (k.toNat + 1) :: UInt8.ofNat kids.length :: encL p names 0 kids := by
    rw [encN, if_neg h0, if_neg h1, if_neg h2, if_neg h3, hp]
  rw [hE] at hlen ⊢
  simp only [List.length_cons] at hlen
  simp [rc14, rs14, h0', h1', h2', h3', e1, e2, h0, h1, h2, h3]
  refine W_forU kids.length (fun _ => True) (fun i => [(5, .str (UInt8.ofNat (k.toNat + 1) :: UInt8.ofNat kids.length :: encL p names 0 (kids.take i))), (6, .int .i64 i)]) trivial (by simp [encL]) (fun i hi _ => ?_) fun _ => ?_
  · have hi' : (i : Int) < kids.length := by omega
    obtain ⟨k1, k2⟩ := chkL_kid g3 i hi
    have hle := encL_le p names kids i hi
    rw [encL_step p names kids i hi] at hle
    have q := R14_eq (Nd.sz (.mk k n s kids names)) kids[i] ⟨⟨_, k1⟩, by simp at hle; omega⟩ (size_kid hi)
    rw [← avs_get kids i hi] at q
    have q1 := hname i
    have hb : 5 ≤ kids.length * 5 - i * 5 := by omega
    have e := encL_step p names kids i hi
    by_cases h5 : k.toNat = 5
    · have h5' : (k.toNat : Int) = 5 := by omega
      have r := T31_eq [] (nm names i) ⟨by decide, by have := k2 (by rw [hp]; simpa using h5); rwa [Nat.zero_add] at this⟩
      simp only [List.nil_append, bytesAV_nil, List.length_nil, Nat.zero_add] at r
      have hp' : p = true := by rw [hp]; simpa using h5
      rw [hp', cond_true] at e
      rw [hp', cond_true] at hle
      rw [hp'] at hlen
      rw [h5'] at q1
      simp at hle
      simp [hi, hi', h5, h5', q, q1, r, hb, e, hp']
      omega
    · have h5' : ¬ (k.toNat : Int) = 5 := by omega
      have hp' : p = false := by rw [hp]; simpa using h5
      rw [hp', cond_false] at e
      rw [hp', cond_false] at hle
      rw [hp'] at hlen
      simp at hle
      simp [hi, hi', h5, h5', q, hb, e, hp']
      omega
  · simp
noncomputable def T14 : Tab := tabAdd T17 14 (fun z : Nd => (∃ d, chk d z = 0) ∧ (encN z).length ≤ 100000) (fun z => [.agg z.av]) (fun z => .str (encN z))
@[simp] theorem T14_eq (x : Nd) (h : (∃ d, chk d x = 0) ∧ (encN x).length ≤ 100000) : T14 14 [.agg x.av] = some (.str (encN x)) := tabAdd_eq (a := x) (by intro a b h; simp only [List.cons.injEq, AV.agg.injEq, and_true] at h; rw [av_inj _ _ h]) h rfl
@[simp] theorem T14_ne {g : Nat} {xs : List AV} (h : g ≠ 14) : T14 g xs = T17 g xs := tabAdd_ne h
theorem T14_ok : Sound Try.prog T14 := tabAdd_sound T17_ok fun z h => pf14 z h
theorem nd0_av : nd0.av = [.int .u8 0, .int .u64 0, .str [], .sl [] 0, .sl [] 0] := by simp [nd0, Nd.av, avs, bv]
theorem tk_inj {α : Type} {f : Tx → Int → Int → Nat → α} : ∀ z z' : Tx × Int × Int × Nat, [AV.agg [.str z.1, .int .i64 z.2.1, .int .i64 z.2.2.1], .int .i64 z.2.2.2] = [AV.agg [.str z'.1, .int .i64 z'.2.1, .int .i64 z'.2.2.1], .int .i64 z'.2.2.2] → f z.1 z.2.1 z.2.2.1 z.2.2.2 = f z'.1 z'.2.1 z'.2.2.1 z'.2.2.2 := by
  rintro ⟨t, a, b, d⟩ ⟨t', a', b', d'⟩ h
  simp only [List.cons.injEq, AV.agg.injEq, AV.str.injEq, AV.int.injEq, true_and, and_true, Int.natCast_inj] at h
  obtain ⟨⟨h1, h2, h3⟩, h4⟩ := h
  rw [h1, h2, h3, h4]
def scn (t : Tx) (a b : Int) : AV := .agg [.str t, .int .i64 a, .int .i64 b]
noncomputable def R34 (m : Nat) : Tab := tabAdd T14 34 (fun z : Tx × Int × Int × Nat => (z.2.2.2 ≤ 4 ∧ z.1.length ≤ 1000000) ∧ 4 - z.2.2.2 < m) (fun z => [.agg [.str z.1, .int .i64 z.2.1, .int .i64 z.2.2.1], .int .i64 z.2.2.2]) (fun z => .tup [.agg (oneN (4 - z.2.2.2) z.1 z.2.1 z.2.2.1).1.av, .agg [.str z.1, .int .i64 (oneN (4 - z.2.2.2) z.1 z.2.1 z.2.2.1).2.1, .int .i64 (oneN (4 - z.2.2.2) z.1 z.2.1 z.2.2.1).2.2]])
theorem R34_eq (m : Nat) (t : Tx) (a : Int) (b : Int) (d : Nat) (h : d ≤ 4 ∧ t.length ≤ 1000000) (hm : 4 - d < m) : R34 m 34 [.agg [.str t, .int .i64 a, .int .i64 b], .int .i64 d] = some (.tup [.agg (oneN (4 - d) t a b).1.av, .agg [.str t, .int .i64 (oneN (4 - d) t a b).2.1, .int .i64 (oneN (4 - d) t a b).2.2]]) := tabAdd_eq (a := (t, a, b, d)) (tk_inj (f := fun t a b d => AV.tup [.agg (oneN (4 - d) t a b).1.av, .agg [.str t, .int .i64 (oneN (4 - d) t a b).2.1, .int .i64 (oneN (4 - d) t a b).2.2]])) ⟨h, hm⟩ rfl
@[simp] theorem R34_ne {m g : Nat} {xs : List AV} (h : g ≠ 34) : R34 m g xs = T14 g xs := tabAdd_ne h
theorem pf34 (t : Tx) (a : Int) (b : Int) (d : Nat) (h : d ≤ 4 ∧ t.length ≤ 1000000) : PFx Try.prog 34 [.agg [.str t, .int .i64 a, .int .i64 b], .int .i64 d] (.tup [.agg (oneN (4 - d) t a b).1.av, .agg [.str t, .int .i64 (oneN (4 - d) t a b).2.1, .int .i64 (oneN (4 - d) t a b).2.2]]) := by
  refine tabRec (T := T14) (p := fun z : Tx × Int × Int × Nat => z.2.2.2 ≤ 4 ∧ z.1.length ≤ 1000000) (args := fun z => [.agg [.str z.1, .int .i64 z.2.1, .int .i64 z.2.2.1], .int .i64 z.2.2.2]) (res := fun z => .tup [.agg (oneN (4 - z.2.2.2) z.1 z.2.1 z.2.2.1).1.av, .agg [.str z.1, .int .i64 (oneN (4 - z.2.2.2) z.1 z.2.1 z.2.2.1).2.1, .int .i64 (oneN (4 - z.2.2.2) z.1 z.2.1 z.2.2.1).2.2]]) (fun z => 4 - z.2.2.2) T14_ok (fun z h hT => ?_) (by unfold inPlace; omega) (t, a, b, d) h
  obtain ⟨t, a, b, d⟩ := z
  try dsimp only at h
  replace hT : Sound Try.prog (R34 (4 - d)) := hT
  refine PFx_of_W (rc := rc34) (rs := rs34) Try.func34 rfl hT hm (by kernel_rfl) (by kernel_rfl) (by simp [Try.ntmps34]) ?_
  obtain ⟨hd, ht⟩ := h
  have tn := fun (a b size : Int) => T51_eq t a b size ht
  have tr := fun (a b : Int) => T52_eq t a b ht
  obtain ⟨big, hbig, hb0, hb1⟩ : ∃ big, oneN (4 - d) = oneS big ∧ (d = 4 → big = fun _ _ a _ => (nd0, a, 24)) ∧ (d < 4 → big = oneL (oneN (4 - (d + 1)))) := by
    rcases Nat.lt_or_ge d 4 with hlt | hge
    · obtain ⟨f, hf⟩ : ∃ f, 4 - d = f + 1 := ⟨4 - d - 1, by omega⟩
      exact ⟨_, by rw [hf]; rfl, fun hh => by omega, fun _ => by rw [show 4 - (d + 1) = f by omega]⟩
    · exact ⟨_, by rw [show 4 - d = 0 by omega]; rfl, fun _ => rfl, fun hh => by omega⟩
  obtain ⟨q1, q2, q3, hq⟩ : ∃ q1 q2 q3, takeNum t a b 1 = (q1, q2, q3) := ⟨_, _, _, rfl⟩
  have hq1 : q1 < 256 := by have := takeNum_lt (t := t) (a := a) (b := b) 1; rw [show ((1 : Nat) : Int) = 1 from rfl, hq] at this; exact this
  have e1 := tn a b 1
  rw [hq] at e1
  simp only at e1
  rw [hbig]
  unfold oneS
  rw [hq]
  simp only
  by_cases c0 : q3 = 0
  · subst c0
    rw [if_neg (by simp)]
    by_cases c1 : 6 < q1
    · have c1' : (6 : Int) < q1 := by omega
      rw [if_pos c1]
      simp [rc34, rs34, e1, c1', nd0_av]
    have c1' : ¬ (6 : Int) < q1 := by omega
    rw [if_neg c1]
    by_cases c2 : q1 = 0
    · have c2' : (q1 : Int) = 0 := by omega
      rw [if_pos c2]
      simp [rc34, rs34, e1, c1', c2, c2', nd0_av]
    have c2' : ¬ (q1 : Int) = 0 := by omega
    rw [if_neg c2]
    by_cases c3 : q1 < 3
    · have c3' : (q1 : Int) < 3 := by omega
      have w : IntKind.u64.wrap ((q1 : Int) - 1) = bv (BitVec.ofNat 64 (q1 - 1)) := by rw [← bv_wrap64]; congr 1; omega
      rw [if_pos c3]
      simp [rc34, rs34, e1, c1', c2, c2', c3, c3', w, Nd.av, avs]
    have c3' : ¬ (q1 : Int) < 3 := by omega
    rw [if_neg c3]
    by_cases c4 : q1 = 3
    · have c4' : (q1 : Int) = 3 := by omega
      obtain ⟨r1, r2, r3, hr⟩ : ∃ r1 r2 r3, takeNum t q2 0 8 = (r1, r2, r3) := ⟨_, _, _, rfl⟩
      have hr1 : r1 < 18446744073709551616 := by have := takeNum_lt8 (t := t) (a := q2) (b := 0) (size := 8); rw [hr] at this; exact this
      have e2 := tn q2 0 8
      rw [hr] at e2
      simp only at e2
      have w : (r1 : Int) = bv (BitVec.ofNat 64 r1) := bv_lit r1 hr1
      rw [if_pos c4, hr]
      simp [rc34, rs34, e1, e2, c1', c2, c2', c3, c3', c4, c4', ← w, Nd.av, avs]
    have c4' : ¬ (q1 : Int) = 3 := by omega
    rw [if_neg c4]
    by_cases c5 : q1 = 4
    · have c5' : (q1 : Int) = 4 := by omega
      obtain ⟨r1, r2, r3, hr⟩ : ∃ r1 r2 r3, takeRow t q2 0 = (r1, r2, r3) := ⟨_, _, _, rfl⟩
      have e2 := tr q2 0
      rw [hr] at e2
      simp only at e2
      rw [if_pos c5, hr]
      simp [rc34, rs34, e1, e2, c1', c2, c2', c3, c3', c4, c4', c5, c5', Nd.av, avs, bv]
    have c5' : ¬ (q1 : Int) = 4 := by omega
    rw [if_neg c5]
    by_cases c6 : d = 4
    · have c6' : (4 : Int) ≤ d := by omega
      rw [hb0 c6]
      simp [rc34, rs34, e1, c1', c2, c2', c3, c3', c4, c4', c5, c5', c6, c6', nd0_av]
    have c6' : ¬ (4 : Int) ≤ d := by omega
    obtain ⟨f, hf⟩ : ∃ f, 4 - (d + 1) = f := ⟨_, rfl⟩
    rw [hb1 (by omega), hf]
    obtain ⟨r1, r2, r3, hr⟩ : ∃ r1 r2 r3, takeNum t q2 0 1 = (r1, r2, r3) := ⟨_, _, _, rfl⟩
    have hr1 : r1 < 256 := by have := takeNum_lt (t := t) (a := q2) (b := 0) 1; rw [show ((1 : Nat) : Int) = 1 from rfl, hr] at this; exact this
    have e2 := tn q2 0 1
    rw [hr] at e2
    simp only at e2
    unfold oneL
    rw [hr]
    simp only
    have kw : IntKind.u8.wrap (IntKind.u64.wrap ((q1 : Int) - 1)) = ((UInt8.ofNat (q1 - 1)).toNat : Int) := by
      rw [u8_wrap, u64_wrap, small_byte (by omega)]; omega
    have out : ∀ (rec : Tx → Int → Int → Nd × Int × Int) (m : Nat) (ks : List Nd) (ns : List Tx) (a b : Int), b ≠ 0 → itemsW rec q1 t m ks ns a b = (.mk (UInt8.ofNat (q1 - 1)) 0 [] ks ns, a, b) := fun rec m ks ns a b hb => by
      cases m with
      | zero => rfl
      | succ m => rw [itemsW, if_pos hb]
    have cr : (r1 : Int) ≤ 9223372036854775807 := by omega
    by_cases c7 : r3 = 0
    · subst c7
      by_cases c8 : 64 < r1
      · have c8' : (64 : Int) < r1 := by omega
        rw [if_pos ⟨rfl, c8⟩, out _ _ _ _ _ _ (by decide)]
        simp [rc34, rs34, e1, e2, c1', c2, c2', c3, c3', c4, c4', c5, c5', c6', c8, c8', kw, Nd.av, avs, bv]
        refine W_varU (fun _ : Unit => True) (fun _ => 0) (fun _ => []) () trivial (by simp) (fun _ _ => ?_)
        simp [cr]
        trace_state
      · have c8' : ¬ (64 : Int) < r1 := by omega
        rw [if_neg (fun hh => c8 hh.2)]
        simp [rc34, rs34, e1, e2, c1', c2, c2', c3, c3', c4, c4', c5, c5', c6', c8, c8', kw]
        obtain ⟨res, hres⟩ : ∃ res, res = itemsW (oneN f) q1 t r1 [] [] r2 0 := ⟨_, rfl⟩
        rw [← hres]
        refine W_varU (fun p : Nat × List Nd × List Tx × Int × Int => p.1 ≤ r1 ∧ p.2.1.length = p.1 ∧ (q1 = 6 → p.2.2.1.length = p.1) ∧ (q1 ≠ 6 → p.2.2.1 = []) ∧ res = itemsW (oneN f) q1 t (r1 - p.1) p.2.1 p.2.2.1 p.2.2.2.1 p.2.2.2.2) (fun p => r1 - p.1)
          (fun p => [(2, .box [.str t, .int .i64 p.2.2.2.1, .int .i64 p.2.2.2.2]), (12, .obox [.int .u8 (UInt8.ofNat (q1 - 1)).toNat, .int .u64 0, .str [], .row 5 (avs p.2.1) p.2.1.length, .row 1 (p.2.2.1.map .str) p.2.2.1.length]), (13, .int .i64 p.1)]) (0, [], [], r2, 0) ⟨Nat.zero_le _, rfl, fun _ => rfl, fun _ => rfl, hres⟩ (by simp [avs]) ?_
        rintro ⟨i, ks, ns, a', b'⟩ ⟨h1, h2, h3, h4, h5⟩
        simp only at h1 h2 h3 h4 h5
        by_cases cb : b' = 0
        · subst cb
          by_cases ci : i < r1
          · have ci' : (i : Int) < r1 := by omega
            obtain ⟨m, hm⟩ : ∃ m, r1 - i = m + 1 := ⟨r1 - i - 1, by omega⟩
            have hm' : m = r1 - (i + 1) := by omega
            have hd1 : (-9223372036854775808 : Int) ≤ (d : Int) + 1 ∧ (d : Int) + 1 ≤ 9223372036854775807 := by omega
            have hi1 : (-9223372036854775808 : Int) ≤ (i : Int) + 1 ∧ (i : Int) + 1 ≤ 9223372036854775807 := by omega
            by_cases k6 : q1 = 6
            · have k6' : (q1 : Int) = 6 := by omega
              have h3' := h3 k6
              obtain ⟨s1, s2, s3, hs⟩ : ∃ s1 s2 s3, takeRow t a' 0 = (s1, s2, s3) := ⟨_, _, _, rfl⟩
              have e3 := tr a' 0
              rw [hs] at e3
              simp only at e3
              by_cases c10 : s3 = 0
              · subst c10
                have i0 : (0 : Int) < i ↔ 0 < ns.length := by omega
                by_cases c11 : 0 < ns.length ∧ Op.bytesLess (nm ns (ns.length - 1)) s1 = false
                · have it : itemsW (oneN f) q1 t (r1 - i) ks ns a' 0 = (nd0, s2, 4) := by
                    rw [hm, itemsW, if_neg (by simp), if_pos k6, hs]
                    simp [c11]
                  rw [it] at h5
                  obtain ⟨u, hu⟩ : ∃ u, i = u + 1 := ⟨i - 1, by omega⟩
                  have u2 : u < ns.length := by omega
                  have g1 : nm ns (ns.length - 1) = ns[u] := by
                    unfold nm
                    rw [List.getD_eq_getElem?_getD, show ns.length - 1 = u by omega, List.getElem?_eq_getElem u2]; rfl
                  have c11' := c11.2
                  rw [g1] at c11'
                  subst hu
                  rw [Int.natCast_add, Int.natCast_one] at ci'
                  have u0 : (0 : Int) < (u : Int) + 1 := by omega
                  have u1 : (u : Int) ≤ 9223372036854775807 := by omega
                  have u3 : 0 < ns.length - u := by omega
                  simp [cr, ci', k6', e3, u0, u1, u2, u3, c11', h5, nd0_av]
                · have it : itemsW (oneN f) q1 t (r1 - i) ks ns a' 0 = itemsW (oneN f) q1 t (r1 - (i + 1)) (ks ++ [(oneN f t s2 0).1]) (ns ++ [s1]) (oneN f t s2 0).2.1 (oneN f t s2 0).2.2 := by
                    rw [hm, itemsW, if_neg (by simp), if_pos k6, hs]
                    simp [c11, hm']
                  rw [it] at h5
                  obtain ⟨x, a3, b3, hx⟩ : ∃ x a3 b3, oneN f t s2 0 = (x, a3, b3) := ⟨_, _, _, rfl⟩
                  have q := R34_eq (4 - d) t s2 0 (d + 1) ⟨by omega, ht⟩ (by omega)
                  rw [hf, hx] at q
                  rw [hx] at h5
                  simp only at q h5
                  obtain ⟨xk, xn, xs, xkids, xnames⟩ := x
                  rw [Int.natCast_add, Int.natCast_one] at q
                  have la := avs_add ks (.mk xk xn xs xkids xnames)
                  simp only [Nd.av] at la q
                  by_cases c12 : 0 < ns.length
                  · obtain ⟨u, hu⟩ : ∃ u, i = u + 1 := ⟨i - 1, by omega⟩
                    have u2 : u < ns.length := by omega
                    have g1 : nm ns (ns.length - 1) = ns[u] := by
                      unfold nm
                      rw [List.getD_eq_getElem?_getD, show ns.length - 1 = u by omega, List.getElem?_eq_getElem u2]; rfl
                    have c11' : Op.bytesLess ns[u] s1 = true := by
                      rw [← g1]
                      cases hb : Op.bytesLess (nm ns (ns.length - 1)) s1
                      · exact (c11 ⟨c12, hb⟩).elim
                      · rfl
                    have ci2 : (u : Int) + 1 < r1 := by omega
                    have u0 : (0 : Int) < (u : Int) + 1 := by omega
                    have u1 : (u : Int) ≤ 9223372036854775807 := by omega
                    have u3 : 0 < ns.length - u := by omega
                    have u4 : (i : Int) = (u : Int) + 1 := by omega
                    simp [cr, u4, ci2, k6', e3, u0, u1, u2, u3, c11', q, hd1, la]
                    exact ⟨by omega, by omega, by omega, i + 1, ks ++ [Nd.mk xk xn xs xkids xnames], ns ++ [s1], a3, b3, ⟨by omega, by simp [h2], fun _ => by simp [h3'], fun hh => (hh k6).elim, h5⟩, by omega, ⟨rfl, rfl⟩, ⟨⟨rfl, by simp⟩, by simp, by simp⟩, by omega⟩
                  · have n0 : ns = [] := List.eq_nil_of_length_eq_zero (by omega)
                    have i00 : i = 0 := by omega
                    subst n0
                    subst i00
                    have ci3 : 0 < r1 := by omega
                    simp [cr, ci3, k6', e3, q, hd1, la]
                    exact ⟨by omega, 1, ks ++ [Nd.mk xk xn xs xkids xnames], [s1], a3, b3, ⟨by omega, by simp [h2], fun _ => rfl, fun hh => (hh k6).elim, by simpa using h5⟩, by omega, ⟨rfl, rfl⟩, ⟨⟨rfl, by simp⟩, rfl, rfl⟩, rfl⟩
              · have it : itemsW (oneN f) q1 t (r1 - i) ks ns a' 0 = (nd0, s2, s3) := by
                  rw [hm, itemsW, if_neg (by simp), if_pos k6, hs]
                  simp [c10]
                rw [it] at h5
                simp [cr, ci', k6', e3, c10, h5, nd0_av]
            · have k6' : ¬ (q1 : Int) = 6 := by omega
              obtain rfl := h4 k6
              have it : itemsW (oneN f) q1 t (r1 - i) ks [] a' 0 = itemsW (oneN f) q1 t (r1 - (i + 1)) (ks ++ [(oneN f t a' 0).1]) [] (oneN f t a' 0).2.1 (oneN f t a' 0).2.2 := by
                rw [hm, itemsW, if_neg (by simp), if_neg k6, hm']
              rw [it] at h5
              obtain ⟨x, a3, b3, hx⟩ : ∃ x a3 b3, oneN f t a' 0 = (x, a3, b3) := ⟨_, _, _, rfl⟩
              have q := R34_eq (4 - d) t a' 0 (d + 1) ⟨by omega, ht⟩ (by omega)
              rw [hf, hx] at q
              rw [hx] at h5
              simp only at q h5
              obtain ⟨xk, xn, xs, xkids, xnames⟩ := x
              rw [Int.natCast_add, Int.natCast_one] at q
              have la := avs_add ks (.mk xk xn xs xkids xnames)
              simp only [Nd.av] at la q
              simp [cr, ci', k6', q, hd1, hi1, la]
              exact ⟨by omega, i + 1, ks ++ [Nd.mk xk xn xs xkids xnames], [], a3, b3, ⟨by omega, by simp [h2], fun hh => (k6 hh).elim, fun _ => rfl, h5⟩, by omega, ⟨rfl, rfl⟩, ⟨⟨rfl, by simp⟩, rfl, rfl⟩, by omega⟩
          · have ci' : ¬ (i : Int) < r1 := by omega
            have it : itemsW (oneN f) q1 t (r1 - i) ks ns a' 0 = (.mk (UInt8.ofNat (q1 - 1)) 0 [] ks ns, a', 0) := by rw [show r1 - i = 0 by omega]; rfl
            rw [it] at h5
            simp [cr, ci', h5, Nd.av, bv]
        · rw [out _ _ _ _ _ _ cb] at h5
          simp [cr, cb, h5, Nd.av, bv]
    · rw [if_neg (fun hh => c7 hh.1), out _ _ _ _ _ _ c7]
      simp [rc34, rs34, e1, e2, c1', c2, c2', c3, c3', c4, c4', c5, c5', c6', c7, kw, Nd.av, avs, bv]
      refine W_varU (fun _ : Unit => True) (fun _ => 0) (fun _ => []) () trivial (by simp) (fun _ _ => ?_)
      simp [cr, c7]
      trace_state
  · rw [if_pos (by simpa using c0)]
    simp [rc34, rs34, e1, c0, nd0_av]
noncomputable def T34 : Tab := tabAdd T14 34 (fun z : Tx × Int × Int × Nat => z.2.2.2 ≤ 4 ∧ z.1.length ≤ 1000000) (fun z => [.agg [.str z.1, .int .i64 z.2.1, .int .i64 z.2.2.1], .int .i64 z.2.2.2]) (fun z => .tup [.agg (oneN (4 - z.2.2.2) z.1 z.2.1 z.2.2.1).1.av, .agg [.str z.1, .int .i64 (oneN (4 - z.2.2.2) z.1 z.2.1 z.2.2.1).2.1, .int .i64 (oneN (4 - z.2.2.2) z.1 z.2.1 z.2.2.1).2.2]])
@[simp] theorem T34_eq (t : Tx) (a : Int) (b : Int) (d : Nat) (h : d ≤ 4 ∧ t.length ≤ 1000000) : T34 34 [.agg [.str t, .int .i64 a, .int .i64 b], .int .i64 d] = some (.tup [.agg (oneN (4 - d) t a b).1.av, .agg [.str t, .int .i64 (oneN (4 - d) t a b).2.1, .int .i64 (oneN (4 - d) t a b).2.2]]) := tabAdd_eq (a := (t, a, b, d)) (tk_inj (f := fun t a b d => AV.tup [.agg (oneN (4 - d) t a b).1.av, .agg [.str t, .int .i64 (oneN (4 - d) t a b).2.1, .int .i64 (oneN (4 - d) t a b).2.2]])) h rfl
@[simp] theorem T34_ne {g : Nat} {xs : List AV} (h : g ≠ 34) : T34 g xs = T14 g xs := tabAdd_ne h
theorem T34_ok : Sound Try.prog T34 := tabAdd_sound T14_ok fun z h => pf34 z.1 z.2.1 z.2.2.1 z.2.2.2 h
theorem pf16 (s : Tx) (h : s.length ≤ 1000000) : PFx Try.prog 16 [.str s] (.tup [.agg (tkN s).av, .int .i64 (tkE s)]) := by
  refine PFx_of_W (rc := rc16) (rs := rs16) Try.func16 rfl T34_ok hm (by kernel_rfl) (by kernel_rfl) (by simp [Try.ntmps16]) ?_
  have e := T34_eq s 0 0 0 ⟨by decide, h⟩
  obtain ⟨x, a, b, hx⟩ : ∃ x a b, oneN (4 - 0) s 0 0 = (x, a, b) := ⟨_, _, _, rfl⟩
  rw [hx] at e
  have hx' : oneN 4 s 0 0 = (x, a, b) := hx
  simp only [Int.natCast_zero] at e
  have e2 := T35_eq s a b h
  have k1 : tkE s = endOf s a b := by unfold tkE; rw [hx']
  obtain ⟨xk, xn, xs, xkids, xnames⟩ := x
  by_cases c : endOf s a b = 0
  · have k2 : tkN s = .mk xk xn xs xkids xnames := by unfold tkN; rw [k1, if_pos c, hx']
    rw [k1, k2]
    simp only [Nd.av] at e ⊢
    simp [rc16, rs16, e, e2, c]
  · have k2 : tkN s = nd0 := by unfold tkN; rw [k1, if_neg c]
    rw [k1, k2]
    simp only [Nd.av] at e
    simp [rc16, rs16, e, e2, c, nd0_av]
noncomputable def T16 : Tab := tabAdd T34 16 (fun z : Tx => z.length ≤ 1000000) (fun z => [.str z]) (fun z => .tup [.agg (tkN z).av, .int .i64 (tkE z)])
@[simp] theorem T16_eq (s : Tx) (h : s.length ≤ 1000000) : T16 16 [.str s] = some (.tup [.agg (tkN s).av, .int .i64 (tkE s)]) := tabAdd_eq (a := s) (by simp +contextual [Int.natCast_inj]) h rfl
@[simp] theorem T16_ne {g : Nat} {xs : List AV} (h : g ≠ 16) : T16 g xs = T34 g xs := tabAdd_ne h
theorem T16_ok : Sound Try.prog T16 := tabAdd_sound T34_ok fun z h => pf16 z h
end Go.Proofs.Ytbikpgaiocjnoaa

