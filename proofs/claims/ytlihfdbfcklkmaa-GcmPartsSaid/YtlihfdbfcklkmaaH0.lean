/- ghash, of the document. -/
import Derived.Test.YtlihfdbfcklkmaaK2
import Derived.Test.YtlihfdbfcklkmaaHW
set_option linter.unusedVariables false
set_option linter.unusedSimpArgs false
namespace Go.Proofs.Ytlihfdbfcklkmaa
open Go.Proofs.Ytlihfdbfcklkmaa.Pad Go.Proofs.Ytlihfdbfcklkmaa.Pad.Gh
/-- padlock/padlockref08.Bit -/
def rc69 : RC :=
  (.seq
   (.reg false [⟨(some 2), .box (.t 0), none⟩,
     ⟨(some 4), .mov (.c (.bool false)), none⟩] [1, 2])
   (.seq
    (.seq
     (.reg false [⟨(some 7), .mov (.t 1), none⟩,
       ⟨(some 8), .bin .lss true (.t 7) (.c (.int .i64 0)), none⟩,
       ⟨(some 9), .mov (.t 8), none⟩,
       ⟨(some 10), .mov (.t 1), (some (9, false))⟩,
       ⟨(some 11), .bin .gtr true (.t 10) (.c (.int .i64 127)), (some (9, false))⟩,
       ⟨(some 12), .pick (.t 9) (.c (.bool true)) (.t 11), none⟩] [1, 2, 12])
     (.cond 12
      (.seq
       (.reg false [⟨(some 4), .mov (.c (.bool false)), none⟩] [4])
       .ret)
      (.reg false [] [1, 2])))
    (.seq
     (.reg false [⟨(some 13), .mov (.t 1), none⟩,
       ⟨(some 14), .bin .quo true (.t 13) (.c (.int .i64 8)), none⟩,
       ⟨(some 15), .idxB 2 1 16 (.t 14), none⟩,
       ⟨(some 16), .loadR 15 2 1 false, none⟩,
       ⟨(some 17), .conv true .i64 (.t 16), none⟩,
       ⟨(some 5), .mov (.t 17), none⟩] [1, 5])
     (.seq
      (.seq
       (.reg false [⟨(some 18), .mov (.t 1), none⟩,
         ⟨(some 19), .bin .rem true (.t 18) (.c (.int .i64 8)), none⟩,
         ⟨(some 6), .mov (.t 19), none⟩] [5, 6])
       (.block 0
        (.loop
         (.seq
          (.seq
           (.reg false [⟨(some 20), .mov (.t 6), none⟩,
             ⟨(some 21), .bin .lss true (.t 20) (.c (.int .i64 7)), none⟩] [5, 6, 21])
           (.cond 21
            (.reg false [] [5, 6])
            (.seq
             (.reg false [] [5])
             (.exit 0))))
          (.seq
           (.block 1
            (.reg false [⟨(some 24), .mov (.t 5), none⟩,
              ⟨(some 25), .bin .quo true (.t 24) (.c (.int .i64 2)), none⟩,
              ⟨(some 5), .mov (.t 25), none⟩] [5, 6]))
           (.reg false [⟨(some 22), .mov (.t 6), none⟩,
             ⟨(some 23), .bin .add true (.t 22) (.c (.int .i64 1)), none⟩,
             ⟨(some 6), .mov (.t 23), none⟩] [5, 6]))))))
      (.seq
       (.reg false [⟨(some 26), .mov (.t 5), none⟩,
         ⟨(some 27), .bin .rem true (.t 26) (.c (.int .i64 2)), none⟩,
         ⟨(some 28), .bin .eql true (.t 27) (.c (.int .i64 1)), none⟩,
         ⟨(some 4), .mov (.t 28), none⟩] [4])
       .ret)))))
def rs69 : List RS := [.tmp 4]
/-- padlock/padlockref08.poly -/
def rc60 : RC :=
  (.seq
   (.reg false [⟨(some 1), .box (.t 0), none⟩,
     ⟨(some 2), .alloc (List.replicate 128 (.bool false)), none⟩] [1, 2])
   (.seq
    (.reg false [⟨(some 3), .alloc (List.replicate 128 (.bool false)), none⟩] [1, 2, 3])
    (.seq
     (.seq
      (.reg false [⟨(some 4), .mov (.c (.int .i64 0)), none⟩] [1, 2, 3, 4])
      (.block 0
       (.loop
        (.seq
         (.seq
          (.reg false [⟨(some 5), .mov (.t 4), none⟩,
            ⟨(some 6), .bin .lss true (.t 5) (.c (.int .i64 128)), none⟩] [1, 2, 3, 4, 6])
          (.cond 6
           (.reg false [] [1, 2, 3, 4])
           (.seq
            (.reg false [] [2, 3])
            (.exit 0))))
         (.seq
          (.block 1
           (.reg false [⟨(some 9), .mov (.t 4), none⟩,
             ⟨(some 10), .loadB 1 16 true, none⟩,
             ⟨(some 11), .mov (.t 4), none⟩,
             ⟨(some 12), .call 69 [(false, (.t 10)), (false, (.t 11))], none⟩,
             ⟨(some 13), .idxB 3 1 128 (.t 9), none⟩,
             ⟨none, .stR 13 3 1 (.t 12), none⟩] [1, 2, 3, 4]))
          (.reg false [⟨(some 7), .mov (.t 4), none⟩,
            ⟨(some 8), .bin .add true (.t 7) (.c (.int .i64 1)), none⟩,
            ⟨(some 4), .mov (.t 8), none⟩] [1, 2, 3, 4]))))))
     (.seq
      (.reg false [⟨(some 14), .loadB 3 128 true, none⟩,
        ⟨none, .stB 2 128 (.t 14), none⟩] [2])
      .ret))))
def rs60 : List RS := [.cell 2 128 true]
/-- padlock/padlockref08.Mul -/
def rc51 : RC :=
  (.seq
   (.reg false [⟨(some 2), .box (.t 0), none⟩,
     ⟨(some 3), .box (.t 1), none⟩,
     ⟨(some 4), .alloc (List.replicate 16 (.int .u8 0)), none⟩] [2, 3, 4])
   (.seq
    (.reg true [⟨(some 13), .loadB 2 16 true, none⟩,
      ⟨(some 14), .call 60 [(false, (.t 13))], none⟩,
      ⟨(some 15), .loadB 3 16 true, none⟩,
      ⟨(some 16), .call 60 [(false, (.t 15))], none⟩,
      ⟨(some 5), .alloc (List.replicate 128 (.bool false)), none⟩,
      ⟨(some 6), .alloc (List.replicate 128 (.bool false)), none⟩,
      ⟨none, .stB 5 128 (.t 14), none⟩,
      ⟨none, .stB 6 128 (.t 16), none⟩] [4, 5, 6])
    (.seq
     (.reg false [⟨(some 7), .alloc (List.replicate 255 (.bool false)), none⟩] [4, 5, 6, 7])
     (.seq
      (.seq
       (.reg false [⟨(some 8), .mov (.c (.int .i64 0)), none⟩] [4, 5, 6, 7, 8])
       (.block 0
        (.loop
         (.seq
          (.seq
           (.reg false [⟨(some 17), .mov (.t 8), none⟩,
             ⟨(some 18), .bin .lss true (.t 17) (.c (.int .i64 128)), none⟩] [4, 5, 6, 7, 8, 18])
           (.cond 18
            (.reg false [] [4, 5, 6, 7, 8])
            (.seq
             (.reg false [] [4, 7])
             (.exit 0))))
          (.seq
           (.block 1
            (.seq
             (.reg false [⟨(some 21), .mov (.t 8), none⟩,
               ⟨(some 22), .idxB 5 1 128 (.t 21), none⟩,
               ⟨(some 23), .loadR 22 5 1 false, none⟩] [4, 5, 6, 7, 8, 23])
             (.cond 23
              (.seq
               (.reg false [⟨(some 9), .mov (.c (.int .i64 0)), none⟩] [4, 5, 6, 7, 8, 9])
               (.block 2
                (.loop
                 (.seq
                  (.seq
                   (.reg false [⟨(some 24), .mov (.t 9), none⟩,
                     ⟨(some 25), .bin .lss true (.t 24) (.c (.int .i64 128)), none⟩] [4, 5, 6, 7, 8, 9, 25])
                   (.cond 25
                    (.reg false [] [4, 5, 6, 7, 8, 9])
                    (.seq
                     (.reg false [] [4, 5, 6, 7, 8])
                     (.exit 2))))
                  (.seq
                   (.block 3
                    (.reg true [⟨(some 28), .mov (.t 8), none⟩,
                      ⟨(some 29), .mov (.t 9), none⟩,
                      ⟨(some 30), .bin .add true (.t 28) (.t 29), none⟩,
                      ⟨(some 31), .mov (.t 8), none⟩,
                      ⟨(some 32), .mov (.t 9), none⟩,
                      ⟨(some 33), .bin .add true (.t 31) (.t 32), none⟩,
                      ⟨(some 34), .idxB 7 1 255 (.t 33), none⟩,
                      ⟨(some 35), .loadR 34 7 1 false, none⟩,
                      ⟨(some 36), .mov (.t 9), none⟩,
                      ⟨(some 37), .idxB 6 1 128 (.t 36), none⟩,
                      ⟨(some 38), .loadR 37 6 1 false, none⟩,
                      ⟨(some 39), .beq true none (.t 35) (.t 38), none⟩,
                      ⟨(some 40), .idxB 7 1 255 (.t 30), none⟩,
                      ⟨none, .stR 40 7 1 (.t 39), none⟩] [4, 5, 6, 7, 8, 9]))
                   (.reg false [⟨(some 26), .mov (.t 9), none⟩,
                     ⟨(some 27), .bin .add true (.t 26) (.c (.int .i64 1)), none⟩,
                     ⟨(some 9), .mov (.t 27), none⟩] [4, 5, 6, 7, 8, 9]))))))
              (.reg false [] [4, 5, 6, 7, 8]))))
           (.reg false [⟨(some 19), .mov (.t 8), none⟩,
             ⟨(some 20), .bin .add true (.t 19) (.c (.int .i64 1)), none⟩,
             ⟨(some 8), .mov (.t 20), none⟩] [4, 5, 6, 7, 8]))))))
      (.seq
       (.seq
        (.reg false [⟨(some 10), .mov (.c (.int .i64 254)), none⟩] [4, 7, 10])
        (.block 4
         (.loop
          (.seq
           (.seq
            (.reg false [⟨(some 41), .mov (.t 10), none⟩,
              ⟨(some 42), .bin .geq true (.t 41) (.c (.int .i64 128)), none⟩] [4, 7, 10, 42])
            (.cond 42
             (.reg false [] [4, 7, 10])
             (.seq
              (.reg false [] [4, 7])
              (.exit 4))))
           (.seq
            (.block 5
             (.seq
              (.reg false [⟨(some 45), .mov (.t 10), none⟩,
                ⟨(some 46), .idxB 7 1 255 (.t 45), none⟩,
                ⟨(some 47), .loadR 46 7 1 false, none⟩] [4, 7, 10, 47])
              (.cond 47
               (.seq
                (.reg false [⟨(some 48), .mov (.t 10), none⟩,
                  ⟨(some 49), .bin .sub true (.t 48) (.c (.int .i64 128)), none⟩,
                  ⟨(some 50), .mov (.t 10), none⟩,
                  ⟨(some 51), .bin .sub true (.t 50) (.c (.int .i64 128)), none⟩,
                  ⟨(some 52), .idxB 7 1 255 (.t 51), none⟩,
                  ⟨(some 53), .loadR 52 7 1 false, none⟩,
                  ⟨(some 54), .un .not (.t 53), none⟩,
                  ⟨(some 55), .idxB 7 1 255 (.t 49), none⟩,
                  ⟨none, .stR 55 7 1 (.t 54), none⟩] [4, 7, 10])
                (.seq
                 (.reg false [⟨(some 56), .mov (.t 10), none⟩,
                   ⟨(some 57), .bin .sub true (.t 56) (.c (.int .i64 127)), none⟩,
                   ⟨(some 58), .mov (.t 10), none⟩,
                   ⟨(some 59), .bin .sub true (.t 58) (.c (.int .i64 127)), none⟩,
                   ⟨(some 60), .idxB 7 1 255 (.t 59), none⟩,
                   ⟨(some 61), .loadR 60 7 1 false, none⟩,
                   ⟨(some 62), .un .not (.t 61), none⟩,
                   ⟨(some 63), .idxB 7 1 255 (.t 57), none⟩,
                   ⟨none, .stR 63 7 1 (.t 62), none⟩] [4, 7, 10])
                 (.seq
                  (.reg false [⟨(some 64), .mov (.t 10), none⟩,
                    ⟨(some 65), .bin .sub true (.t 64) (.c (.int .i64 126)), none⟩,
                    ⟨(some 66), .mov (.t 10), none⟩,
                    ⟨(some 67), .bin .sub true (.t 66) (.c (.int .i64 126)), none⟩,
                    ⟨(some 68), .idxB 7 1 255 (.t 67), none⟩,
                    ⟨(some 69), .loadR 68 7 1 false, none⟩,
                    ⟨(some 70), .un .not (.t 69), none⟩,
                    ⟨(some 71), .idxB 7 1 255 (.t 65), none⟩,
                    ⟨none, .stR 71 7 1 (.t 70), none⟩] [4, 7, 10])
                  (.reg false [⟨(some 72), .mov (.t 10), none⟩,
                    ⟨(some 73), .bin .sub true (.t 72) (.c (.int .i64 121)), none⟩,
                    ⟨(some 74), .mov (.t 10), none⟩,
                    ⟨(some 75), .bin .sub true (.t 74) (.c (.int .i64 121)), none⟩,
                    ⟨(some 76), .idxB 7 1 255 (.t 75), none⟩,
                    ⟨(some 77), .loadR 76 7 1 false, none⟩,
                    ⟨(some 78), .un .not (.t 77), none⟩,
                    ⟨(some 79), .idxB 7 1 255 (.t 73), none⟩,
                    ⟨none, .stR 79 7 1 (.t 78), none⟩] [4, 7, 10]))))
               (.reg false [] [4, 7, 10]))))
            (.reg false [⟨(some 43), .mov (.t 10), none⟩,
              ⟨(some 44), .bin .sub true (.t 43) (.c (.int .i64 1)), none⟩,
              ⟨(some 10), .mov (.t 44), none⟩] [4, 7, 10]))))))
       (.seq
        (.reg false [⟨(some 11), .alloc (List.replicate 16 (.int .u8 0)), none⟩] [4, 7, 11])
        (.seq
         (.seq
          (.reg false [⟨(some 12), .mov (.c (.int .i64 0)), none⟩] [4, 7, 11, 12])
          (.block 6
           (.loop
            (.seq
             (.seq
              (.reg false [⟨(some 80), .mov (.t 12), none⟩,
                ⟨(some 81), .bin .lss true (.t 80) (.c (.int .i64 128)), none⟩] [4, 7, 11, 12, 81])
              (.cond 81
               (.reg false [] [4, 7, 11, 12])
               (.seq
                (.reg false [] [4, 11])
                (.exit 6))))
             (.seq
              (.block 7
               (.seq
                (.reg false [⟨(some 84), .mov (.t 12), none⟩,
                  ⟨(some 85), .bin .quo true (.t 84) (.c (.int .i64 8)), none⟩,
                  ⟨(some 86), .mov (.t 12), none⟩,
                  ⟨(some 87), .bin .quo true (.t 86) (.c (.int .i64 8)), none⟩,
                  ⟨(some 88), .idxB 11 1 16 (.t 87), none⟩,
                  ⟨(some 89), .loadR 88 11 1 false, none⟩,
                  ⟨(some 90), .bin .mul false (.c (.int .u8 2)) (.t 89), none⟩,
                  ⟨(some 91), .idxB 11 1 16 (.t 85), none⟩,
                  ⟨none, .stR 91 11 1 (.t 90), none⟩] [4, 7, 11, 12])
                (.seq
                 (.reg false [⟨(some 92), .mov (.t 12), none⟩,
                   ⟨(some 93), .idxB 7 1 255 (.t 92), none⟩,
                   ⟨(some 94), .loadR 93 7 1 false, none⟩] [4, 7, 11, 12, 94])
                 (.cond 94
                  (.reg false [⟨(some 95), .mov (.t 12), none⟩,
                    ⟨(some 96), .bin .quo true (.t 95) (.c (.int .i64 8)), none⟩,
                    ⟨(some 97), .mov (.t 12), none⟩,
                    ⟨(some 98), .bin .quo true (.t 97) (.c (.int .i64 8)), none⟩,
                    ⟨(some 99), .idxB 11 1 16 (.t 98), none⟩,
                    ⟨(some 100), .loadR 99 11 1 false, none⟩,
                    ⟨(some 101), .bin .add false (.t 100) (.c (.int .u8 1)), none⟩,
                    ⟨(some 102), .idxB 11 1 16 (.t 96), none⟩,
                    ⟨none, .stR 102 11 1 (.t 101), none⟩] [4, 7, 11, 12])
                  (.reg false [] [4, 7, 11, 12])))))
              (.reg false [⟨(some 82), .mov (.t 12), none⟩,
                ⟨(some 83), .bin .add true (.t 82) (.c (.int .i64 1)), none⟩,
                ⟨(some 12), .mov (.t 83), none⟩] [4, 7, 11, 12]))))))
         (.seq
          (.reg false [⟨(some 103), .loadB 11 16 true, none⟩,
            ⟨none, .stB 4 16 (.t 103), none⟩] [4])
          .ret))))))))
def rs51 : List RS := [.cell 4 16 true]
/-- padlock/padlockref08.Fold -/
def rc38 : RC :=
  (.seq
   (.reg false [⟨(some 3), .box (.t 0), none⟩,
     ⟨(some 4), .box (.t 1), none⟩,
     ⟨(some 6), .alloc (List.replicate 16 (.int .u8 0)), none⟩] [2, 3, 4, 6])
   (.seq
    (.seq
     (.reg false [⟨(some 7), .mov (.c (.int .i64 0)), none⟩] [2, 3, 4, 6, 7])
     (.block 0
      (.loop
       (.seq
        (.seq
         (.reg false [⟨(some 9), .mov (.t 7), none⟩,
           ⟨(some 10), .mov (.t 2), none⟩,
           ⟨(some 11), .len true (.t 10), none⟩,
           ⟨(some 12), .bin .lss true (.t 9) (.t 11), none⟩] [2, 3, 4, 6, 7, 12])
         (.cond 12
          (.reg false [] [2, 3, 4, 6, 7])
          (.seq
           (.reg false [] [4, 6])
           (.exit 0))))
        (.seq
         (.block 1
          (.seq
           (.seq
            (.reg false [⟨(some 8), .mov (.c (.int .i64 0)), none⟩] [2, 3, 4, 6, 7, 8])
            (.block 2
             (.loop
              (.seq
               (.seq
                (.reg false [⟨(some 15), .mov (.t 8), none⟩,
                  ⟨(some 16), .bin .lss true (.t 15) (.c (.int .i64 16)), none⟩,
                  ⟨(some 17), .mov (.t 16), none⟩,
                  ⟨(some 18), .mov (.t 7), (some (17, true))⟩,
                  ⟨(some 19), .mov (.t 8), (some (17, true))⟩,
                  ⟨(some 20), .bin .add true (.t 18) (.t 19), (some (17, true))⟩,
                  ⟨(some 21), .mov (.t 2), (some (17, true))⟩,
                  ⟨(some 22), .len true (.t 21), (some (17, true))⟩,
                  ⟨(some 23), .bin .lss true (.t 20) (.t 22), (some (17, true))⟩,
                  ⟨(some 24), .pick (.t 17) (.t 23) (.c (.bool false)), none⟩] [2, 3, 4, 6, 7, 8, 24])
                (.cond 24
                 (.reg false [] [2, 3, 4, 6, 7, 8])
                 (.seq
                  (.reg false [] [2, 3, 4, 6, 7])
                  (.exit 2))))
               (.seq
                (.block 3
                 (.reg true [⟨(some 27), .mov (.t 8), none⟩,
                   ⟨(some 28), .mov (.t 8), none⟩,
                   ⟨(some 29), .idxB 4 1 16 (.t 28), none⟩,
                   ⟨(some 30), .loadR 29 4 1 false, none⟩,
                   ⟨(some 31), .mov (.t 2), none⟩,
                   ⟨(some 32), .mov (.t 7), none⟩,
                   ⟨(some 33), .mov (.t 8), none⟩,
                   ⟨(some 34), .bin .add true (.t 32) (.t 33), none⟩,
                   ⟨(some 35), .sidx (.t 31) (.t 34), none⟩,
                   ⟨(some 36), .bin .xor false (.t 30) (.t 35), none⟩,
                   ⟨(some 37), .idxB 4 1 16 (.t 27), none⟩,
                   ⟨none, .stR 37 4 1 (.t 36), none⟩] [2, 3, 4, 6, 7, 8]))
                (.reg false [⟨(some 25), .mov (.t 8), none⟩,
                  ⟨(some 26), .bin .add true (.t 25) (.c (.int .i64 1)), none⟩,
                  ⟨(some 8), .mov (.t 26), none⟩] [2, 3, 4, 6, 7, 8]))))))
           (.reg false [⟨(some 38), .loadB 4 16 true, none⟩,
             ⟨(some 39), .loadB 3 16 true, none⟩,
             ⟨(some 40), .call 51 [(false, (.t 38)), (false, (.t 39))], none⟩,
             ⟨none, .stB 4 16 (.t 40), none⟩] [2, 3, 4, 6, 7])))
         (.reg false [⟨(some 13), .mov (.t 7), none⟩,
           ⟨(some 14), .bin .add true (.t 13) (.c (.int .i64 16)), none⟩,
           ⟨(some 7), .mov (.t 14), none⟩] [2, 3, 4, 6, 7]))))))
    (.seq
     (.reg false [⟨(some 41), .loadB 4 16 true, none⟩,
       ⟨none, .stB 6 16 (.t 41), none⟩] [6])
     .ret)))
def rs38 : List RS := [.cell 6 16 true]
/-- padlock/padlockref08.eight -/
def rc39 : RC :=
  (.seq
   (.reg false [⟨(some 2), .mov (.c (.str [])), none⟩] [0])
   (.seq
    (.reg false [⟨(some 3), .alloc [(.int .u8 0), (.int .u8 0), (.int .u8 0), (.int .u8 0), (.int .u8 0), (.int .u8 0), (.int .u8 0), (.int .u8 0)], none⟩] [0, 3])
    (.seq
     (.seq
      (.reg false [⟨(some 4), .mov (.c (.int .i64 7)), none⟩] [0, 3, 4])
      (.block 0
       (.loop
        (.seq
         (.seq
          (.reg false [⟨(some 5), .mov (.t 4), none⟩,
            ⟨(some 6), .bin .geq true (.t 5) (.c (.int .i64 0)), none⟩] [0, 3, 4, 6])
          (.cond 6
           (.reg false [] [0, 3, 4])
           (.seq
            (.reg false [] [3])
            (.exit 0))))
         (.seq
          (.block 1
           (.seq
            (.reg false [⟨(some 9), .mov (.t 4), none⟩,
              ⟨(some 10), .mov (.t 0), none⟩,
              ⟨(some 11), .bin .rem true (.t 10) (.c (.int .i64 256)), none⟩,
              ⟨(some 12), .conv false .u8 (.t 11), none⟩,
              ⟨(some 13), .idxB 3 1 8 (.t 9), none⟩,
              ⟨none, .stR 13 3 1 (.t 12), none⟩] [0, 3, 4])
            (.reg false [⟨(some 14), .mov (.t 0), none⟩,
              ⟨(some 15), .bin .quo true (.t 14) (.c (.int .i64 256)), none⟩,
              ⟨(some 0), .mov (.t 15), none⟩] [0, 3, 4])))
          (.reg false [⟨(some 7), .mov (.t 4), none⟩,
            ⟨(some 8), .bin .sub true (.t 7) (.c (.int .i64 1)), none⟩,
            ⟨(some 4), .mov (.t 8), none⟩] [0, 3, 4]))))))
     (.seq
      (.reg false [⟨(some 16), .winB 3 1 8 none none, none⟩,
        ⟨(some 17), .b2sM 16 3, none⟩,
        ⟨(some 2), .mov (.t 17), none⟩] [2])
      .ret))))
def rs39 : List RS := [.tmp 2]
/-- padlock/padlockref08.Sum -/
def rc26 : RC :=
  (.seq
   (.reg false [⟨(some 3), .box (.t 0), none⟩,
     ⟨(some 6), .alloc (List.replicate 16 (.int .u8 0)), none⟩] [1, 2, 3, 6])
   (.seq
    (.reg false [⟨(some 7), .alloc (List.replicate 16 (.int .u8 0)), none⟩] [1, 2, 3, 6, 7])
    (.seq
     (.reg false [⟨(some 9), .loadB 3 16 true, none⟩,
       ⟨(some 10), .loadB 7 16 true, none⟩,
       ⟨(some 11), .mov (.t 1), none⟩,
       ⟨(some 12), .call 38 [(false, (.t 9)), (false, (.t 10)), (false, (.t 11))], none⟩,
       ⟨(some 8), .alloc (List.replicate 16 (.int .u8 0)), none⟩,
       ⟨none, .stB 8 16 (.t 12), none⟩] [1, 2, 3, 6, 8])
     (.seq
      (.reg false [⟨(some 13), .loadB 3 16 true, none⟩,
        ⟨(some 14), .loadB 8 16 true, none⟩,
        ⟨(some 15), .mov (.t 2), none⟩,
        ⟨(some 16), .call 38 [(false, (.t 13)), (false, (.t 14)), (false, (.t 15))], none⟩,
        ⟨none, .stB 8 16 (.t 16), none⟩] [1, 2, 3, 6, 8])
      (.seq
       (.reg true [⟨(some 17), .loadB 3 16 true, none⟩,
         ⟨(some 18), .loadB 8 16 true, none⟩,
         ⟨(some 19), .mov (.t 1), none⟩,
         ⟨(some 20), .len true (.t 19), none⟩,
         ⟨(some 21), .bin .mul true (.c (.int .i64 8)) (.t 20), none⟩,
         ⟨(some 22), .call 39 [(false, (.t 21))], none⟩,
         ⟨(some 23), .mov (.t 2), none⟩,
         ⟨(some 24), .len true (.t 23), none⟩,
         ⟨(some 25), .bin .mul true (.c (.int .i64 8)) (.t 24), none⟩,
         ⟨(some 26), .call 39 [(false, (.t 25))], none⟩,
         ⟨(some 27), .bin .add false (.t 22) (.t 26), none⟩,
         ⟨(some 28), .call 38 [(false, (.t 17)), (false, (.t 18)), (false, (.t 27))], none⟩,
         ⟨none, .stB 6 16 (.t 28), none⟩] [6])
       .ret)))))
def rs26 : List RS := [.cell 6 16 true]
theorem blk_all (a b : W) : (∀ i, i < 16 → blk a i = blk b i) ↔ a = b := blk_inj a b
attribute [simp] blk_all
def bitI (a : W) (i : Int) : Bool := decide (0 ≤ i) && a.getLsbD i.toNat
theorem pf69 (a : W) (i : Int)  : PFx Try.prog 69 [.agg (vec8 16 (blk a)), .int .i64 i] (.bool (bitI a i)) := by
  refine PFx_of_W (rc := rc69) (rs := rs69) Try.func69 rfl T40_ok hm (by kernel_rfl) (by kernel_rfl) (by simp [Try.ntmps69]) ?_
  by_cases h0 : i < 0
  · simp [rc69, rs69, h0, bitI]
    omega
  by_cases h1 : 127 < i
  · simp [rc69, rs69, h0, h1, bitI]
    intro _; exact BitVec.getLsbD_of_ge _ _ (by omega)
  obtain ⟨n, rfl⟩ : ∃ n : Nat, i = n := ⟨i.toNat, by omega⟩
  have hn : n ≤ 127 := by omega
  have hb := b_lt (blk a (n / 8))
  obtain ⟨d, hd⟩ : ∃ d, d = n / 8 := ⟨_, rfl⟩
  have d1 : (n : Int).tdiv 8 = (d : Int) := by rw [tdiv8, hd]
  have d2 : (n : Int) / 8 = (d : Int) := by omega
  have d3 : d < 16 := by omega
  rw [← hd] at hb
  simp [rc69, rs69, h0, h1, d1, d2, d3, tmod8, -Int.natCast_emod, -Int.natCast_ediv]
  refine ⟨by omega, by omega, by omega, ?_⟩
  refine W_forU (7 - n % 8) (fun _ => True) (fun k => [(5, .int .i64 (sh (blk a d) k : Nat)), (6, .int .i64 ((n % 8 + k : Nat) : Int))]) trivial (by simp [sh_0, -Int.natCast_emod]) (fun k hk _ => ?_) fun _ => ?_
  · have h7 : ((n % 8 + k : Nat) : Int) < 7 := by omega
    have h3 := sh_lt (blk a d) k
    have h4 := sh_lt (blk a d) (k + 1)
    have h5 := sh_two (blk a d) k
    rw [Int.tdiv_eq_ediv_of_nonneg (Int.natCast_nonneg _)] at h5
    simp [h7, sh_two, h5, cast_addn, ← Nat.add_assoc, -Int.natCast_add, -Int.natCast_emod]
    omega
  · have h7 : ¬ ((n % 8 + (7 - n % 8) : Nat) : Int) < 7 := by omega
    have hbit : (blk a d).getLsbD (7 - n % 8) = a.getLsbD n := by
      rw [blk_bit _ _ _ (by omega), show 8 * d + (7 - (7 - n % 8)) = n by omega]
    simp [h7, sh_bit, bitI, hbit, -Int.natCast_add, -Int.natCast_emod]
noncomputable def T69 : Tab := tabAdd T40 69 (fun _ : W × Int => True) (fun z => [.agg (vec8 16 (blk z.1)), .int .i64 z.2]) (fun z => .bool (bitI z.1 z.2))
@[simp] theorem T69_eq (a : W) (i : Int)  : T69 69 [.agg (vec8 16 (blk a)), .int .i64 i] = some (.bool (bitI a i)) := tabAdd_eq (a := (a, i)) (by rintro ⟨a, i⟩ ⟨a', i'⟩ h; simp at h ⊢; rw [h.1, h.2]) trivial rfl
@[simp] theorem T69_ne {g : Nat} {xs : List AV} (h : g ≠ 69) : T69 g xs = T40 g xs := tabAdd_ne h
theorem T69_ok : Sound Try.prog T69 := tabAdd_sound T40_ok fun z _ => pf69 z.1 z.2 
theorem pf60 (a : W)  : PFx Try.prog 60 [.agg (vec8 16 (blk a))] (.agg (vecb 128 (bt a))) := by
  refine PFx_of_W (rc := rc60) (rs := rs60) Try.func60 rfl T69_ok hm (by kernel_rfl) (by kernel_rfl) (by simp [Try.ntmps60]) ?_
  simp [rc60, rs60, vecb_zero]
  refine W_forU 128 (fun _ => True) (fun k => [(3, .box (vecb 128 fun i => decide (i < k) && bt a i)), (4, .int .i64 k)]) trivial (by simp) (fun k hk _ => ?_) fun _ => ?_
  · have hk' : (k : Int) < 128 := by omega
    have e := vecb_set 128 k (fun i => decide (i < k) && bt a i) (bt a k) hk
    have e2 : vecb 128 (setb (fun i => decide (i < k) && bt a i) k (bt a k)) = vecb 128 fun i => decide (i < k + 1) && bt a i := vecb_ext fun i _ => by
      unfold setb
      by_cases h : i = k
      · subst h; simp
      · by_cases h1 : i < k
        · simp [h, h1, show i < k + 1 by omega]
        · simp [h, h1, show ¬ i < k + 1 by omega]
    rw [e2] at e
    have b : bitI a (k : Int) = bt a k := by simp [bitI, bt]
    simp [hk', hk, b, e, -splice]
    omega
  · have e : vecb 128 (fun i => decide (i < 128) && bt a i) = vecb 128 (bt a) := vecb_ext fun i hi => by simp [hi]
    simp [e]
noncomputable def T60 : Tab := tabAdd T69 60 (fun _ : W => True) (fun z => [.agg (vec8 16 (blk z))]) (fun z => .agg (vecb 128 (bt z)))
@[simp] theorem T60_eq (a : W)  : T60 60 [.agg (vec8 16 (blk a))] = some (.agg (vecb 128 (bt a))) := tabAdd_eq (a := a) (by intro a b h; simp at h ⊢; rw [h]; simp) trivial rfl
@[simp] theorem T60_ne {g : Nat} {xs : List AV} (h : g ≠ 60) : T60 g xs = T69 g xs := tabAdd_ne h
theorem T60_ok : Sound Try.prog T60 := tabAdd_sound T69_ok fun z _ => pf60 z 
theorem two8 : ∀ x : BitVec 8, IntKind.u8.wrap (2 * bv x) = bv (2#8 * x) := by decide +kernel
theorem inc8 : ∀ x : BitVec 8, IntKind.u8.wrap (bv x + 1) = bv (x + 1#8) := by decide +kernel
/-- Bits, the first one the highest. -/
def hor (p : Nat → Bool) (j : Nat) : Nat → BitVec 8
  | 0 => 0#8
  | t + 1 => if p (8 * j + t) then 2#8 * hor p j t + 1#8 else 2#8 * hor p j t
theorem hor_all : ∀ b0 b1 b2 b3 b4 b5 b6 b7 : Bool, (let f (x : BitVec 8) (b : Bool) := if b then 2#8 * x + 1#8 else 2#8 * x; f (f (f (f (f (f (f (f 0#8 b0) b1) b2) b3) b4) b5) b6) b7) =
    (0#8 ^^^ (if b7 then 1#8 <<< 0 else 0#8) ^^^ (if b6 then 1#8 <<< 1 else 0#8) ^^^ (if b5 then 1#8 <<< 2 else 0#8) ^^^ (if b4 then 1#8 <<< 3 else 0#8) ^^^ (if b3 then 1#8 <<< 4 else 0#8) ^^^ (if b2 then 1#8 <<< 5 else 0#8) ^^^ (if b1 then 1#8 <<< 6 else 0#8) ^^^ (if b0 then 1#8 <<< 7 else 0#8)) := by decide +kernel
theorem hor_blk (p : Nat → Bool) (c : W) (j : Nat) (h : ∀ t, t < 8 → p (8 * j + t) = c.getLsbD (8 * j + t)) : hor p j 8 = blk c j := by
  simp only [hor, h 0 (by decide), h 1 (by decide), h 2 (by decide), h 3 (by decide), h 4 (by decide), h 5 (by decide), h 6 (by decide), h 7 (by decide)]
  exact hor_all _ _ _ _ _ _ _ _
/-- The block as far as its first i bits are laid. -/
def outB (p : Nat → Bool) (i : Nat) : Nat → BitVec 8 := fun j => hor p j (min (i - 8 * j) 8)
theorem outB_0 (p : Nat → Bool) : outB p 0 = fun _ => 0#8 := by funext j; simp [outB, hor]
theorem outB_step (p : Nat → Bool) (i : Nat) : vec8 16 (fun j => if j = i / 8 then (if p i then 2#8 * outB p i (i / 8) + 1#8 else 2#8 * outB p i (i / 8)) else outB p i j) = vec8 16 (outB p (i + 1)) := by
  apply vec8_ext
  intro j _
  unfold outB
  by_cases e : j = i / 8
  · subst e
    rw [if_pos rfl, show min (i - 8 * (i / 8)) 8 = i % 8 by omega, show min (i + 1 - 8 * (i / 8)) 8 = i % 8 + 1 by omega, hor, show 8 * (i / 8) + i % 8 = i by omega]
  · rw [if_neg e]
    congr 1
    omega
theorem tog_setb (p : Nat → Bool) (m : Nat) (t : Bool) : setb p m (p m ^^ t) = tog p m t := by
  funext i
  unfold setb tog
  by_cases h : i = m
  · subst h; simp
  · simp [h]
theorem tog_not (p : Nat → Bool) (m : Nat) : setb p m (!p m) = tog p m true := by rw [← tog_setb]; simp
theorem sm_false : ∀ n, sm (fun _ => false) X n = 0#128
  | 0 => rfl
  | n + 1 => by rw [sm, sm_false n]; simp
theorem bne_xor (a b : Bool) : (!(a == b)) = (a ^^ b) := by cases a <;> cases b <;> rfl
theorem pf51 (a : W) (b : W)  : PFx Try.prog 51 [.agg (vec8 16 (blk a)), .agg (vec8 16 (blk b))] (.agg (vec8 16 (blk (mul a b)))) := by
  refine PFx_of_W (rc := rc51) (rs := rs51) Try.func51 rfl T60_ok hm (by kernel_rfl) (by kernel_rfl) (by simp [Try.ntmps51]) ?_
  simp [rc51, rs51, vecb_zero, vec8_zero]
  refine W_varU (fun s : Nat × (Nat → Bool) => s.1 ≤ 128 ∧ sm s.2 X 255 = prodK a b s.1) (fun s => 128 - s.1) (fun s => [(7, .box (vecb 255 s.2)), (8, .int .i64 s.1)]) (0, fun _ => false) ⟨Nat.zero_le _, sm_false 255⟩ (by simp) (fun s hs => ?_)
  obtain ⟨i, p⟩ := s
  obtain ⟨h1, h2⟩ := hs
  simp only at h1 h2
  by_cases hi : i < 128
  · have hi' : (i : Int) < 128 := by omega
    by_cases hx : bt a i = true
    · simp [hi, hi', hx]
      refine W_varU (fun q : Nat × (Nat → Bool) => q.1 ≤ 128 ∧ sm q.2 X 255 = sm p X 255 ^^^ sm (bt b) (fun k => X (i + k)) q.1) (fun q => 128 - q.1) (fun q => [(7, .box (vecb 255 q.2)), (9, .int .i64 q.1)]) (0, p) ⟨Nat.zero_le _, (BitVec.xor_zero).symm⟩ (by simp) (fun q hq => ?_)
      obtain ⟨k, r⟩ := q
      obtain ⟨h3, h4⟩ := hq
      simp only at h3 h4
      by_cases hk : k < 128
      · have hk' : (k : Int) < 128 := by omega
        have e : splice (vecb 255 r) (i + k) [.bool (r (i + k) ^^ bt b k)] = vecb 255 (tog r (i + k) (bt b k)) := by rw [vecb_set 255 _ r _ (by omega), tog_setb]
        have q1 : i + k < 255 := by omega
        have q2 : ((i + k : Nat) : Int) < 255 := by omega
        simp [hi, hi', hk, hk', cast_add, q1, q2, bne_xor, e, -splice, -Int.natCast_add]
        refine ⟨by omega, by omega, by omega, k + 1, tog r (i + k) (bt b k), ⟨by omega, ?_⟩, by omega, fun _ _ => rfl, by omega⟩
        show _ = _ ^^^ (sm (bt b) (fun k => X (i + k)) k ^^^ (if bt b k then X (i + k) else 0#128))
        rw [ev_tog _ _ _ _ (by omega), h4, BitVec.xor_assoc]
      · obtain rfl : k = 128 := by omega
        simp
        refine ⟨by omega, i + 1, r, ⟨by omega, ?_⟩, by omega, fun _ _ => rfl, by omega⟩
        rw [h4, row_ok a, h2, prodK, prodK, sm, if_pos hx]
    · simp [hi, hi', hx]
      refine ⟨by omega, i + 1, p, ⟨by omega, ?_⟩, by omega, fun _ _ => rfl, by omega⟩
      rw [h2, prodK, prodK, sm, if_neg hx, BitVec.xor_zero]
  · obtain rfl : i = 128 := by omega
    rw [prodK_end] at h2
    simp
    refine W_varU (fun s : Nat × (Nat → Bool) => 128 ≤ s.1 ∧ s.1 ≤ 255 ∧ sm s.2 X s.1 = mul a b) (fun s => s.1) (fun s => [(7, .box (vecb 255 s.2)), (10, .int .i64 ((s.1 : Int) - 1))]) (255, p) ⟨show 128 ≤ 255 by decide, Nat.le_refl 255, h2⟩ (by simp) (fun s hs => ?_)
    obtain ⟨m, r⟩ := s
    obtain ⟨h3, h4, h5⟩ := hs
    simp only at h3 h4 h5
    by_cases hm : 128 < m
    · obtain ⟨i, rfl⟩ : ∃ i, m = i + 1 := ⟨m - 1, by omega⟩
      have e0 : ((i + 1 : Nat) : Int) - 1 = (i : Int) := by omega
      have ge : (128 : Int) ≤ (i : Int) := by omega
      have i255 : i < 255 := by omega
      have i255' : (i : Int) < 255 := by omega
      have s1 : (i : Int) - 128 = ((i - 128 : Nat) : Int) := by omega
      have s2 : (i : Int) - 127 = ((i - 127 : Nat) : Int) := by omega
      have s3 : (i : Int) - 126 = ((i - 126 : Nat) : Int) := by omega
      have s4 : (i : Int) - 121 = ((i - 121 : Nat) : Int) := by omega
      have t1 : i - 128 < 255 := by omega
      have t2 : i - 127 < 255 := by omega
      have t3 : i - 126 < 255 := by omega
      have t4 : i - 121 < 255 := by omega
      have t1' : ((i - 128 : Nat) : Int) < 255 := by omega
      have t2' : ((i - 127 : Nat) : Int) < 255 := by omega
      have t3' : ((i - 126 : Nat) : Int) < 255 := by omega
      have t4' : ((i - 121 : Nat) : Int) < 255 := by omega
      have ev : ∀ (r : Nat → Bool) (m : Nat), m < 255 → splice (vecb 255 r) m [.bool (!r m)] = vecb 255 (tog r m true) := fun r m h => by rw [vecb_set 255 m r _ h, tog_not]
      have ho := off_ok r i (by omega)
      unfold off at ho
      by_cases hr : r i = true
      · rw [if_pos hr] at ho
        simp [e0, ge, i255, i255', hr, s1, s2, s3, s4, t1, t2, t3, t4, t1', t2', t3', t4', ev, -splice, -Int.natCast_add]
        refine ⟨by omega, by omega, by omega, by omega, by omega, by omega, by omega, by omega, by omega, i, _, ⟨by omega, by omega, ho.trans h5⟩, by omega, fun _ _ => rfl, rfl⟩
      · rw [if_neg hr] at ho
        simp [e0, ge, i255, i255', hr, -Int.natCast_add]
        refine ⟨by omega, i, r, ⟨by omega, by omega, ho.trans h5⟩, by omega, fun _ _ => rfl, rfl⟩
    · obtain rfl : m = 128 := by omega
      have hp : ∀ t, t < 128 → r t = (mul a b).getLsbD t := fun t ht => by rw [← h5, sm_bit r t 128 (by decide)]; simp [ht]
      simp [vec8_zero]
      refine W_forU 128 (fun _ => True) (fun k => [(11, .box (vec8 16 (outB r k))), (12, .int .i64 k)]) trivial (by simp [outB_0]) (fun k hk _ => ?_) fun _ => ?_
      · have hk' : (k : Int) < 128 := by omega
        obtain ⟨d, hd⟩ : ∃ d, d = k / 8 := ⟨_, rfl⟩
        have d1 : (k : Int).tdiv 8 = (d : Int) := by rw [tdiv8, hd]
        have d2 : (k : Int) / 8 = (d : Int) := by omega
        have d3 : d < 16 := by omega
        have e1 : splice (vec8 16 (outB r k)) d [.int .u8 (bv (2#8 * outB r k d))] = vec8 16 (fun j => if j = d then 2#8 * outB r k d else outB r k j) := vec8_set 16 d _ _ d3
        have st := outB_step r k
        rw [← hd] at st
        by_cases hr : r k = true
        · have e2 : splice (vec8 16 (fun j => if j = d then 2#8 * outB r k d else outB r k j)) d [.int .u8 (bv (2#8 * outB r k d + 1#8))] = vec8 16 (outB r (k + 1)) := by
            rw [vec8_set 16 d _ _ d3, ← st]
            exact vec8_ext fun j _ => by by_cases h : j = d <;> simp [h, hr]
          simp [hk', d1, d2, d3, two8, inc8, e1, e2, hr, show k < 255 by omega, -splice, -Int.natCast_ediv]
          omega
        · have e2 : vec8 16 (fun j => if j = d then 2#8 * outB r k d else outB r k j) = vec8 16 (outB r (k + 1)) := by
            rw [← st]
            exact vec8_ext fun j _ => by by_cases h : j = d <;> simp [h, hr]
          simp [hk', d1, d2, d3, two8, inc8, e1, e2, hr, show k < 255 by omega, -splice, -Int.natCast_ediv]
          omega
      · have e : vec8 16 (outB r 128) = vec8 16 (blk (mul a b)) := vec8_ext fun j hj => by
          unfold outB
          rw [show min (128 - 8 * j) 8 = 8 by omega]
          exact hor_blk r _ j fun t ht => hp _ (by omega)
        simp [e]
noncomputable def T51 : Tab := tabAdd T60 51 (fun _ : W × W => True) (fun z => [.agg (vec8 16 (blk z.1)), .agg (vec8 16 (blk z.2))]) (fun z => .agg (vec8 16 (blk (mul z.1 z.2))))
@[simp] theorem T51_eq (a : W) (b : W)  : T51 51 [.agg (vec8 16 (blk a)), .agg (vec8 16 (blk b))] = some (.agg (vec8 16 (blk (mul a b)))) := tabAdd_eq (a := (a, b)) (by rintro ⟨a, b⟩ ⟨a', b'⟩ h; simp at h ⊢; rw [h.1, h.2]) trivial rfl
@[simp] theorem T51_ne {g : Nat} {xs : List AV} (h : g ≠ 51) : T51 g xs = T60 g xs := tabAdd_ne h
theorem T51_ok : Sound Try.prog T51 := tabAdd_sound T60_ok fun z _ => pf51 z.1 z.2 
/-- Bytes of a text, over a block. -/
theorem xor_part (s : W) (l : List UInt8) (k : Nat) (h : 16 * k < l.length) : vec8 16 (upto (min 16 (l.length - 16 * k)) (fun i => blk s i ^^^ tx (l.drop (16 * k)) i) (blk s)) = vec8 16 (blk (s ^^^ pol (tx (l.drop (16 * k))))) := by
  apply vec8_ext
  intro i hi
  rw [blk_xor, blk_pol _ _ hi]
  unfold upto
  split
  · rfl
  · have : tx (l.drop (16 * k)) i = 0#8 := by
      unfold tx
      rw [List.getD_eq_getElem?_getD, List.getElem?_eq_none (by rw [List.length_drop]; omega)]; rfl
    rw [this]; simp
theorem foldN_succ (h s : W) (l : List UInt8) (k : Nat) : fold h s (blksN (k + 1) l) = mul (fold h s (blksN k l) ^^^ pol (tx (l.drop (16 * k)))) h := by
  rw [blksN_succ, fold_app]; rfl
theorem pf38 (g : W) (s : W) (l : List UInt8) (h : l.length ≤ 1000000) : PFx Try.prog 38 [.agg (vec8 16 (blk g)), .agg (vec8 16 (blk s)), .str l] (.agg (vec8 16 (blk (fold g s (blks l))))) := by
  refine PFx_of_W (rc := rc38) (rs := rs38) Try.func38 rfl T51_ok hm (by kernel_rfl) (by kernel_rfl) (by simp [Try.ntmps38]) ?_
  simp [rc38, rs38, vec8_zero]
  refine W_forU ((l.length + 15) / 16) (fun _ => True) (fun k => [(4, .box (vec8 16 (blk (fold g s (blksN k l))))), (7, .int .i64 ((16 * k : Nat) : Int))]) trivial (by simp [blksN, fold]) (fun k hk _ => ?_) fun _ => ?_
  · have hk' : ((16 * k : Nat) : Int) < (l.length : Int) := by omega
    have hk2 : 16 * k < l.length := by omega
    obtain ⟨S, hS⟩ : ∃ S, S = fold g s (blksN k l) := ⟨_, rfl⟩
    have hx := xor_part S l k hk2
    have hf := foldN_succ g s l k
    rw [← hS] at hf
    simp [hk', hk2, ← hS, -Int.natCast_mul]
    refine W_forU (min 16 (l.length - 16 * k)) (fun _ => True) (fun i => [(4, .box (vec8 16 (upto i (fun i => blk S i ^^^ tx (l.drop (16 * k)) i) (blk S)))), (8, .int .i64 i)]) trivial (by simp [upto_zero]) (fun i hi _ => ?_) fun _ => ?_
    · have i16 : i < 16 := by omega
      have i16' : (i : Int) < 16 := by omega
      have il : 16 * k + i < l.length := by omega
      have il' : ((16 * k + i : Nat) : Int) < (l.length : Int) := by omega
      have e := upto_set 16 i (fun i => blk S i ^^^ tx (l.drop (16 * k)) i) (blk S) i16
      have x1 : (((l[16 * k + i]'il).toNat : Nat) : Int) = bv (tx (l.drop (16 * k)) i) := by
        unfold tx
        rw [List.getD_eq_getElem?_getD, List.getElem?_drop, List.getElem?_eq_getElem il, bv_byte]; rfl
      simp [i16, i16', cast_add, il, il', x1, upto_at, bv_xor8, e, -splice, -Int.natCast_mul, -Int.natCast_add]
      omega
    · have c : ¬ (((min 16 (l.length - 16 * k) : Nat) : Int) < 16 ∧ ((16 * k + min 16 (l.length - 16 * k) : Nat) : Int) < (l.length : Int)) := by omega
      by_cases c1 : min 16 (l.length - 16 * k) < 16
      · have c2 : ¬ ((16 * k + min 16 (l.length - 16 * k) : Nat) : Int) < (l.length : Int) := by omega
        have c1' : ((min 16 (l.length - 16 * k) : Nat) : Int) < 16 := by omega
        simp [c1, c1', c2, cast_add, hx, hf, -Int.natCast_mul, -Int.natCast_add]
        omega
      · have c1' : ¬ ((min 16 (l.length - 16 * k) : Nat) : Int) < 16 := by omega
        simp [c1, c1', cast_add, hx, hf, -Int.natCast_mul, -Int.natCast_add]
        omega
  · have hk' : ¬ ((16 * ((l.length + 15) / 16) : Nat) : Int) < (l.length : Int) := by omega
    simp [hk', blks, -Int.natCast_mul]
noncomputable def T38 : Tab := tabAdd T51 38 (fun z : W × W × (List UInt8) => z.2.2.length ≤ 1000000) (fun z => [.agg (vec8 16 (blk z.1)), .agg (vec8 16 (blk z.2.1)), .str z.2.2]) (fun z => .agg (vec8 16 (blk (fold z.1 z.2.1 (blks z.2.2)))))
@[simp] theorem T38_eq (g : W) (s : W) (l : List UInt8) (h : l.length ≤ 1000000) : T38 38 [.agg (vec8 16 (blk g)), .agg (vec8 16 (blk s)), .str l] = some (.agg (vec8 16 (blk (fold g s (blks l))))) := tabAdd_eq (a := (g, s, l)) (by rintro ⟨a, b, c⟩ ⟨a', b', c'⟩ h; simp at h ⊢; rw [h.1, h.2.1, h.2.2]) h rfl
@[simp] theorem T38_ne {g : Nat} {xs : List AV} (h : g ≠ 38) : T38 g xs = T51 g xs := tabAdd_ne h
theorem T38_ok : Sound Try.prog T38 := tabAdd_sound T51_ok fun z h => pf38 z.1 z.2.1 z.2.2 h
/-- A number's bytes, as far as k of them are laid, from the last one on. -/
def eg (n : Nat) (i : Nat) : BitVec 8 := BitVec.ofNat 8 (n / 256 ^ (7 - i))
def efrom (n k : Nat) (i : Nat) : BitVec 8 := if 8 ≤ i + k then eg n i else 0#8
theorem efrom_0 (n : Nat) : vec8 8 (efrom n 0) = vec8 8 fun _ => 0#8 := vec8_ext fun i hi => by unfold efrom; rw [if_neg (by omega)]
theorem efrom_8 (n : Nat) : vec8 8 (efrom n 8) = bytesAV (beB 8 n) := by
  rw [bytes_vec, beB_len]
  refine vec8_ext fun i hi => ?_
  unfold efrom eg
  rw [if_pos (by omega), beB_get n 8 i hi]
  show _ = BitVec.ofNat 8 (n / 256 ^ (8 - 1 - i) % 256)
  apply BitVec.eq_of_toNat_eq
  simp
theorem efrom_set (n k : Nat) (h : k < 8) : splice (vec8 8 (efrom n k)) (7 - k) [.int .u8 (bv (eg n (7 - k)))] = vec8 8 (efrom n (k + 1)) := by
  rw [vec8_set 8 (7 - k) _ _ (by omega)]
  refine vec8_ext fun i hi => ?_
  unfold efrom
  by_cases e : i = 7 - k
  · subst e; rw [if_pos rfl, if_pos (by omega)]
  · rw [if_neg e]
    by_cases h1 : 8 ≤ i + k
    · rw [if_pos h1, if_pos (by omega)]
    · rw [if_neg h1, if_neg (by omega)]
theorem v0_8 : [AV.int .u8 0, .int .u8 0, .int .u8 0, .int .u8 0, .int .u8 0, .int .u8 0, .int .u8 0, .int .u8 0] = vec8 8 fun _ => 0#8 := rfl
theorem pf39 (n : Nat) (h : n ≤ 9223372036854775807) : PFx Try.prog 39 [.int .i64 n] (.str (beB 8 n)) := by
  refine PFx_of_W (rc := rc39) (rs := rs39) Try.func39 rfl T38_ok hm (by kernel_rfl) (by kernel_rfl) (by simp [Try.ntmps39]) ?_
  simp [rc39, rs39, v0_8]
  refine W_forU 8 (fun _ => True) (fun k => [(0, .int .i64 ((n / 256 ^ k : Nat) : Int)), (3, .box (vec8 8 (efrom n k))), (4, .int .i64 (7 - (k : Int)))]) trivial (by simp [efrom_0, -vec8_inj]) (fun k hk _ => ?_) fun _ => ?_
  · obtain ⟨q, hq⟩ : ∃ q, q = n / 256 ^ k := ⟨_, rfl⟩
    have q1 : n / 256 ^ (k + 1) = q / 256 := by rw [hq, Nat.pow_succ, Nat.div_div_eq_div_mul]
    have q2 : q ≤ 9223372036854775807 := Nat.le_trans (by rw [hq]; exact Nat.div_le_self _ _) h
    have ge : (0 : Int) ≤ 7 - (k : Int) := by omega
    have cx : (7 : Int) - (k : Int) = ((7 - k : Nat) : Int) := by omega
    have w : IntKind.u8.wrap ((q % 256 : Nat) : Int) = bv (eg n (7 - k)) := by
      rw [bv_wrap8, eg, show 7 - (7 - k) = k by omega, ← hq]
      congr 1
      apply BitVec.eq_of_toNat_eq
      simp
    have e := efrom_set n k hk
    have t1 : 7 - k < 8 := by omega
    have t2 : ((7 - k : Nat) : Int) < 8 := by omega
    have s1 : ((7 - k : Nat) : Int) - 1 = 7 - ((k : Int) + 1) := by omega
    simp only [← hq, q1]
    simp [cx, t1, t2, tmod256, tdiv256, w, e, s1, -splice, -Int.natCast_emod, -Int.natCast_ediv]
    omega
  · have t8 : List.take 8 (bytesAV (beB 8 n)) = bytesAV (beB 8 n) := List.take_of_length_le (by simp)
    have u8 : List.take 8 (beB 8 n) = beB 8 n := List.take_of_length_le (by simp)
    simp [efrom_8, t8, u8]
noncomputable def T39 : Tab := tabAdd T38 39 (fun z : Nat => z ≤ 9223372036854775807) (fun z => [.int .i64 z]) (fun z => .str (beB 8 z))
@[simp] theorem T39_eq (n : Nat) (h : n ≤ 9223372036854775807) : T39 39 [.int .i64 n] = some (.str (beB 8 n)) := tabAdd_eq (a := n) (by simp +contextual [Int.natCast_inj]) h rfl
@[simp] theorem T39_ne {g : Nat} {xs : List AV} (h : g ≠ 39) : T39 g xs = T38 g xs := tabAdd_ne h
theorem T39_ok : Sound Try.prog T39 := tabAdd_sound T38_ok fun z h => pf39 z h
theorem pf26 (g : W) (ad : List UInt8) (t : List UInt8) (h : ad.length ≤ 100000 ∧ t.length ≤ 100000) : PFx Try.prog 26 [.agg (vec8 16 (blk g)), .str ad, .str t] (.agg (vec8 16 (blk (sumT g ad t)))) := by
  refine PFx_of_W (rc := rc26) (rs := rs26) Try.func26 rfl T39_ok hm (by kernel_rfl) (by kernel_rfl) (by simp [Try.ntmps26]) ?_
  obtain ⟨h1, h2⟩ := h
  have z : vec8 16 (fun _ => 0#8) = vec8 16 (blk 0#128) := vec8_ext fun i _ => (blk_zero i).symm
  simp [rc26, rs26, vec8_zero, z, cast_muln, show ad.length ≤ 1000000 by omega, show t.length ≤ 1000000 by omega, show 8 * ad.length ≤ 9223372036854775807 by omega, show 8 * t.length ≤ 9223372036854775807 by omega, lens_one, sumT, -vec8_inj, -Int.natCast_mul]
  omega
noncomputable def T26 : Tab := tabAdd T39 26 (fun z : W × (List UInt8) × (List UInt8) => z.2.1.length ≤ 100000 ∧ z.2.2.length ≤ 100000) (fun z => [.agg (vec8 16 (blk z.1)), .str z.2.1, .str z.2.2]) (fun z => .agg (vec8 16 (blk (sumT z.1 z.2.1 z.2.2))))
@[simp] theorem T26_eq (g : W) (ad : List UInt8) (t : List UInt8) (h : ad.length ≤ 100000 ∧ t.length ≤ 100000) : T26 26 [.agg (vec8 16 (blk g)), .str ad, .str t] = some (.agg (vec8 16 (blk (sumT g ad t)))) := tabAdd_eq (a := (g, ad, t)) (by rintro ⟨a, b, c⟩ ⟨a', b', c'⟩ h; simp at h ⊢; rw [h.1, h.2.1, h.2.2]) h rfl
@[simp] theorem T26_ne {g : Nat} {xs : List AV} (h : g ≠ 26) : T26 g xs = T39 g xs := tabAdd_ne h
theorem T26_ok : Sound Try.prog T26 := tabAdd_sound T39_ok fun z h => pf26 z.1 z.2.1 z.2.2 h
end Go.Proofs.Ytlihfdbfcklkmaa

