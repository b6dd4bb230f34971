/- cipher, of the document. -/
import Derived.Test.YtlihfdbfcklkmaaG1
import Derived.Test.YtlihfdbfcklkmaaE24
import Derived.Test.YtlihfdbfcklkmaaKM
set_option linter.unusedVariables false
set_option linter.unusedSimpArgs false
namespace Go.Proofs.Ytlihfdbfcklkmaa
open Go.Proofs.Ytlihfdbfcklkmaa.Pad Go.Proofs.Ytlihfdbfcklkmaa.Pad.Gf Go.Proofs.Ytlihfdbfcklkmaa.Pad.Ci
/-- padlock/padlockref07.Xor -/
def rc27 : RC :=
  (.seq
   (.reg false [⟨(some 2), .box (.t 0), none⟩,
     ⟨(some 3), .box (.t 1), none⟩,
     ⟨(some 4), .alloc (List.replicate 16 (.int .u8 0)), none⟩] [2, 3, 4])
   (.seq
    (.seq
     (.reg false [⟨(some 5), .mov (.c (.int .i64 0)), none⟩] [2, 3, 4, 5])
     (.block 0
      (.loop
       (.seq
        (.seq
         (.reg false [⟨(some 6), .mov (.t 5), none⟩,
           ⟨(some 7), .bin .lss true (.t 6) (.c (.int .i64 16)), none⟩] [2, 3, 4, 5, 7])
         (.cond 7
          (.reg false [] [2, 3, 4, 5])
          (.seq
           (.reg false [] [2, 4])
           (.exit 0))))
        (.seq
         (.block 1
          (.reg true [⟨(some 10), .mov (.t 5), none⟩,
            ⟨(some 11), .mov (.t 5), none⟩,
            ⟨(some 12), .idxB 2 1 16 (.t 11), none⟩,
            ⟨(some 13), .loadR 12 2 1 false, none⟩,
            ⟨(some 14), .mov (.t 5), none⟩,
            ⟨(some 15), .idxB 3 1 16 (.t 14), none⟩,
            ⟨(some 16), .loadR 15 3 1 false, none⟩,
            ⟨(some 17), .bin .xor false (.t 13) (.t 16), none⟩,
            ⟨(some 18), .idxB 2 1 16 (.t 10), none⟩,
            ⟨none, .stR 18 2 1 (.t 17), none⟩] [2, 3, 4, 5]))
         (.reg false [⟨(some 8), .mov (.t 5), none⟩,
           ⟨(some 9), .bin .add true (.t 8) (.c (.int .i64 1)), none⟩,
           ⟨(some 5), .mov (.t 9), none⟩] [2, 3, 4, 5]))))))
    (.seq
     (.reg false [⟨(some 19), .loadB 2 16 true, none⟩,
       ⟨none, .stB 4 16 (.t 19), none⟩] [4])
     .ret)))
def rs27 : List RS := [.cell 4 16 true]
/-- padlock/padlockref07.Turn -/
def rc34 : RC :=
  (.seq
   (.reg false [⟨(some 1), .box (.t 0), none⟩,
     ⟨(some 2), .alloc (List.replicate 16 (.int .u8 0)), none⟩] [1, 2])
   (.seq
    (.reg false [⟨(some 3), .alloc (List.replicate 16 (.int .u8 0)), none⟩] [1, 2, 3])
    (.seq
     (.seq
      (.reg false [⟨(some 4), .mov (.c (.int .i64 0)), none⟩] [1, 2, 3, 4])
      (.block 0
       (.loop
        (.seq
         (.seq
          (.reg false [⟨(some 6), .mov (.t 4), none⟩,
            ⟨(some 7), .bin .lss true (.t 6) (.c (.int .i64 4)), none⟩] [1, 2, 3, 4, 7])
          (.cond 7
           (.reg false [] [1, 2, 3, 4])
           (.seq
            (.reg false [] [2, 3])
            (.exit 0))))
         (.seq
          (.block 1
           (.seq
            (.reg false [⟨(some 5), .mov (.c (.int .i64 0)), none⟩] [1, 2, 3, 4, 5])
            (.block 2
             (.loop
              (.seq
               (.seq
                (.reg false [⟨(some 10), .mov (.t 5), none⟩,
                  ⟨(some 11), .bin .lss true (.t 10) (.c (.int .i64 4)), none⟩] [1, 2, 3, 4, 5, 11])
                (.cond 11
                 (.reg false [] [1, 2, 3, 4, 5])
                 (.seq
                  (.reg false [] [1, 2, 3, 4])
                  (.exit 2))))
               (.seq
                (.block 3
                 (.reg false [⟨(some 14), .mov (.t 4), none⟩,
                   ⟨(some 15), .bin .mul true (.c (.int .i64 4)) (.t 14), none⟩,
                   ⟨(some 16), .mov (.t 5), none⟩,
                   ⟨(some 17), .bin .add true (.t 15) (.t 16), none⟩,
                   ⟨(some 18), .mov (.t 4), none⟩,
                   ⟨(some 19), .mov (.t 5), none⟩,
                   ⟨(some 20), .bin .add true (.t 18) (.t 19), none⟩,
                   ⟨(some 21), .bin .rem true (.t 20) (.c (.int .i64 4)), none⟩,
                   ⟨(some 22), .bin .mul true (.c (.int .i64 4)) (.t 21), none⟩,
                   ⟨(some 23), .mov (.t 5), none⟩,
                   ⟨(some 24), .bin .add true (.t 22) (.t 23), none⟩,
                   ⟨(some 25), .idxB 1 1 16 (.t 24), none⟩,
                   ⟨(some 26), .loadR 25 1 1 false, none⟩,
                   ⟨(some 27), .idxB 3 1 16 (.t 17), none⟩,
                   ⟨none, .stR 27 3 1 (.t 26), none⟩] [1, 2, 3, 4, 5]))
                (.reg false [⟨(some 12), .mov (.t 5), none⟩,
                  ⟨(some 13), .bin .add true (.t 12) (.c (.int .i64 1)), none⟩,
                  ⟨(some 5), .mov (.t 13), none⟩] [1, 2, 3, 4, 5])))))))
          (.reg false [⟨(some 8), .mov (.t 4), none⟩,
            ⟨(some 9), .bin .add true (.t 8) (.c (.int .i64 1)), none⟩,
            ⟨(some 4), .mov (.t 9), none⟩] [1, 2, 3, 4]))))))
     (.seq
      (.reg false [⟨(some 28), .loadB 3 16 true, none⟩,
        ⟨none, .stB 2 16 (.t 28), none⟩] [2])
      .ret))))
def rs34 : List RS := [.cell 2 16 true]
/-- padlock/padlockref07.boxes -/
def rc35 : RC :=
  (.seq
   (.reg false [⟨(some 1), .box (.t 0), none⟩,
     ⟨(some 2), .alloc (List.replicate 16 (.int .u8 0)), none⟩] [1, 2])
   (.seq
    (.seq
     (.reg false [⟨(some 3), .mov (.c (.int .i64 0)), none⟩] [1, 2, 3])
     (.block 0
      (.loop
       (.seq
        (.seq
         (.reg false [⟨(some 4), .mov (.t 3), none⟩,
           ⟨(some 5), .bin .lss true (.t 4) (.c (.int .i64 16)), none⟩] [1, 2, 3, 5])
         (.cond 5
          (.reg false [] [1, 2, 3])
          (.seq
           (.reg false [] [1, 2])
           (.exit 0))))
        (.seq
         (.block 1
          (.reg false [⟨(some 8), .mov (.t 3), none⟩,
            ⟨(some 9), .mov (.t 3), none⟩,
            ⟨(some 10), .idxB 1 1 16 (.t 9), none⟩,
            ⟨(some 11), .loadR 10 1 1 false, none⟩,
            ⟨(some 12), .call 32 [(false, (.t 11))], none⟩,
            ⟨(some 13), .idxB 1 1 16 (.t 8), none⟩,
            ⟨none, .stR 13 1 1 (.t 12), none⟩] [1, 2, 3]))
         (.reg false [⟨(some 6), .mov (.t 3), none⟩,
           ⟨(some 7), .bin .add true (.t 6) (.c (.int .i64 1)), none⟩,
           ⟨(some 3), .mov (.t 7), none⟩] [1, 2, 3]))))))
    (.seq
     (.reg false [⟨(some 14), .loadB 1 16 true, none⟩,
       ⟨none, .stB 2 16 (.t 14), none⟩] [2])
     .ret)))
def rs35 : List RS := [.cell 2 16 true]
/-- padlock/padlockref07.mixes -/
def rc36 : RC :=
  (.seq
   (.reg false [⟨(some 1), .box (.t 0), none⟩,
     ⟨(some 2), .alloc (List.replicate 16 (.int .u8 0)), none⟩] [1, 2])
   (.seq
    (.seq
     (.reg false [⟨(some 3), .mov (.c (.int .i64 0)), none⟩] [1, 2, 3])
     (.block 0
      (.loop
       (.seq
        (.seq
         (.reg false [⟨(some 6), .mov (.t 3), none⟩,
           ⟨(some 7), .bin .lss true (.t 6) (.c (.int .i64 4)), none⟩] [1, 2, 3, 7])
         (.cond 7
          (.reg false [] [1, 2, 3])
          (.seq
           (.reg false [] [1, 2])
           (.exit 0))))
        (.seq
         (.block 1
          (.seq
           (.reg true [⟨(some 10), .mov (.t 3), none⟩,
             ⟨(some 11), .bin .mul true (.c (.int .i64 4)) (.t 10), none⟩,
             ⟨(some 12), .idxB 1 1 16 (.t 11), none⟩,
             ⟨(some 13), .loadR 12 1 1 false, none⟩,
             ⟨(some 14), .mov (.t 3), none⟩,
             ⟨(some 15), .bin .mul true (.c (.int .i64 4)) (.t 14), none⟩,
             ⟨(some 16), .bin .add true (.t 15) (.c (.int .i64 1)), none⟩,
             ⟨(some 17), .idxB 1 1 16 (.t 16), none⟩,
             ⟨(some 18), .loadR 17 1 1 false, none⟩,
             ⟨(some 19), .mov (.t 3), none⟩,
             ⟨(some 20), .bin .mul true (.c (.int .i64 4)) (.t 19), none⟩,
             ⟨(some 21), .bin .add true (.t 20) (.c (.int .i64 2)), none⟩,
             ⟨(some 22), .idxB 1 1 16 (.t 21), none⟩,
             ⟨(some 23), .loadR 22 1 1 false, none⟩,
             ⟨(some 24), .mov (.t 3), none⟩,
             ⟨(some 25), .bin .mul true (.c (.int .i64 4)) (.t 24), none⟩,
             ⟨(some 26), .bin .add true (.t 25) (.c (.int .i64 3)), none⟩,
             ⟨(some 27), .idxB 1 1 16 (.t 26), none⟩,
             ⟨(some 28), .loadR 27 1 1 false, none⟩,
             ⟨(some 29), .build [(.int .u8 0), (.int .u8 0), (.int .u8 0), (.int .u8 0)] [(0, 1, (.t 13)), (1, 1, (.t 18)), (2, 1, (.t 23)), (3, 1, (.t 28))], none⟩,
             ⟨(some 30), .call 46 [(false, (.t 29))], none⟩,
             ⟨(some 4), .alloc [(.int .u8 0), (.int .u8 0), (.int .u8 0), (.int .u8 0)], none⟩,
             ⟨none, .stB 4 4 (.t 30), none⟩] [1, 2, 3, 4])
           (.seq
            (.reg false [⟨(some 5), .mov (.c (.int .i64 0)), none⟩] [1, 2, 3, 4, 5])
            (.block 2
             (.loop
              (.seq
               (.seq
                (.reg false [⟨(some 31), .mov (.t 5), none⟩,
                  ⟨(some 32), .bin .lss true (.t 31) (.c (.int .i64 4)), none⟩] [1, 2, 3, 4, 5, 32])
                (.cond 32
                 (.reg false [] [1, 2, 3, 4, 5])
                 (.seq
                  (.reg false [] [1, 2, 3])
                  (.exit 2))))
               (.seq
                (.block 3
                 (.reg false [⟨(some 35), .mov (.t 3), none⟩,
                   ⟨(some 36), .bin .mul true (.c (.int .i64 4)) (.t 35), none⟩,
                   ⟨(some 37), .mov (.t 5), none⟩,
                   ⟨(some 38), .bin .add true (.t 36) (.t 37), none⟩,
                   ⟨(some 39), .mov (.t 5), none⟩,
                   ⟨(some 40), .idxB 4 1 4 (.t 39), none⟩,
                   ⟨(some 41), .loadR 40 4 1 false, none⟩,
                   ⟨(some 42), .idxB 1 1 16 (.t 38), none⟩,
                   ⟨none, .stR 42 1 1 (.t 41), none⟩] [1, 2, 3, 4, 5]))
                (.reg false [⟨(some 33), .mov (.t 5), none⟩,
                  ⟨(some 34), .bin .add true (.t 33) (.c (.int .i64 1)), none⟩,
                  ⟨(some 5), .mov (.t 34), none⟩] [1, 2, 3, 4, 5]))))))))
         (.reg false [⟨(some 8), .mov (.t 3), none⟩,
           ⟨(some 9), .bin .add true (.t 8) (.c (.int .i64 1)), none⟩,
           ⟨(some 3), .mov (.t 9), none⟩] [1, 2, 3]))))))
    (.seq
     (.reg false [⟨(some 43), .loadB 1 16 true, none⟩,
       ⟨none, .stB 2 16 (.t 43), none⟩] [2])
     .ret)))
def rs36 : List RS := [.cell 2 16 true]
/-- padlock/padlockref07.Seal -/
def rc23 : RC :=
  (.seq
   (.reg false [⟨(some 2), .box (.t 0), none⟩,
     ⟨(some 3), .box (.t 1), none⟩,
     ⟨(some 4), .alloc (List.replicate 16 (.int .u8 0)), none⟩] [2, 3, 4])
   (.seq
    (.reg false [⟨(some 6), .loadB 3 16 true, none⟩,
      ⟨(some 7), .idxB 2 16 11 (.c (.int .i64 0)), none⟩,
      ⟨(some 8), .loadR 7 2 16 true, none⟩,
      ⟨(some 9), .call 27 [(false, (.t 6)), (false, (.t 8))], none⟩,
      ⟨none, .stB 3 16 (.t 9), none⟩] [2, 3, 4])
    (.seq
     (.seq
      (.reg false [⟨(some 5), .mov (.c (.int .i64 1)), none⟩] [2, 3, 4, 5])
      (.block 0
       (.loop
        (.seq
         (.seq
          (.reg false [⟨(some 10), .mov (.t 5), none⟩,
            ⟨(some 11), .bin .leq true (.t 10) (.c (.int .i64 10)), none⟩] [2, 3, 4, 5, 11])
          (.cond 11
           (.reg false [] [2, 3, 4, 5])
           (.seq
            (.reg false [] [3, 4])
            (.exit 0))))
         (.seq
          (.block 1
           (.seq
            (.reg false [⟨(some 14), .loadB 3 16 true, none⟩,
              ⟨(some 15), .call 35 [(false, (.t 14))], none⟩,
              ⟨(some 16), .call 34 [(false, (.t 15))], none⟩,
              ⟨none, .stB 3 16 (.t 16), none⟩] [2, 3, 4, 5])
            (.seq
             (.seq
              (.reg false [⟨(some 17), .mov (.t 5), none⟩,
                ⟨(some 18), .bin .lss true (.t 17) (.c (.int .i64 10)), none⟩] [2, 3, 4, 5, 18])
              (.cond 18
               (.reg false [⟨(some 19), .loadB 3 16 true, none⟩,
                 ⟨(some 20), .call 36 [(false, (.t 19))], none⟩,
                 ⟨none, .stB 3 16 (.t 20), none⟩] [2, 3, 4, 5])
               (.reg false [] [2, 3, 4, 5])))
             (.reg true [⟨(some 21), .loadB 3 16 true, none⟩,
               ⟨(some 22), .mov (.t 5), none⟩,
               ⟨(some 23), .idxB 2 16 11 (.t 22), none⟩,
               ⟨(some 24), .loadR 23 2 16 true, none⟩,
               ⟨(some 25), .call 27 [(false, (.t 21)), (false, (.t 24))], none⟩,
               ⟨none, .stB 3 16 (.t 25), none⟩] [2, 3, 4, 5]))))
          (.reg false [⟨(some 12), .mov (.t 5), none⟩,
            ⟨(some 13), .bin .add true (.t 12) (.c (.int .i64 1)), none⟩,
            ⟨(some 5), .mov (.t 13), none⟩] [2, 3, 4, 5]))))))
     (.seq
      (.reg false [⟨(some 26), .loadB 3 16 true, none⟩,
        ⟨none, .stB 4 16 (.t 26), none⟩] [4])
      .ret))))
def rs23 : List RS := [.cell 4 16 true]
/-- padlock/padlockref07.Expand -/
def rc22 : RC :=
  (.seq
   (.reg false [⟨(some 1), .box (.t 0), none⟩,
     ⟨(some 2), .alloc (List.replicate 176 (.int .u8 0)), none⟩] [1, 2])
   (.seq
    (.reg false [⟨(some 3), .alloc (List.replicate 176 (.int .u8 0)), none⟩] [1, 2, 3])
    (.seq
     (.reg false [⟨(some 4), .mov (.c (.int .u8 1)), none⟩] [1, 2, 3, 4])
     (.seq
      (.seq
       (.reg false [⟨(some 5), .mov (.c (.int .i64 0)), none⟩] [1, 2, 3, 4, 5])
       (.block 0
        (.loop
         (.seq
          (.seq
           (.reg false [⟨(some 11), .mov (.t 5), none⟩,
             ⟨(some 12), .bin .lss true (.t 11) (.c (.int .i64 44)), none⟩] [1, 2, 3, 4, 5, 12])
           (.cond 12
            (.reg false [] [1, 2, 3, 4, 5])
            (.seq
             (.reg false [] [2, 3])
             (.exit 0))))
          (.seq
           (.block 1
            (.seq
             (.seq
              (.reg false [⟨(some 15), .mov (.t 5), none⟩,
                ⟨(some 16), .bin .lss true (.t 15) (.c (.int .i64 4)), none⟩] [1, 2, 3, 4, 5, 16])
              (.cond 16
               (.seq
                (.reg true [⟨(some 17), .mov (.t 5), none⟩,
                  ⟨(some 18), .mov (.t 5), none⟩,
                  ⟨(some 19), .bin .mul true (.c (.int .i64 4)) (.t 18), none⟩,
                  ⟨(some 20), .idxB 1 1 16 (.t 19), none⟩,
                  ⟨(some 21), .loadR 20 1 1 false, none⟩,
                  ⟨(some 22), .mov (.t 5), none⟩,
                  ⟨(some 23), .bin .mul true (.c (.int .i64 4)) (.t 22), none⟩,
                  ⟨(some 24), .bin .add true (.t 23) (.c (.int .i64 1)), none⟩,
                  ⟨(some 25), .idxB 1 1 16 (.t 24), none⟩,
                  ⟨(some 26), .loadR 25 1 1 false, none⟩,
                  ⟨(some 27), .mov (.t 5), none⟩,
                  ⟨(some 28), .bin .mul true (.c (.int .i64 4)) (.t 27), none⟩,
                  ⟨(some 29), .bin .add true (.t 28) (.c (.int .i64 2)), none⟩,
                  ⟨(some 30), .idxB 1 1 16 (.t 29), none⟩,
                  ⟨(some 31), .loadR 30 1 1 false, none⟩,
                  ⟨(some 32), .mov (.t 5), none⟩,
                  ⟨(some 33), .bin .mul true (.c (.int .i64 4)) (.t 32), none⟩,
                  ⟨(some 34), .bin .add true (.t 33) (.c (.int .i64 3)), none⟩,
                  ⟨(some 35), .idxB 1 1 16 (.t 34), none⟩,
                  ⟨(some 36), .loadR 35 1 1 false, none⟩,
                  ⟨(some 37), .build [(.int .u8 0), (.int .u8 0), (.int .u8 0), (.int .u8 0)] [(0, 1, (.t 21)), (1, 1, (.t 26)), (2, 1, (.t 31)), (3, 1, (.t 36))], none⟩,
                  ⟨(some 38), .idxB 3 4 44 (.t 17), none⟩,
                  ⟨none, .stR 38 3 4 (.t 37), none⟩] [1, 2, 3, 4, 5])
                (.exit 1))
               (.reg false [] [1, 2, 3, 4, 5])))
             (.seq
              (.reg false [⟨(some 39), .mov (.t 5), none⟩,
                ⟨(some 40), .bin .sub true (.t 39) (.c (.int .i64 1)), none⟩,
                ⟨(some 41), .idxB 3 4 44 (.t 40), none⟩,
                ⟨(some 42), .loadR 41 3 4 true, none⟩,
                ⟨(some 6), .alloc [(.int .u8 0), (.int .u8 0), (.int .u8 0), (.int .u8 0)], none⟩,
                ⟨none, .stB 6 4 (.t 42), none⟩] [1, 2, 3, 4, 5, 6])
              (.seq
               (.seq
                (.reg false [⟨(some 43), .mov (.t 5), none⟩,
                  ⟨(some 44), .bin .rem true (.t 43) (.c (.int .i64 4)), none⟩,
                  ⟨(some 45), .bin .eql true (.t 44) (.c (.int .i64 0)), none⟩] [1, 2, 3, 4, 5, 6, 45])
                (.cond 45
                 (.seq
                  (.reg true [⟨(some 46), .idxB 6 1 4 (.c (.int .i64 1)), none⟩,
                    ⟨(some 47), .loadR 46 6 1 false, none⟩,
                    ⟨(some 48), .call 32 [(false, (.t 47))], none⟩,
                    ⟨(some 49), .mov (.t 4), none⟩,
                    ⟨(some 50), .bin .xor false (.t 48) (.t 49), none⟩,
                    ⟨(some 51), .idxB 6 1 4 (.c (.int .i64 2)), none⟩,
                    ⟨(some 52), .loadR 51 6 1 false, none⟩,
                    ⟨(some 53), .call 32 [(false, (.t 52))], none⟩,
                    ⟨(some 54), .idxB 6 1 4 (.c (.int .i64 3)), none⟩,
                    ⟨(some 55), .loadR 54 6 1 false, none⟩,
                    ⟨(some 56), .call 32 [(false, (.t 55))], none⟩,
                    ⟨(some 57), .idxB 6 1 4 (.c (.int .i64 0)), none⟩,
                    ⟨(some 58), .loadR 57 6 1 false, none⟩,
                    ⟨(some 59), .call 32 [(false, (.t 58))], none⟩,
                    ⟨(some 60), .build [(.int .u8 0), (.int .u8 0), (.int .u8 0), (.int .u8 0)] [(0, 1, (.t 50)), (1, 1, (.t 53)), (2, 1, (.t 56)), (3, 1, (.t 59))], none⟩,
                    ⟨none, .stB 6 4 (.t 60), none⟩] [1, 2, 3, 4, 5, 6])
                  (.reg false [⟨(some 61), .mov (.t 4), none⟩,
                    ⟨(some 62), .call 33 [(false, (.c (.int .u8 2))), (false, (.t 61))], none⟩,
                    ⟨(some 4), .mov (.t 62), none⟩] [1, 2, 3, 4, 5, 6]))
                 (.reg false [] [1, 2, 3, 4, 5, 6])))
               (.seq
                (.reg false [⟨(some 7), .mov (.c (.int .i64 0)), none⟩] [1, 2, 3, 4, 5, 6, 7])
                (.block 2
                 (.loop
                  (.seq
                   (.seq
                    (.reg false [⟨(some 63), .mov (.t 7), none⟩,
                      ⟨(some 64), .bin .lss true (.t 63) (.c (.int .i64 4)), none⟩] [1, 2, 3, 4, 5, 6, 7, 64])
                    (.cond 64
                     (.reg false [] [1, 2, 3, 4, 5, 6, 7])
                     (.seq
                      (.reg false [] [1, 2, 3, 4, 5])
                      (.exit 2))))
                   (.seq
                    (.block 3
                     (.reg true [⟨(some 67), .mov (.t 5), none⟩,
                       ⟨(some 68), .mov (.t 7), none⟩,
                       ⟨(some 69), .mov (.t 5), none⟩,
                       ⟨(some 70), .bin .sub true (.t 69) (.c (.int .i64 4)), none⟩,
                       ⟨(some 71), .mov (.t 7), none⟩,
                       ⟨(some 72), .idxB 3 4 44 (.t 70), none⟩,
                       ⟨(some 73), .idxR 72 3 1 4 (.t 71), none⟩,
                       ⟨(some 74), .loadR 73 3 1 false, none⟩,
                       ⟨(some 75), .mov (.t 7), none⟩,
                       ⟨(some 76), .idxB 6 1 4 (.t 75), none⟩,
                       ⟨(some 77), .loadR 76 6 1 false, none⟩,
                       ⟨(some 78), .bin .xor false (.t 74) (.t 77), none⟩,
                       ⟨(some 79), .idxB 3 4 44 (.t 67), none⟩,
                       ⟨(some 80), .idxR 79 3 1 4 (.t 68), none⟩,
                       ⟨none, .stR 80 3 1 (.t 78), none⟩] [1, 2, 3, 4, 5, 6, 7]))
                    (.reg false [⟨(some 65), .mov (.t 7), none⟩,
                      ⟨(some 66), .bin .add true (.t 65) (.c (.int .i64 1)), none⟩,
                      ⟨(some 7), .mov (.t 66), none⟩] [1, 2, 3, 4, 5, 6, 7]))))))))))
           (.reg false [⟨(some 13), .mov (.t 5), none⟩,
             ⟨(some 14), .bin .add true (.t 13) (.c (.int .i64 1)), none⟩,
             ⟨(some 5), .mov (.t 14), none⟩] [1, 2, 3, 4, 5]))))))
      (.seq
       (.reg false [⟨(some 8), .alloc (List.replicate 176 (.int .u8 0)), none⟩] [2, 3, 8])
       (.seq
        (.seq
         (.reg false [⟨(some 9), .mov (.c (.int .i64 0)), none⟩] [2, 3, 8, 9])
         (.block 4
          (.loop
           (.seq
            (.seq
             (.reg false [⟨(some 81), .mov (.t 9), none⟩,
               ⟨(some 82), .bin .lss true (.t 81) (.c (.int .i64 44)), none⟩] [2, 3, 8, 9, 82])
             (.cond 82
              (.reg false [] [2, 3, 8, 9])
              (.seq
               (.reg false [] [2, 8])
               (.exit 4))))
            (.seq
             (.block 5
              (.seq
               (.reg false [⟨(some 10), .mov (.c (.int .i64 0)), none⟩] [2, 3, 8, 9, 10])
               (.block 6
                (.loop
                 (.seq
                  (.seq
                   (.reg false [⟨(some 85), .mov (.t 10), none⟩,
                     ⟨(some 86), .bin .lss true (.t 85) (.c (.int .i64 4)), none⟩] [2, 3, 8, 9, 10, 86])
                   (.cond 86
                    (.reg false [] [2, 3, 8, 9, 10])
                    (.seq
                     (.reg false [] [2, 3, 8, 9])
                     (.exit 6))))
                  (.seq
                   (.block 7
                    (.reg true [⟨(some 89), .mov (.t 9), none⟩,
                      ⟨(some 90), .bin .quo true (.t 89) (.c (.int .i64 4)), none⟩,
                      ⟨(some 91), .mov (.t 9), none⟩,
                      ⟨(some 92), .bin .rem true (.t 91) (.c (.int .i64 4)), none⟩,
                      ⟨(some 93), .bin .mul true (.c (.int .i64 4)) (.t 92), none⟩,
                      ⟨(some 94), .mov (.t 10), none⟩,
                      ⟨(some 95), .bin .add true (.t 93) (.t 94), none⟩,
                      ⟨(some 96), .mov (.t 9), none⟩,
                      ⟨(some 97), .mov (.t 10), none⟩,
                      ⟨(some 98), .idxB 3 4 44 (.t 96), none⟩,
                      ⟨(some 99), .idxR 98 3 1 4 (.t 97), none⟩,
                      ⟨(some 100), .loadR 99 3 1 false, none⟩,
                      ⟨(some 101), .idxB 8 16 11 (.t 90), none⟩,
                      ⟨(some 102), .idxR 101 8 1 16 (.t 95), none⟩,
                      ⟨none, .stR 102 8 1 (.t 100), none⟩] [2, 3, 8, 9, 10]))
                   (.reg false [⟨(some 87), .mov (.t 10), none⟩,
                     ⟨(some 88), .bin .add true (.t 87) (.c (.int .i64 1)), none⟩,
                     ⟨(some 10), .mov (.t 88), none⟩] [2, 3, 8, 9, 10])))))))
             (.reg false [⟨(some 83), .mov (.t 9), none⟩,
               ⟨(some 84), .bin .add true (.t 83) (.c (.int .i64 1)), none⟩,
               ⟨(some 9), .mov (.t 84), none⟩] [2, 3, 8, 9]))))))
        (.seq
         (.reg false [⟨(some 103), .loadB 8 176 true, none⟩,
           ⟨none, .stB 2 176 (.t 103), none⟩] [2])
         .ret)))))))
def rs22 : List RS := [.cell 2 176 true]
theorem pf27 (f : Bl) (g : Bl)  : PFx Try.prog 27 [.agg (vec8 16 f), .agg (vec8 16 g)] (.agg (vec8 16 (xo f g))) := by
  refine PFx_of_W (rc := rc27) (rs := rs27) Try.func27 rfl T56_ok hm (by kernel_rfl) (by kernel_rfl) (by simp [Try.ntmps27]) ?_
  simp [rc27, rs27, vec8_zero]
  refine W_forU 16 (fun _ => True) (fun k => [(2, .box (vec8 16 (upto k (xo f g) f))), (5, .int .i64 k)]) trivial (by simp [upto_zero]) (fun k hk _ => ?_) fun _ => ?_
  · have hk' : (k : Int) < 16 := by omega
    have e : splice (vec8 16 (upto k (xo f g) f)) k [.int .u8 (bv (f k ^^^ g k))] = _ := upto_set 16 k (xo f g) f hk
    simp [hk', hk, upto_at, bv_xor8, e, -splice]
    omega
  · simp [upto_all]
noncomputable def T27 : Tab := tabAdd T56 27 (fun _ : Bl × Bl => True) (fun z => [.agg (vec8 16 z.1), .agg (vec8 16 z.2)]) (fun z => .agg (vec8 16 (xo z.1 z.2)))
@[simp] theorem T27_eq (f : Bl) (g : Bl)  : T27 27 [.agg (vec8 16 f), .agg (vec8 16 g)] = some (.agg (vec8 16 (xo f g))) := tabAdd_eq (a := (f, g)) (by rintro ⟨f, g⟩ ⟨f', g'⟩ h; simp at h ⊢; exact xo_ag h.1 h.2) trivial rfl
@[simp] theorem T27_ne {g : Nat} {xs : List AV} (h : g ≠ 27) : T27 g xs = T56 g xs := tabAdd_ne h
theorem T27_ok : Sound Try.prog T27 := tabAdd_sound T56_ok fun z _ => pf27 z.1 z.2 
theorem pf34 (f : Bl)  : PFx Try.prog 34 [.agg (vec8 16 f)] (.agg (vec8 16 (turn f))) := by
  refine PFx_of_W (rc := rc34) (rs := rs34) Try.func34 rfl T27_ok hm (by kernel_rfl) (by kernel_rfl) (by simp [Try.ntmps34]) ?_
  simp [rc34, rs34, vec8_zero]
  refine W_forU 4 (fun _ => True) (fun c => [(3, .box (vec8 16 (upto (4 * c) (turn f) fun _ => 0#8))), (4, .int .i64 c)]) trivial (by simp [upto_zero]) (fun c hc _ => ?_) fun _ => ?_
  · have hc' : (c : Int) < 4 := by omega
    simp [hc']
    refine W_forU 4 (fun _ => True) (fun i => [(3, .box (vec8 16 (upto (4 * c + i) (turn f) fun _ => 0#8))), (5, .int .i64 i)]) trivial (by simp) (fun i hi _ => ?_) fun _ => ?_
    · have hi' : (i : Int) < 4 := by omega
      have e := upto_set 16 (4 * c + i) (turn f) (fun _ => 0#8) (by omega)
      have q : turn f (4 * c + i) = f (4 * ((c + i) % 4) + i) := by unfold turn; congr 1; omega
      rw [q] at e
      have q1 : 4 * ((c + i) % 4) + i < 16 := by omega
      have q2 : 4 * c + i < 16 := by omega
      simp only [↓W_reg, ↓W_seq, ↓WR_cons, ↓WR_nil, ↓Kreg_at, ↓Kseq_normal]
      simp [hi', cast_muln, cast_add, tmod4, e, q1, q2, ← Nat.add_assoc, -splice, -Int.natCast_emod, -Int.natCast_mul, -Int.natCast_add]
      omega
    · simp [show 4 * (c + 1) = 4 * c + 4 from rfl]
      omega
  · simp [upto_all]
noncomputable def T34 : Tab := tabAdd T27 34 (fun _ : Bl => True) (fun z => [.agg (vec8 16 z)]) (fun z => .agg (vec8 16 (turn z)))
@[simp] theorem T34_eq (f : Bl)  : T34 34 [.agg (vec8 16 f)] = some (.agg (vec8 16 (turn f))) := tabAdd_eq (a := f) (fun f g h => by simp at h ⊢; exact turn_ag h) trivial rfl
@[simp] theorem T34_ne {g : Nat} {xs : List AV} (h : g ≠ 34) : T34 g xs = T27 g xs := tabAdd_ne h
theorem T34_ok : Sound Try.prog T34 := tabAdd_sound T27_ok fun z _ => pf34 z 
theorem pf35 (f : Bl)  : PFx Try.prog 35 [.agg (vec8 16 f)] (.agg (vec8 16 (bxs false f))) := by
  refine PFx_of_W (rc := rc35) (rs := rs35) Try.func35 rfl T34_ok hm (by kernel_rfl) (by kernel_rfl) (by simp [Try.ntmps35]) ?_
  simp [rc35, rs35, vec8_zero]
  refine W_forU 16 (fun _ => True) (fun k => [(1, .box (vec8 16 (upto k (bxs false f) f))), (3, .int .i64 k)]) trivial (by simp [upto_zero]) (fun k hk _ => ?_) fun _ => ?_
  · have hk' : (k : Int) < 16 := by omega
    have e : splice (vec8 16 (upto k (bxs false f) f)) k [.int .u8 (bv (box (f k)))] = _ := upto_set 16 k (bxs false f) f hk
    simp [hk', hk, upto_at, e, -splice]
    omega
  · simp [upto_all]
noncomputable def T35 : Tab := tabAdd T34 35 (fun _ : Bl => True) (fun z => [.agg (vec8 16 z)]) (fun z => .agg (vec8 16 (bxs false z)))
@[simp] theorem T35_eq (f : Bl)  : T35 35 [.agg (vec8 16 f)] = some (.agg (vec8 16 (bxs false f))) := tabAdd_eq (a := f) (fun f g h => by simp at h ⊢; exact bxs_ag false h) trivial rfl
@[simp] theorem T35_ne {g : Nat} {xs : List AV} (h : g ≠ 35) : T35 g xs = T34 g xs := tabAdd_ne h
theorem T35_ok : Sound Try.prog T35 := tabAdd_sound T34_ok fun z _ => pf35 z 
theorem pf36 (f : Bl)  : PFx Try.prog 36 [.agg (vec8 16 f)] (.agg (vec8 16 (mxs false f))) := by
  refine PFx_of_W (rc := rc36) (rs := rs36) Try.func36 rfl T35_ok hm (by kernel_rfl) (by kernel_rfl) (by simp [Try.ntmps36]) ?_
  simp [rc36, rs36, vec8_zero]
  refine W_forU 4 (fun _ => True) (fun c => [(1, .box (vec8 16 (upto (4 * c) (mxs false f) f))), (3, .int .i64 c)]) trivial (by simp [upto_zero]) (fun c hc _ => ?_) fun _ => ?_
  · have hc' : (c : Int) < 4 := by omega
    have q0 : upto (4 * c) (mxs false f) f (4 * c) = f (4 * c) := by unfold upto; rw [if_neg (by omega)]
    have q1 : upto (4 * c) (mxs false f) f (4 * c + 1) = f (4 * c + 1) := by unfold upto; rw [if_neg (by omega)]
    have q2 : upto (4 * c) (mxs false f) f (4 * c + 2) = f (4 * c + 2) := by unfold upto; rw [if_neg (by omega)]
    have q3 : upto (4 * c) (mxs false f) f (4 * c + 3) = f (4 * c + 3) := by unfold upto; rw [if_neg (by omega)]
    have p0 : 4 * c < 16 := by omega
    have p1 : 4 * c + 1 < 16 := by omega
    have p2 : 4 * c + 2 < 16 := by omega
    have p3 : 4 * c + 3 < 16 := by omega
    have t : T46 46 [.agg [.int .u8 (bv (f (4 * c))), .int .u8 (bv (f (4 * c + 1))), .int .u8 (bv (f (4 * c + 2))), .int .u8 (bv (f (4 * c + 3)))]] = some (.agg (vec8 4 (comp (mix (col f c))))) := T46_eq (col f c)
    simp [hc', cast_addn, cast_muln, q0, q1, q2, q3, p0, p1, p2, p3, t, -T46_eq, -Int.natCast_mul, -Int.natCast_add]
    refine ⟨by omega, by omega, by omega, by omega, by omega, by omega, by omega, by omega, by omega, by omega, by omega, ?_⟩
    refine W_forU 4 (fun _ => True) (fun i => [(1, .box (vec8 16 (upto (4 * c + i) (mxs false f) f))), (5, .int .i64 i)]) trivial (by simp) (fun i hi _ => ?_) fun _ => ?_
    · have hi' : (i : Int) < 4 := by omega
      have e := upto_set 16 (4 * c + i) (mxs false f) f (by omega)
      have q : mxs false f (4 * c + i) = comp (mix (col f c)) i := by unfold mxs; rw [show (4 * c + i) / 4 = c by omega, show (4 * c + i) % 4 = i by omega]; rfl
      rw [q] at e
      have q2 : 4 * c + i < 16 := by omega
      simp [hi, hi', cast_muln, cast_add, e, q2, ← Nat.add_assoc, -splice, -Int.natCast_mul, -Int.natCast_add]
      omega
    · simp [show 4 * (c + 1) = 4 * c + 4 from rfl]
      omega
  · simp [upto_all]
noncomputable def T36 : Tab := tabAdd T35 36 (fun _ : Bl => True) (fun z => [.agg (vec8 16 z)]) (fun z => .agg (vec8 16 (mxs false z)))
@[simp] theorem T36_eq (f : Bl)  : T36 36 [.agg (vec8 16 f)] = some (.agg (vec8 16 (mxs false f))) := tabAdd_eq (a := f) (fun f g h => by simp at h ⊢; exact mxs_ag false h) trivial rfl
@[simp] theorem T36_ne {g : Nat} {xs : List AV} (h : g ≠ 36) : T36 g xs = T35 g xs := tabAdd_ne h
theorem T36_ok : Sound Try.prog T36 := tabAdd_sound T35_ok fun z _ => pf36 z 
theorem leq10 (k : Nat) (h : k < 10) : ((k : Int) + 1 ≤ 10) = True := eq_true (by omega)
theorem pf23 (r : Bl) (b : Bl)  : PFx Try.prog 23 [.agg (vec8 176 r), .agg (vec8 16 b)] (.agg (vec8 16 (sel r b))) := by
  refine PFx_of_W (rc := rc23) (rs := rs23) Try.func23 rfl T36_ok hm (by kernel_rfl) (by kernel_rfl) (by simp [Try.ntmps23]) ?_
  simp [rc23, rs23, vec8_zero]
  have p0 : vec8 16 (xo b r) = vec8 16 (xo b (rk r 0)) := vec8_ext fun i _ => by unfold xo rk; congr 2; omega
  refine W_forU 10 (fun _ => True) (fun k => [(3, .box (vec8 16 (st r b k))), (5, .int .i64 ((k + 1 : Nat) : Int))]) trivial (by simp [st, p0, -vec8_inj]) (fun k hk _ => ?_) fun _ => ?_
  · have e : st r b (k + 1) = xo (if k < 9 then mxs false (turn (bxs false (st r b k))) else turn (bxs false (st r b k))) (rk r (k + 1)) := rfl
    have h1 : ((k + 1 : Nat) : Int) ≤ 10 := by omega
    have h2 : (((k + 1 : Nat) : Int) < 10) = (k < 9) := by apply propext; omega
    have p : ((vec8 176 r).drop ((k + 1) * 16)).take 16 = vec8 16 (rk r (k + 1)) := vec8_part 176 ((k + 1) * 16) 16 r (by omega)
    by_cases h9 : k < 9
    · rw [if_pos h9] at e
      simp [h1, h2, h9, e, p, -Int.natCast_add]
      omega
    · rw [if_neg h9] at e
      simp [h1, h2, h9, e, p, -Int.natCast_add]
      omega
  · simp [sel]
noncomputable def T23 : Tab := tabAdd T36 23 (fun _ : Bl × Bl => True) (fun z => [.agg (vec8 176 z.1), .agg (vec8 16 z.2)]) (fun z => .agg (vec8 16 (sel z.1 z.2)))
@[simp] theorem T23_eq (r : Bl) (b : Bl)  : T23 23 [.agg (vec8 176 r), .agg (vec8 16 b)] = some (.agg (vec8 16 (sel r b))) := tabAdd_eq (a := (r, b)) (by rintro ⟨f, g⟩ ⟨f', g'⟩ h; simp at h ⊢; exact sel_ag (rk_ag h.1) h.2) trivial rfl
@[simp] theorem T23_ne {g : Nat} {xs : List AV} (h : g ≠ 23) : T23 g xs = T36 g xs := tabAdd_ne h
theorem T23_ok : Sound Try.prog T23 := tabAdd_sound T36_ok fun z _ => pf23 z.1 z.2 
/-- Four bytes, as far as they are. -/
theorem four (f : Bl) : [AV.int .u8 (bv (f 0)), .int .u8 (bv (f 1)), .int .u8 (bv (f 2)), .int .u8 (bv (f 3))] = vec8 4 f := rfl
theorem four0 : [AV.int .u8 0, .int .u8 0, .int .u8 0, .int .u8 0] = vec8 4 fun _ => 0#8 := rfl
theorem cst_i (n : Nat) : T33 33 [.int .u8 2, .int .u8 (bv (cst n))] = some (.int .u8 (bv (cst (n + 1)))) := T33_eq 2#8 (cst n)
theorem pf22 (f : Bl)  : PFx Try.prog 22 [.agg (vec8 16 f)] (.agg (vec8 176 (ks f))) := by
  refine PFx_of_W (rc := rc22) (rs := rs22) Try.func22 rfl T23_ok hm (by kernel_rfl) (by kernel_rfl) (by simp [Try.ntmps22]) ?_
  have ci := cst_i
  simp [rc22, rs22, vec8_zero]
  refine W_forU 44 (fun _ => True) (fun n => [(3, .box (vec8 176 (upto (4 * n) (ks f) fun _ => 0#8))), (4, .int .u8 (bv (cst ((n - 1) / 4)))), (5, .int .i64 n)]) trivial (by simp [upto_zero]; decide) (fun n hn _ => ?_) fun _ => ?_
  · have hn' : (n : Int) < 44 := by omega
    by_cases h4 : n < 4
    · have e := upto_part 176 n 4 (ks f) (fun _ => 0#8) (by omega)
      have n4 : n * 4 = 4 * n := by omega
      rw [vec8_4, n4, show (n + 1) * 4 = 4 * (n + 1) by omega, Nat.add_zero] at e
      simp only [ks_lo f (show 4 * n < 16 by omega), ks_lo f (show 4 * n + 1 < 16 by omega), ks_lo f (show 4 * n + 2 < 16 by omega), ks_lo f (show 4 * n + 3 < 16 by omega)] at e
      have h4' : (n : Int) < 4 := by omega
      have p0 : 4 * n < 16 := by omega
      have p1 : 4 * n + 1 < 16 := by omega
      have p2 : 4 * n + 2 < 16 := by omega
      have p3 : 4 * n + 3 < 16 := by omega
      have c0 : n / 4 = 0 := by omega
      have c1 : (n - 1) / 4 = 0 := by omega
      simp [hn', h4', cast_muln, cast_addn, p0, p1, p2, p3, c0, c1, n4, bld4, e, -splice, -Int.natCast_mul, -Int.natCast_add]
      omega
    · have h4' : ¬ (n : Int) < 4 := by omega
      have m1 : (n : Int) - 1 = ((n - 1 : Nat) : Int) := by omega
      have m4 : (n : Int) - 4 = ((n - 4 : Nat) : Int) := by omega
      have t : ((vec8 176 (upto (4 * n) (ks f) fun _ => 0#8)).drop ((n - 1) * 4)).take 4 = vec8 4 (fun i => ks f (4 * (n - 1) + i)) := by
        rw [vec8_part 176 ((n - 1) * 4) 4 _ (by omega)]
        exact vec8_ext fun i hi => by unfold upto; rw [if_pos (by omega), show (n - 1) * 4 = 4 * (n - 1) by omega]
      have step : ∀ i, i < 4 → splice (vec8 176 (upto (4 * n + i) (ks f) fun _ => 0#8)) (n * 4 + i) [.int .u8 (bv (upto (4 * n + i) (ks f) (fun _ => 0#8) ((n - 4) * 4 + i) ^^^ tw f n i))] = vec8 176 (upto (4 * n + i + 1) (ks f) fun _ => 0#8) := by
        intro i hi
        rw [show upto (4 * n + i) (ks f) (fun _ => 0#8) ((n - 4) * 4 + i) = ks f (4 * (n - 4) + i) by unfold upto; rw [if_pos (by omega), show (n - 4) * 4 = 4 * (n - 4) by omega], ← ks_word f n i (by omega) hi, show n * 4 + i = 4 * n + i by omega]
        exact upto_set 176 (4 * n + i) (ks f) (fun _ => 0#8) (by omega)
      by_cases hz : n % 4 = 0
      · have z : ((n % 4 : Nat) : Int) = 0 := by omega
        have cc : n / 4 = (n - 1) / 4 + 1 := by omega
        have tt : [AV.int .u8 (bv (box (ks f (4 * (n - 1) + 1)) ^^^ cst ((n - 1) / 4))), .int .u8 (bv (box (ks f (4 * (n - 1) + 2)))), .int .u8 (bv (box (ks f (4 * (n - 1) + 3)))), .int .u8 (bv (box (ks f (4 * (n - 1)))))] = vec8 4 (tw f n) := by
          rw [vec8_4]; simp [tw, hz]
        simp [hn', h4', m1, t, tmod4, z, hz, ci, bld4, tt, cc, bv_xor8, -splice, -Int.natCast_emod]
        refine ⟨by omega, by omega, by omega, ?_⟩
        refine W_forU 4 (fun _ => True) (fun i => [(3, .box (vec8 176 (upto (4 * n + i) (ks f) fun _ => 0#8))), (7, .int .i64 i)]) trivial (by simp) (fun i hi _ => ?_) fun _ => ?_
        · have hi' : (i : Int) < 4 := by omega
          have e := step i hi
          have q1 : (n - 4) * 4 + i < 176 := by omega
          have q2 : n * 4 + i < 176 := by omega
          simp [hi, hi', hn, m4, e, q1, q2, bv_xor8, ← Nat.add_assoc, -splice]
          omega
        · simp [show 4 * (n + 1) = 4 * n + 4 from rfl]
          omega
      · have z : ¬ ((n % 4 : Nat) : Int) = 0 := by omega
        have cc : n / 4 = (n - 1) / 4 := by omega
        have t' : ((vec8 176 (upto (4 * n) (ks f) fun _ => 0#8)).drop ((n - 1) * 4)).take 4 = vec8 4 (tw f n) := by
          rw [t]; exact vec8_ext fun i hi => by unfold tw; rw [if_neg hz]
        simp [hn', h4', m1, t', tmod4, z, hz, cc, -splice, -Int.natCast_emod]
        refine ⟨by omega, by omega, by omega, ?_⟩
        refine W_forU 4 (fun _ => True) (fun i => [(3, .box (vec8 176 (upto (4 * n + i) (ks f) fun _ => 0#8))), (7, .int .i64 i)]) trivial (by simp) (fun i hi _ => ?_) fun _ => ?_
        · have hi' : (i : Int) < 4 := by omega
          have e := step i hi
          have q1 : (n - 4) * 4 + i < 176 := by omega
          have q2 : n * 4 + i < 176 := by omega
          simp [hi, hi', hn, m4, e, q1, q2, bv_xor8, ← Nat.add_assoc, -splice]
          omega
        · simp [show 4 * (n + 1) = 4 * n + 4 from rfl]
          omega
  · simp [upto_all]
    refine W_forU 44 (fun _ => True) (fun n => [(8, .box (vec8 176 (upto (4 * n) (ks f) fun _ => 0#8))), (9, .int .i64 n)]) trivial (by simp [upto_zero]) (fun n hn _ => ?_) fun _ => ?_
    · have hn' : (n : Int) < 44 := by omega
      simp [hn']
      refine W_forU 4 (fun _ => True) (fun i => [(8, .box (vec8 176 (upto (4 * n + i) (ks f) fun _ => 0#8))), (10, .int .i64 i)]) trivial (by simp) (fun i hi _ => ?_) fun _ => ?_
      · have hi' : (i : Int) < 4 := by omega
        have e : splice (vec8 176 (upto (4 * n + i) (ks f) fun _ => 0#8)) (4 * n + i) [.int .u8 (bv (ks f (4 * n + i)))] = vec8 176 (upto (4 * n + i + 1) (ks f) fun _ => 0#8) := upto_set 176 (4 * n + i) (ks f) (fun _ => 0#8) (by omega)
        obtain ⟨d, hd⟩ : ∃ d, d = n / 4 := ⟨_, rfl⟩
        have d1 : (n : Int).tdiv 4 = (d : Int) := by rw [tdiv4, hd]
        have d2 : (n : Int) / 4 = (d : Int) := by omega
        have q1 : d * 16 + (4 * (n % 4) + i) = 4 * n + i := by omega
        have q2 : n * 4 + i = 4 * n + i := by omega
        have q3 : 4 * n + i < 176 := by omega
        have q4 : d < 11 := by omega
        have q5 : 4 * (n % 4) + i < 16 := by omega
        simp [hi, hi', hn, hn', cast_muln, cast_add, tmod4, d1, d2, q1, q2, q3, q4, q5, e, show 4 * n + (i + 1) = 4 * n + i + 1 from rfl, -splice, -Int.natCast_emod, -Int.natCast_ediv, -Int.natCast_mul, -Int.natCast_add]
        omega
      · simp [show 4 * (n + 1) = 4 * n + 4 from rfl]
        omega
    · simp [upto_all]
noncomputable def T22 : Tab := tabAdd T23 22 (fun _ : Bl => True) (fun z => [.agg (vec8 16 z)]) (fun z => .agg (vec8 176 (ks z)))
@[simp] theorem T22_eq (f : Bl)  : T22 22 [.agg (vec8 16 f)] = some (.agg (vec8 176 (ks f))) := tabAdd_eq (a := f) (fun f g h => by simp at h ⊢; intro i _; exact ks_ag h i) trivial rfl
@[simp] theorem T22_ne {g : Nat} {xs : List AV} (h : g ≠ 22) : T22 g xs = T23 g xs := tabAdd_ne h
theorem T22_ok : Sound Try.prog T22 := tabAdd_sound T23_ok fun z _ => pf22 z 
end Go.Proofs.Ytlihfdbfcklkmaa

