/- The program's ghash. -/
import Derived.Test.YtlihfdbfcklkmaaH0
set_option linter.unusedVariables false
set_option linter.unusedSimpArgs false
namespace Go.Proofs.Ytlihfdbfcklkmaa
open Go.Proofs.Ytlihfdbfcklkmaa.Pad Go.Proofs.Ytlihfdbfcklkmaa.Pad.Gh
/-- padlock/ghash.number -/
def rc66 : RC :=
  (.seq
   (.reg false [⟨(some 1), .box (.t 0), none⟩,
     ⟨(some 2), .mov (.c (.int .u64 0)), none⟩] [1])
   (.seq
    (.reg false [⟨(some 3), .mov (.c (.int .u64 0)), none⟩] [1, 3])
    (.seq
     (.seq
      (.reg false [⟨(some 6), .loadB 1 8 true, none⟩,
        ⟨(some 7), .mov (.c (.int .i64 0)), none⟩] [3, 6, 7])
      (.block 0
       (.loop
        (.seq
         (.reg false [⟨(some 8), .bin .lss true (.t 7) (.c (.int .i64 8)), none⟩] [3, 6, 7, 8])
         (.seq
          (.cond 8
           (.reg false [] [3, 6, 7])
           (.seq
            (.reg false [] [3])
            (.exit 0)))
          (.seq
           (.block 1
            (.seq
             (.reg false [⟨(some 9), .aidx 1 8 false (.t 6) (.t 7), none⟩,
               ⟨(some 5), .mov (.t 9), none⟩] [3, 5, 6, 7])
             (.reg false [⟨(some 10), .mov (.t 3), none⟩,
               ⟨(some 11), .bin .shl false (.t 10) (.c (.int .u64 8)), none⟩,
               ⟨(some 12), .mov (.t 5), none⟩,
               ⟨(some 13), .conv true .u64 (.t 12), none⟩,
               ⟨(some 14), .bin .or false (.t 11) (.t 13), none⟩,
               ⟨(some 3), .mov (.t 14), none⟩] [3, 6, 7])))
           (.reg false [⟨(some 15), .bin .add true (.t 7) (.c (.int .i64 1)), none⟩,
             ⟨(some 7), .mov (.t 15), none⟩] [3, 6, 7])))))))
     (.seq
      (.reg false [⟨(some 16), .mov (.t 3), none⟩,
        ⟨(some 2), .mov (.t 16), none⟩] [2])
      .ret))))
def rs66 : List RS := [.tmp 2]
/-- padlock/ghash.of -/
def rc58 : RC :=
  (.seq
   (.reg false [⟨(some 1), .box (.t 0), none⟩,
     ⟨(some 2), .alloc [(.int .u64 0), (.int .u64 0)], none⟩] [1, 2])
   (.seq
    (.reg true [⟨(some 3), .winB 1 1 16 none (some (.c (.int .i64 8))), none⟩,
      ⟨(some 4), .s2aR 3 1 1 8, none⟩,
      ⟨(some 5), .loadR 4 1 8 true, none⟩,
      ⟨(some 6), .call 66 [(false, (.t 5))], none⟩,
      ⟨(some 7), .winB 1 1 16 (some (.c (.int .i64 8))) none, none⟩,
      ⟨(some 8), .s2aR 7 1 1 8, none⟩,
      ⟨(some 9), .loadR 8 1 8 true, none⟩,
      ⟨(some 10), .call 66 [(false, (.t 9))], none⟩,
      ⟨(some 11), .build [(.int .u64 0), (.int .u64 0)] [(0, 1, (.t 6)), (1, 1, (.t 10))], none⟩,
      ⟨none, .stB 2 2 (.t 11), none⟩] [2])
    .ret))
def rs58 : List RS := [.cell 2 2 true]
/-- (padlock/ghash.block).bit -/
def rc67 : RC :=
  (.seq
   (.reg false [⟨(some 2), .box (.t 0), none⟩,
     ⟨(some 4), .mov (.c (.bool false)), none⟩] [1, 2])
   (.seq
    (.seq
     (.reg false [⟨(some 5), .mov (.t 1), none⟩,
       ⟨(some 6), .bin .lss true (.t 5) (.c (.int .i64 64)), none⟩] [1, 2, 6])
     (.cond 6
      (.seq
       (.reg false [⟨(some 7), .fldB 2 0, none⟩,
         ⟨(some 8), .loadR 7 2 1 false, none⟩,
         ⟨(some 9), .mov (.t 1), none⟩,
         ⟨(some 10), .bin .shl false (.t 8) (.t 9), none⟩,
         ⟨(some 11), .bin .shr false (.t 10) (.c (.int .u64 63)), none⟩,
         ⟨(some 12), .bin .eql false (.t 11) (.c (.int .u64 1)), none⟩,
         ⟨(some 4), .mov (.t 12), none⟩] [4])
       .ret)
      (.reg false [] [1, 2])))
    (.seq
     (.reg false [⟨(some 13), .fldB 2 1, none⟩,
       ⟨(some 14), .loadR 13 2 1 false, none⟩,
       ⟨(some 15), .mov (.t 1), none⟩,
       ⟨(some 16), .bin .sub true (.t 15) (.c (.int .i64 64)), none⟩,
       ⟨(some 17), .bin .shl false (.t 14) (.t 16), none⟩,
       ⟨(some 18), .bin .shr false (.t 17) (.c (.int .u64 63)), none⟩,
       ⟨(some 19), .bin .eql false (.t 18) (.c (.int .u64 1)), none⟩,
       ⟨(some 4), .mov (.t 19), none⟩] [4])
     .ret)))
def rs67 : List RS := [.tmp 4]
/-- (padlock/ghash.block).timesX -/
def rc68 : RC :=
  (.seq
   (.reg false [⟨(some 1), .box (.t 0), none⟩,
     ⟨(some 2), .alloc [(.int .u64 0), (.int .u64 0)], none⟩] [1, 2])
   (.seq
    (.reg false [⟨(some 4), .fldB 1 0, none⟩,
      ⟨(some 5), .loadR 4 1 1 false, none⟩,
      ⟨(some 6), .bin .shr false (.t 5) (.c (.int .u64 1)), none⟩,
      ⟨(some 7), .fldB 1 1, none⟩,
      ⟨(some 8), .loadR 7 1 1 false, none⟩,
      ⟨(some 9), .bin .shr false (.t 8) (.c (.int .u64 1)), none⟩,
      ⟨(some 10), .fldB 1 0, none⟩,
      ⟨(some 11), .loadR 10 1 1 false, none⟩,
      ⟨(some 12), .bin .shl false (.t 11) (.c (.int .u64 63)), none⟩,
      ⟨(some 13), .bin .or false (.t 9) (.t 12), none⟩,
      ⟨(some 14), .build [(.int .u64 0), (.int .u64 0)] [(0, 1, (.t 6)), (1, 1, (.t 13))], none⟩,
      ⟨(some 3), .alloc [(.int .u64 0), (.int .u64 0)], none⟩,
      ⟨none, .stB 3 2 (.t 14), none⟩] [1, 2, 3])
    (.seq
     (.seq
      (.reg false [⟨(some 15), .loadB 1 2 true, none⟩,
        ⟨(some 16), .call 67 [(false, (.t 15)), (false, (.c (.int .i64 127)))], none⟩] [2, 3, 16])
      (.cond 16
       (.reg false [⟨(some 17), .fldB 3 0, none⟩,
         ⟨(some 18), .loadR 17 3 1 false, none⟩,
         ⟨(some 19), .bin .xor false (.t 18) (.c (.int .u64 16212958658533785600)), none⟩,
         ⟨(some 20), .fldB 3 0, none⟩,
         ⟨none, .stR 20 3 1 (.t 19), none⟩] [2, 3])
       (.reg false [] [2, 3])))
     (.seq
      (.reg false [⟨(some 21), .loadB 3 2 true, none⟩,
        ⟨none, .stB 2 2 (.t 21), none⟩] [2])
      .ret))))
def rs68 : List RS := [.cell 2 2 true]
/-- (padlock/ghash.block).times -/
def rc59 : RC :=
  (.seq
   (.reg false [⟨(some 2), .box (.t 0), none⟩,
     ⟨(some 3), .box (.t 1), none⟩,
     ⟨(some 4), .alloc [(.int .u64 0), (.int .u64 0)], none⟩] [2, 3, 4])
   (.seq
    (.reg false [⟨(some 5), .alloc [(.int .u64 0), (.int .u64 0)], none⟩] [2, 3, 4, 5])
    (.seq
     (.seq
      (.reg false [⟨(some 7), .mov (.c (.int .i64 0)), none⟩] [2, 3, 4, 5, 7])
      (.block 0
       (.loop
        (.seq
         (.reg false [⟨(some 8), .bin .lss true (.t 7) (.c (.int .i64 128)), none⟩] [2, 3, 4, 5, 7, 8])
         (.seq
          (.cond 8
           (.reg false [] [2, 3, 4, 5, 7])
           (.seq
            (.reg false [] [4, 5])
            (.exit 0)))
          (.seq
           (.block 1
            (.seq
             (.reg false [⟨(some 9), .mov (.t 7), none⟩,
               ⟨(some 6), .mov (.t 9), none⟩] [2, 3, 4, 5, 6, 7])
             (.seq
              (.seq
               (.reg false [⟨(some 10), .loadB 2 2 true, none⟩,
                 ⟨(some 11), .mov (.t 6), none⟩,
                 ⟨(some 12), .call 67 [(false, (.t 10)), (false, (.t 11))], none⟩] [2, 3, 4, 5, 7, 12])
               (.cond 12
                (.seq
                 (.reg false [⟨(some 13), .fldB 5 0, none⟩,
                   ⟨(some 14), .loadR 13 5 1 false, none⟩,
                   ⟨(some 15), .fldB 3 0, none⟩,
                   ⟨(some 16), .loadR 15 3 1 false, none⟩,
                   ⟨(some 17), .bin .xor false (.t 14) (.t 16), none⟩,
                   ⟨(some 18), .fldB 5 0, none⟩,
                   ⟨none, .stR 18 5 1 (.t 17), none⟩] [2, 3, 4, 5, 7])
                 (.reg false [⟨(some 19), .fldB 5 1, none⟩,
                   ⟨(some 20), .loadR 19 5 1 false, none⟩,
                   ⟨(some 21), .fldB 3 1, none⟩,
                   ⟨(some 22), .loadR 21 3 1 false, none⟩,
                   ⟨(some 23), .bin .xor false (.t 20) (.t 22), none⟩,
                   ⟨(some 24), .fldB 5 1, none⟩,
                   ⟨none, .stR 24 5 1 (.t 23), none⟩] [2, 3, 4, 5, 7]))
                (.reg false [] [2, 3, 4, 5, 7])))
              (.reg false [⟨(some 25), .loadB 3 2 true, none⟩,
                ⟨(some 26), .call 68 [(false, (.t 25))], none⟩,
                ⟨none, .stB 3 2 (.t 26), none⟩] [2, 3, 4, 5, 7]))))
           (.reg false [⟨(some 27), .bin .add true (.t 7) (.c (.int .i64 1)), none⟩,
             ⟨(some 7), .mov (.t 27), none⟩] [2, 3, 4, 5, 7])))))))
     (.seq
      (.reg false [⟨(some 28), .loadB 5 2 true, none⟩,
        ⟨none, .stB 4 2 (.t 28), none⟩] [4])
      .ret))))
def rs59 : List RS := [.cell 4 2 true]
/-- (padlock/ghash.block).bytes -/
def rc50 : RC :=
  (.seq
   (.reg false [⟨(some 1), .box (.t 0), none⟩,
     ⟨(some 2), .alloc (List.replicate 16 (.int .u8 0)), none⟩] [1, 2])
   (.seq
    (.reg false [⟨(some 3), .alloc (List.replicate 16 (.int .u8 0)), none⟩] [1, 2, 3])
    (.seq
     (.seq
      (.reg false [⟨(some 5), .mov (.c (.int .i64 0)), none⟩] [1, 2, 3, 5])
      (.block 0
       (.loop
        (.seq
         (.reg false [⟨(some 6), .bin .lss true (.t 5) (.c (.int .i64 8)), none⟩] [1, 2, 3, 5, 6])
         (.seq
          (.cond 6
           (.reg false [] [1, 2, 3, 5])
           (.seq
            (.reg false [] [2, 3])
            (.exit 0)))
          (.seq
           (.block 1
            (.seq
             (.reg false [⟨(some 7), .mov (.t 5), none⟩,
               ⟨(some 4), .mov (.t 7), none⟩] [1, 2, 3, 4, 5])
             (.seq
              (.reg false [⟨(some 8), .mov (.t 4), none⟩,
                ⟨(some 9), .fldB 1 0, none⟩,
                ⟨(some 10), .loadR 9 1 1 false, none⟩,
                ⟨(some 11), .mov (.t 4), none⟩,
                ⟨(some 12), .bin .mul true (.c (.int .i64 8)) (.t 11), none⟩,
                ⟨(some 13), .bin .sub true (.c (.int .i64 56)) (.t 12), none⟩,
                ⟨(some 14), .bin .shr false (.t 10) (.t 13), none⟩,
                ⟨(some 15), .conv false .u8 (.t 14), none⟩,
                ⟨(some 16), .idxB 3 1 16 (.t 8), none⟩,
                ⟨none, .stR 16 3 1 (.t 15), none⟩] [1, 2, 3, 4, 5])
              (.reg false [⟨(some 17), .mov (.t 4), none⟩,
                ⟨(some 18), .bin .add true (.t 17) (.c (.int .i64 8)), none⟩,
                ⟨(some 19), .fldB 1 1, none⟩,
                ⟨(some 20), .loadR 19 1 1 false, none⟩,
                ⟨(some 21), .mov (.t 4), none⟩,
                ⟨(some 22), .bin .mul true (.c (.int .i64 8)) (.t 21), none⟩,
                ⟨(some 23), .bin .sub true (.c (.int .i64 56)) (.t 22), none⟩,
                ⟨(some 24), .bin .shr false (.t 20) (.t 23), none⟩,
                ⟨(some 25), .conv false .u8 (.t 24), none⟩,
                ⟨(some 26), .idxB 3 1 16 (.t 18), none⟩,
                ⟨none, .stR 26 3 1 (.t 25), none⟩] [1, 2, 3, 5]))))
           (.reg false [⟨(some 27), .bin .add true (.t 5) (.c (.int .i64 1)), none⟩,
             ⟨(some 5), .mov (.t 27), none⟩] [1, 2, 3, 5])))))))
     (.seq
      (.reg false [⟨(some 28), .loadB 3 16 true, none⟩,
        ⟨none, .stB 2 16 (.t 28), none⟩] [2])
      .ret))))
def rs50 : List RS := [.cell 2 16 true]
/-- padlock/ghash.start -/
def rc47 : RC :=
  (.seq
   (.reg false [⟨(some 2), .box (.t 0), none⟩,
     ⟨(some 3), .box (.t 1), none⟩,
     ⟨(some 4), .alloc [(.int .u64 0), (.int .u64 0), (.int .u64 0), (.int .u64 0)], none⟩] [2, 3, 4])
   (.seq
    (.reg true [⟨(some 5), .loadB 3 16 true, none⟩,
      ⟨(some 6), .call 58 [(false, (.t 5))], none⟩,
      ⟨(some 7), .loadB 2 16 true, none⟩,
      ⟨(some 8), .call 58 [(false, (.t 7))], none⟩,
      ⟨(some 9), .build [(.int .u64 0), (.int .u64 0), (.int .u64 0), (.int .u64 0)] [(0, 2, (.t 6)), (2, 2, (.t 8))], none⟩,
      ⟨none, .stB 4 4 (.t 9), none⟩] [4])
    .ret))
def rs47 : List RS := [.cell 4 4 true]
/-- (*padlock/ghash.sum).step -/
def rc49 : RC :=
  (.seq
   (.reg false [⟨(some 3), .box (.t 1), none⟩] [0, 3])
   (.seq
    (.reg true [⟨(some 4), .al 0, none⟩,
      ⟨(some 5), .nck 4 0, none⟩,
      ⟨(some 6), .fldR 5 0 0, none⟩,
      ⟨(some 7), .fldR 6 0 0, none⟩,
      ⟨(some 8), .loadR 7 0 1 false, none⟩,
      ⟨(some 9), .fldB 3 0, none⟩,
      ⟨(some 10), .loadR 9 3 1 false, none⟩,
      ⟨(some 11), .bin .xor false (.t 8) (.t 10), none⟩,
      ⟨(some 12), .nck 4 0, none⟩,
      ⟨(some 13), .fldR 12 0 0, none⟩,
      ⟨(some 14), .fldR 13 0 0, none⟩,
      ⟨none, .stR 14 0 1 (.t 11), none⟩] [0, 3])
    (.seq
     (.reg true [⟨(some 15), .al 0, none⟩,
       ⟨(some 16), .nck 15 0, none⟩,
       ⟨(some 17), .fldR 16 0 0, none⟩,
       ⟨(some 18), .fldR 17 0 1, none⟩,
       ⟨(some 19), .loadR 18 0 1 false, none⟩,
       ⟨(some 20), .fldB 3 1, none⟩,
       ⟨(some 21), .loadR 20 3 1 false, none⟩,
       ⟨(some 22), .bin .xor false (.t 19) (.t 21), none⟩,
       ⟨(some 23), .nck 15 0, none⟩,
       ⟨(some 24), .fldR 23 0 0, none⟩,
       ⟨(some 25), .fldR 24 0 1, none⟩,
       ⟨none, .stR 25 0 1 (.t 22), none⟩] [0])
     (.reg true [⟨(some 26), .al 0, none⟩,
       ⟨(some 27), .al 0, none⟩,
       ⟨(some 28), .nck 27 0, none⟩,
       ⟨(some 29), .fldR 28 0 0, none⟩,
       ⟨(some 30), .loadR 29 0 2 true, none⟩,
       ⟨(some 31), .al 0, none⟩,
       ⟨(some 32), .nck 31 0, none⟩,
       ⟨(some 33), .fldR 32 0 2, none⟩,
       ⟨(some 34), .loadR 33 0 2 true, none⟩,
       ⟨(some 35), .call 59 [(false, (.t 30)), (false, (.t 34))], none⟩,
       ⟨(some 36), .nck 26 0, none⟩,
       ⟨(some 37), .fldR 36 0 0, none⟩,
       ⟨none, .stR 37 0 2 (.t 35), none⟩] [0]))))
def rs49 : List RS := []
/-- (*padlock/ghash.sum).feed -/
def rc48 : RC :=
  (.block 0
   (.loop
    (.seq
     (.seq
      (.reg false [⟨(some 6), .mov (.t 1), none⟩,
        ⟨(some 7), .len true (.t 6), none⟩,
        ⟨(some 8), .bin .gtr true (.t 7) (.c (.int .i64 0)), none⟩] [0, 1, 8])
      (.cond 8
       (.reg false [] [0, 1])
       (.seq
        (.reg false [] [0])
        (.exit 0))))
     (.block 1
      (.seq
       (.reg false [⟨(some 4), .alloc (List.replicate 16 (.int .u8 0)), none⟩] [0, 1, 4])
       (.seq
        (.reg false [⟨(some 9), .winB 4 1 16 none none, none⟩,
          ⟨(some 10), .mov (.t 1), none⟩,
          ⟨(some 11), .cpy 9 4 1 (.t 10), none⟩,
          ⟨(some 5), .mov (.t 11), none⟩] [0, 1, 4, 5])
        (.seq
         (.reg false [⟨(some 12), .mov (.t 1), none⟩,
           ⟨(some 13), .mov (.t 5), none⟩,
           ⟨(some 14), .ssl (.t 12) (some (.t 13)) none, none⟩,
           ⟨(some 1), .mov (.t 14), none⟩] [0, 1, 4])
         (.reg false [⟨(some 15), .al 0, none⟩,
           ⟨(some 16), .loadB 4 16 true, none⟩,
           ⟨(some 17), .call 58 [(false, (.t 16))], none⟩,
           ⟨(some 18), .callB 49 [(true, (.t 15)), (false, (.t 17))] 0, none⟩] [0, 1]))))))))
def rs48 : List RS := []
/-- padlock/ghash.Sum -/
def rc37 : RC :=
  (.seq
   (.reg false [⟨(some 3), .box (.t 0), none⟩,
     ⟨(some 6), .alloc (List.replicate 16 (.int .u8 0)), none⟩] [1, 2, 3, 6])
   (.seq
    (.reg false [⟨(some 8), .loadB 3 16 true, none⟩,
      ⟨(some 9), .build (List.replicate 16 (.int .u8 0)) [], none⟩,
      ⟨(some 10), .call 47 [(false, (.t 8)), (false, (.t 9))], none⟩,
      ⟨(some 7), .alloc [(.int .u64 0), (.int .u64 0), (.int .u64 0), (.int .u64 0)], none⟩,
      ⟨none, .stB 7 4 (.t 10), none⟩] [1, 2, 6, 7])
    (.seq
     (.reg false [⟨(some 11), .mov (.t 1), none⟩,
       ⟨(some 12), .callB 48 [(true, (.t 7)), (false, (.t 11))] 7, none⟩] [1, 2, 6, 7])
     (.seq
      (.reg false [⟨(some 13), .mov (.t 2), none⟩,
        ⟨(some 14), .callB 48 [(true, (.t 7)), (false, (.t 13))] 7, none⟩] [1, 2, 6, 7])
      (.seq
       (.reg false [⟨(some 15), .mov (.t 1), none⟩,
         ⟨(some 16), .len true (.t 15), none⟩,
         ⟨(some 17), .conv true .u64 (.t 16), none⟩,
         ⟨(some 18), .bin .mul false (.c (.int .u64 8)) (.t 17), none⟩,
         ⟨(some 19), .mov (.t 2), none⟩,
         ⟨(some 20), .len true (.t 19), none⟩,
         ⟨(some 21), .conv true .u64 (.t 20), none⟩,
         ⟨(some 22), .bin .mul false (.c (.int .u64 8)) (.t 21), none⟩,
         ⟨(some 23), .build [(.int .u64 0), (.int .u64 0)] [(0, 1, (.t 18)), (1, 1, (.t 22))], none⟩,
         ⟨(some 24), .callB 49 [(true, (.t 7)), (false, (.t 23))] 7, none⟩] [6, 7])
       (.seq
        (.reg false [⟨(some 25), .fldB 7 0, none⟩,
          ⟨(some 26), .loadR 25 7 2 true, none⟩,
          ⟨(some 27), .call 50 [(false, (.t 26))], none⟩,
          ⟨none, .stB 6 16 (.t 27), none⟩] [6])
        .ret))))))
def rs37 : List RS := [.cell 6 16 true]
theorem or64_8 (x : BitVec 64) (y : BitVec 8) : bits .or .u64 (bv x) (bv y) = bv (x ||| y.setWidth 64) := by rw [bv_up 64 y (by decide), bv_or64]
theorem shl64_8 (x : BitVec 64) : IntKind.u64.wrap (bv x * 256) = bv (x <<< 8) := bv_shl64 x 8
theorem pf66 (f : Nat → BitVec 8)  : PFx Try.prog 66 [.agg (vec8 8 f)] (.int .u64 (bv (numK f 8))) := by
  refine PFx_of_W (rc := rc66) (rs := rs66) Try.func66 rfl T26_ok hm (by kernel_rfl) (by kernel_rfl) (by simp [Try.ntmps66]) ?_
  simp [rc66, rs66]
  refine W_forU 8 (fun _ => True) (fun k => [(3, .int .u64 (bv (numK f k))), (7, .int .i64 k)]) trivial (by simp [numK, bv]) (fun k hk _ => ?_) fun _ => ?_
  · have hk' : (k : Int) < 8 := by omega
    have hb := b_lt (f k)
    have e := bv_shl64 (numK f k) 8
    simp [hk', hk, e, or64_8, numK]
    omega
  · simp
noncomputable def T66 : Tab := tabAdd T26 66 (fun _ : (Nat → BitVec 8) => True) (fun z => [.agg (vec8 8 z)]) (fun z => .int .u64 (bv (numK z 8)))
@[simp] theorem T66_eq (f : Nat → BitVec 8)  : T66 66 [.agg (vec8 8 f)] = some (.int .u64 (bv (numK f 8))) := tabAdd_eq (a := f) (by intro f g h; simp at h ⊢; exact numK_ext h) trivial rfl
@[simp] theorem T66_ne {g : Nat} {xs : List AV} (h : g ≠ 66) : T66 g xs = T26 g xs := tabAdd_ne h
theorem T66_ok : Sound Try.prog T66 := tabAdd_sound T26_ok fun z _ => pf66 z 
theorem pf58 (a : W)  : PFx Try.prog 58 [.agg (vec8 16 (blk a))] (.agg [.int .u64 (bv (lo a)), .int .u64 (bv (hi a))]) := by
  refine PFx_of_W (rc := rc58) (rs := rs58) Try.func58 rfl T66_ok hm (by kernel_rfl) (by kernel_rfl) (by simp [Try.ntmps58]) ?_
  simp [rc58, rs58, numK_lo, numK_hi]
noncomputable def T58 : Tab := tabAdd T66 58 (fun _ : W => True) (fun z => [.agg (vec8 16 (blk z))]) (fun z => .agg [.int .u64 (bv (lo z)), .int .u64 (bv (hi z))])
@[simp] theorem T58_eq (a : W)  : T58 58 [.agg (vec8 16 (blk a))] = some (.agg [.int .u64 (bv (lo a)), .int .u64 (bv (hi a))]) := tabAdd_eq (a := a) (by intro a b h; simp at h ⊢; rw [h]; simp) trivial rfl
@[simp] theorem T58_ne {g : Nat} {xs : List AV} (h : g ≠ 58) : T58 g xs = T66 g xs := tabAdd_ne h
theorem T58_ok : Sound Try.prog T58 := tabAdd_sound T66_ok fun z _ => pf58 z 
theorem pf67 (a : W) (i : Nat) (h : i < 128) : PFx Try.prog 67 [.agg [.int .u64 (bv (lo a)), .int .u64 (bv (hi a))], .int .i64 i] (.bool (a.getLsbD i)) := by
  refine PFx_of_W (rc := rc67) (rs := rs67) Try.func67 rfl T58_ok hm (by kernel_rfl) (by kernel_rfl) (by simp [Try.ntmps67]) ?_
  by_cases h64 : i < 64
  · have h64' : (i : Int) < 64 := by omega
    simp [rc67, rs67, h64, h64', bv_shl64, bv_shr64, eq_lit, lo_at a i h64]
  · have h64' : ¬ (i : Int) < 64 := by omega
    have s : (i : Int) - 64 = ((i - 64 : Nat) : Int) := by omega
    have e := hi_at a (i - 64) (by omega)
    rw [show 64 + (i - 64) = i by omega] at e
    simp [rc67, rs67, h64, h64', s, bv_shl64, bv_shr64, eq_lit, e]
    omega
noncomputable def T67 : Tab := tabAdd T58 67 (fun z : W × Nat => z.2 < 128) (fun z => [.agg [.int .u64 (bv (lo z.1)), .int .u64 (bv (hi z.1))], .int .i64 z.2]) (fun z => .bool (z.1.getLsbD z.2))
@[simp] theorem T67_eq (a : W) (i : Nat) (h : i < 128) : T67 67 [.agg [.int .u64 (bv (lo a)), .int .u64 (bv (hi a))], .int .i64 i] = some (.bool (a.getLsbD i)) := tabAdd_eq (a := (a, i)) (by rintro ⟨a, i⟩ ⟨a', i'⟩ h; simp [Int.natCast_inj] at h ⊢; rw [lohi_inj h.1.1 h.1.2, h.2]) h rfl
@[simp] theorem T67_ne {g : Nat} {xs : List AV} (h : g ≠ 67) : T67 g xs = T58 g xs := tabAdd_ne h
theorem T67_ok : Sound Try.prog T67 := tabAdd_sound T58_ok fun z h => pf67 z.1 z.2 h
theorem min0 : min 0 3 = 0 := rfl
theorem pf68 (a : W)  : PFx Try.prog 68 [.agg [.int .u64 (bv (lo a)), .int .u64 (bv (hi a))]] (.agg [.int .u64 (bv (lo (dbl a))), .int .u64 (bv (hi (dbl a)))]) := by
  refine PFx_of_W (rc := rc68) (rs := rs68) Try.func68 rfl T67_ok hm (by kernel_rfl) (by kernel_rfl) (by simp [Try.ntmps68]) ?_
  have c : T67 67 [.agg [.int .u64 (bv (lo a)), .int .u64 (bv (hi a))], .int .i64 127] = some (.bool (a.getLsbD 127)) := T67_eq a 127 (by decide)
  by_cases h : a.getLsbD 127 = true
  · simp [rc68, rs68, c, lo_dbl, hi_dbl, h, bv_shr64, bv_shl64, bv_or64, xor64_lit, -BitVec.getLsbD_eq_getElem]
  · simp [rc68, rs68, c, lo_dbl, hi_dbl, h, bv_shr64, bv_shl64, bv_or64, xor64_lit, -BitVec.getLsbD_eq_getElem]
noncomputable def T68 : Tab := tabAdd T67 68 (fun _ : W => True) (fun z => [.agg [.int .u64 (bv (lo z)), .int .u64 (bv (hi z))]]) (fun z => .agg [.int .u64 (bv (lo (dbl z))), .int .u64 (bv (hi (dbl z)))])
@[simp] theorem T68_eq (a : W)  : T68 68 [.agg [.int .u64 (bv (lo a)), .int .u64 (bv (hi a))]] = some (.agg [.int .u64 (bv (lo (dbl a))), .int .u64 (bv (hi (dbl a)))]) := tabAdd_eq (a := a) (by intro a b h; simp at h ⊢; rw [lohi_inj h.1 h.2]; simp) trivial rfl
@[simp] theorem T68_ne {g : Nat} {xs : List AV} (h : g ≠ 68) : T68 g xs = T67 g xs := tabAdd_ne h
theorem T68_ok : Sound Try.prog T68 := tabAdd_sound T67_ok fun z _ => pf68 z 
theorem pf59 (a : W) (b : W)  : PFx Try.prog 59 [.agg [.int .u64 (bv (lo a)), .int .u64 (bv (hi a))], .agg [.int .u64 (bv (lo b)), .int .u64 (bv (hi b))]] (.agg [.int .u64 (bv (lo (mul a b))), .int .u64 (bv (hi (mul a b)))]) := by
  refine PFx_of_W (rc := rc59) (rs := rs59) Try.func59 rfl T68_ok hm (by kernel_rfl) (by kernel_rfl) (by simp [Try.ntmps59]) ?_
  simp [rc59, rs59]
  refine W_forU 128 (fun _ => True) (fun k => [(3, .box [.int .u64 (bv (lo (dbls k b))), .int .u64 (bv (hi (dbls k b)))]), (5, .box [.int .u64 (bv (lo (prodK a b k))), .int .u64 (bv (hi (prodK a b k)))]), (7, .int .i64 k)]) trivial (by simp [dbls, prodK, sm, lo_zero, hi_zero, bv]) (fun k hk _ => ?_) fun _ => ?_
  · have hk' : (k : Int) < 128 := by omega
    have e1 : dbls (k + 1) b = dbl (dbls k b) := rfl
    by_cases h : a.getLsbD k = true
    · have e2 : prodK a b (k + 1) = prodK a b k ^^^ dbls k b := by
        show prodK a b k ^^^ (if a.getLsbD k then dbls k b else 0#128) = _
        rw [if_pos h]
      simp [hk', hk, h, e1, e2, lo_xor, hi_xor, bv_xor64, -BitVec.getLsbD_eq_getElem]
      omega
    · have e2 : prodK a b (k + 1) = prodK a b k := by
        show prodK a b k ^^^ (if a.getLsbD k then dbls k b else 0#128) = _
        rw [if_neg h]; simp
      simp [hk', hk, h, e1, e2, -BitVec.getLsbD_eq_getElem]
      omega
  · simp [prodK_end]
noncomputable def T59 : Tab := tabAdd T68 59 (fun _ : W × W => True) (fun z => [.agg [.int .u64 (bv (lo z.1)), .int .u64 (bv (hi z.1))], .agg [.int .u64 (bv (lo z.2)), .int .u64 (bv (hi z.2))]]) (fun z => .agg [.int .u64 (bv (lo (mul z.1 z.2))), .int .u64 (bv (hi (mul z.1 z.2)))])
@[simp] theorem T59_eq (a : W) (b : W)  : T59 59 [.agg [.int .u64 (bv (lo a)), .int .u64 (bv (hi a))], .agg [.int .u64 (bv (lo b)), .int .u64 (bv (hi b))]] = some (.agg [.int .u64 (bv (lo (mul a b))), .int .u64 (bv (hi (mul a b)))]) := tabAdd_eq (a := (a, b)) (by rintro ⟨a, b⟩ ⟨a', b'⟩ h; simp at h ⊢; rw [lohi_inj h.1.1 h.1.2, lohi_inj h.2.1 h.2.2]; simp) trivial rfl
@[simp] theorem T59_ne {g : Nat} {xs : List AV} (h : g ≠ 59) : T59 g xs = T68 g xs := tabAdd_ne h
theorem T59_ok : Sound Try.prog T59 := tabAdd_sound T68_ok fun z _ => pf59 z.1 z.2 
/-- Both halves of the bytes, as far as k. -/
def two (a : W) (k i : Nat) : BitVec 8 := if i % 8 < k then blk a i else 0#8
theorem two_0 (a : W) : two a 0 = fun _ => 0#8 := by funext i; simp [two]
theorem two_8 (a : W) : two a 8 = blk a := by funext i; unfold two; rw [if_pos (Nat.mod_lt _ (by decide))]
theorem two_set (a : W) (k : Nat) (h : k < 8) : splice (splice (vec8 16 (two a k)) k [.int .u8 (bv (blk a k))]) (k + 8) [.int .u8 (bv (blk a (8 + k)))] = vec8 16 (two a (k + 1)) := by
  rw [vec8_set 16 k _ _ (by omega), vec8_set 16 (k + 8) _ _ (by omega)]
  refine vec8_ext fun i hi => ?_
  unfold two
  by_cases e : i = k + 8
  · subst e; rw [if_pos rfl, if_pos (by omega), Nat.add_comm]
  · rw [if_neg e]
    by_cases e1 : i = k
    · subst e1; rw [if_pos rfl, if_pos (by omega)]
    · rw [if_neg e1]
      by_cases h1 : i % 8 < k
      · rw [if_pos h1, if_pos (by omega)]
      · rw [if_neg h1, if_neg (by omega)]
theorem pf50 (a : W)  : PFx Try.prog 50 [.agg [.int .u64 (bv (lo a)), .int .u64 (bv (hi a))]] (.agg (vec8 16 (blk a))) := by
  refine PFx_of_W (rc := rc50) (rs := rs50) Try.func50 rfl T59_ok hm (by kernel_rfl) (by kernel_rfl) (by simp [Try.ntmps50]) ?_
  simp [rc50, rs50, vec8_zero]
  refine W_forU 8 (fun _ => True) (fun k => [(3, .box (vec8 16 (two a k))), (5, .int .i64 k)]) trivial (by simp [two_0]) (fun k hk _ => ?_) fun _ => ?_
  · have hk' : (k : Int) < 8 := by omega
    have s : (56 : Int) - ((8 * k : Nat) : Int) = ((56 - 8 * k : Nat) : Int) := by omega
    have e := two_set a k hk
    have el : (splice (vec8 16 (two a k)) k [.int .u8 (bv (blk a k))]).length = 16 := by rw [vec8_set 16 k _ _ (by omega), vec8_len]
    have b1 := byte_lo a k hk
    have b2 := byte_hi a k hk
    have q1 : k < 16 := by omega
    have q2 : k + 8 < 16 := by omega
    have q1' : (k : Int) < 16 := by omega
    have q2' : ((k + 8 : Nat) : Int) < 16 := by omega
    have q3 : ((56 - 8 * k : Nat) : Int) ≤ 9223372036854775807 := by omega
    simp [hk', hk, cast_muln, cast_addn, s, q1, q2, q1', q2', q3, bv_shr64, bv_dn8, b1, b2, e, el, -splice, -Int.natCast_mul, -Int.natCast_add]
    omega
  · simp [two_8]
noncomputable def T50 : Tab := tabAdd T59 50 (fun _ : W => True) (fun z => [.agg [.int .u64 (bv (lo z)), .int .u64 (bv (hi z))]]) (fun z => .agg (vec8 16 (blk z)))
@[simp] theorem T50_eq (a : W)  : T50 50 [.agg [.int .u64 (bv (lo a)), .int .u64 (bv (hi a))]] = some (.agg (vec8 16 (blk a))) := tabAdd_eq (a := a) (by intro a b h; simp at h ⊢; exact lohi_inj h.1 h.2) trivial rfl
@[simp] theorem T50_ne {g : Nat} {xs : List AV} (h : g ≠ 50) : T50 g xs = T59 g xs := tabAdd_ne h
theorem T50_ok : Sound Try.prog T50 := tabAdd_sound T59_ok fun z _ => pf50 z 
theorem num_one : T50 50 [.agg [.int .u64 9223372036854775808, .int .u64 0]] = some (.agg (vec8 16 (blk 1#128))) := by
  have c := T50_eq 1#128
  rw [lo_one, hi_one] at c
  exact c
def powI (h : W) (n : Int) : W := pw h (min n 65536).toNat
theorem pf47 (h : W) (s : W)  : PFx Try.prog 47 [.agg (vec8 16 (blk h)), .agg (vec8 16 (blk s))] (.agg [.int .u64 (bv (lo s)), .int .u64 (bv (hi s)), .int .u64 (bv (lo h)), .int .u64 (bv (hi h))]) := by
  refine PFx_of_W (rc := rc47) (rs := rs47) Try.func47 rfl T50_ok hm (by kernel_rfl) (by kernel_rfl) (by simp [Try.ntmps47]) ?_
  simp [rc47, rs47, vec8_zero]
noncomputable def T47 : Tab := tabAdd T50 47 (fun _ : W × W => True) (fun z => [.agg (vec8 16 (blk z.1)), .agg (vec8 16 (blk z.2))]) (fun z => .agg [.int .u64 (bv (lo z.2)), .int .u64 (bv (hi z.2)), .int .u64 (bv (lo z.1)), .int .u64 (bv (hi z.1))])
@[simp] theorem T47_eq (h : W) (s : W)  : T47 47 [.agg (vec8 16 (blk h)), .agg (vec8 16 (blk s))] = some (.agg [.int .u64 (bv (lo s)), .int .u64 (bv (hi s)), .int .u64 (bv (lo h)), .int .u64 (bv (hi h))]) := tabAdd_eq (a := (h, s)) (by rintro ⟨a, b⟩ ⟨a', b'⟩ h; simp at h ⊢; rw [h.1, h.2]; simp) trivial rfl
@[simp] theorem T47_ne {g : Nat} {xs : List AV} (h : g ≠ 47) : T47 g xs = T50 g xs := tabAdd_ne h
theorem T47_ok : Sound Try.prog T47 := tabAdd_sound T50_ok fun z _ => pf47 z.1 z.2 
theorem pf49B (h : W) (s : W) (b : W)  : PFb Try.prog 49 [.box [.int .u64 (bv (lo s)), .int .u64 (bv (hi s)), .int .u64 (bv (lo h)), .int .u64 (bv (hi h))], .agg [.int .u64 (bv (lo b)), .int .u64 (bv (hi b))]] (.tup []) (.box [.int .u64 (bv (lo (mul (s ^^^ b) h))), .int .u64 (bv (hi (mul (s ^^^ b) h))), .int .u64 (bv (lo h)), .int .u64 (bv (hi h))]) := by
  refine PFb_of_W (rc := rc49) (rs := rs49) 0 Try.func49 rfl T47_ok hm (by kernel_rfl) (by kernel_rfl) rfl (by simp [Try.ntmps49]) rfl rfl ?_
  simp [rc49, rs49, bv_xor64, ← lo_xor, ← hi_xor]
noncomputable def T49B : Tab := tabAdd T47 (49 + inPlace) (fun _ : W × W × W => True) (fun z => [.box [.int .u64 (bv (lo z.2.1)), .int .u64 (bv (hi z.2.1)), .int .u64 (bv (lo z.1)), .int .u64 (bv (hi z.1))], .agg [.int .u64 (bv (lo z.2.2)), .int .u64 (bv (hi z.2.2))]]) (fun z => .tup [.tup [], .box [.int .u64 (bv (lo (mul (z.2.1 ^^^ z.2.2) z.1))), .int .u64 (bv (hi (mul (z.2.1 ^^^ z.2.2) z.1))), .int .u64 (bv (lo z.1)), .int .u64 (bv (hi z.1))]])
@[simp] theorem T49B_eq (h : W) (s : W) (b : W)  : T49B (49 + inPlace) [.box [.int .u64 (bv (lo s)), .int .u64 (bv (hi s)), .int .u64 (bv (lo h)), .int .u64 (bv (hi h))], .agg [.int .u64 (bv (lo b)), .int .u64 (bv (hi b))]] = some (.tup [.tup [], .box [.int .u64 (bv (lo (mul (s ^^^ b) h))), .int .u64 (bv (hi (mul (s ^^^ b) h))), .int .u64 (bv (lo h)), .int .u64 (bv (hi h))]]) := tabAdd_eq (a := (h, s, b)) (by rintro ⟨a, b, c⟩ ⟨a', b', c'⟩ h; simp at h ⊢; obtain ⟨⟨h1, h2, h3, h4⟩, h5, h6⟩ := h; rw [lohi_inj h1 h2, lohi_inj h3 h4, lohi_inj h5 h6]; simp) trivial rfl
@[simp] theorem T49B_ne {g : Nat} {xs : List AV} (h : g ≠ 49 + inPlace) : T49B g xs = T47 g xs := tabAdd_ne h
theorem T49B_ok : Sound Try.prog T49B := tabAdd_soundB T47_ok fun z _ => pf49B z.1 z.2.1 z.2.2 
theorem blks_step {l : List UInt8} (h : 0 < l.length) : blks l = pol (tx l) :: blks (l.drop 16) := blks_cons (List.length_pos_iff.1 h)
/-- A text's first bytes, laid over a block of zeros. -/
theorem laid (l : List UInt8) : splice (vec8 16 fun _ => 0#8) 0 ((bytesAV l).take (min 16 l.length)) = vec8 16 (blk (pol (tx l))) := by
  have e : (bytesAV l).take (min 16 l.length) = vec8 (min 16 l.length) (tx l) := by
    rw [bytes_vec, vec8_take _ _ _ (Nat.min_le_right ..)]; rfl
  rw [e, vec8_splice 16 0 _ _ _ (by omega)]
  refine vec8_ext fun i hi => ?_
  rw [blk_pol _ _ hi]
  by_cases h : i < l.length
  · rw [if_pos (by omega)]; rfl
  · rw [if_neg (by omega)]
    unfold tx
    rw [List.getD_eq_getElem?_getD, List.getElem?_eq_none (by omega)]; rfl
theorem drop_min (l : List UInt8) : l.drop (min 16 l.length) = l.drop 16 := by
  by_cases h : 16 ≤ l.length
  · rw [Nat.min_eq_left h]
  · rw [Nat.min_eq_right (by omega), List.drop_length, List.drop_eq_nil_of_le (by omega)]
theorem pf48B (g : W) (s : W) (l : List UInt8) (h : l.length ≤ 1000000) : PFb Try.prog 48 [.box [.int .u64 (bv (lo s)), .int .u64 (bv (hi s)), .int .u64 (bv (lo g)), .int .u64 (bv (hi g))], .str l] (.tup []) (.box [.int .u64 (bv (lo (fold g s (blks l)))), .int .u64 (bv (hi (fold g s (blks l)))), .int .u64 (bv (lo g)), .int .u64 (bv (hi g))]) := by
  refine PFb_of_W (rc := rc48) (rs := rs48) 0 Try.func48 rfl T49B_ok hm (by kernel_rfl) (by kernel_rfl) rfl (by simp [Try.ntmps48]) rfl rfl ?_
  simp [rc48, rs48, vec8_zero]
  refine W_varU (fun q : List UInt8 × W => fold g q.2 (blks q.1) = fold g s (blks l) ∧ q.1.length ≤ l.length) (fun q => q.1.length) (fun q => [(0, .box [.int .u64 (bv (lo q.2)), .int .u64 (bv (hi q.2)), .int .u64 (bv (lo g)), .int .u64 (bv (hi g))]), (1, .str q.1)]) (l, s) ⟨rfl, Nat.le_refl _⟩ (by simp) (fun q hq => ?_)
  obtain ⟨m, t⟩ := q
  obtain ⟨h1, h2⟩ := hq
  simp only at h1 h2
  by_cases h0 : 0 < m.length
  · have h0' : (0 : Int) < (m.length : Int) := by omega
    have e := laid m
    have d := drop_min m
    have hb := blks_step h0
    have mn : ((min 16 m.length : Nat) : Int) ≤ (m.length : Int) := by omega
    simp [h0, h0', vec8_zero, e, d, mn, -splice, -List.reduceReplicate]
    exact ⟨m.drop 16, mul (t ^^^ pol (tx m)) g, ⟨by rw [← h1, hb]; rfl, by rw [List.length_drop]; omega⟩, by rw [List.length_drop]; omega, ⟨rfl, rfl⟩, rfl⟩
  · have hm : m = [] := List.eq_nil_of_length_eq_zero (by omega)
    subst hm
    have h1' : t = fold g s (blks l) := h1
    simp [h1']
noncomputable def T48B : Tab := tabAdd T49B (48 + inPlace) (fun z : W × W × (List UInt8) => z.2.2.length ≤ 1000000) (fun z => [.box [.int .u64 (bv (lo z.2.1)), .int .u64 (bv (hi z.2.1)), .int .u64 (bv (lo z.1)), .int .u64 (bv (hi z.1))], .str z.2.2]) (fun z => .tup [.tup [], .box [.int .u64 (bv (lo (fold z.1 z.2.1 (blks z.2.2)))), .int .u64 (bv (hi (fold z.1 z.2.1 (blks z.2.2)))), .int .u64 (bv (lo z.1)), .int .u64 (bv (hi z.1))]])
@[simp] theorem T48B_eq (g : W) (s : W) (l : List UInt8) (h : l.length ≤ 1000000) : T48B (48 + inPlace) [.box [.int .u64 (bv (lo s)), .int .u64 (bv (hi s)), .int .u64 (bv (lo g)), .int .u64 (bv (hi g))], .str l] = some (.tup [.tup [], .box [.int .u64 (bv (lo (fold g s (blks l)))), .int .u64 (bv (hi (fold g s (blks l)))), .int .u64 (bv (lo g)), .int .u64 (bv (hi g))]]) := tabAdd_eq (a := (g, s, l)) (by rintro ⟨a, b, c⟩ ⟨a', b', c'⟩ h; simp at h ⊢; obtain ⟨⟨h1, h2, h3, h4⟩, h5⟩ := h; rw [lohi_inj h1 h2, lohi_inj h3 h4, h5]; simp) h rfl
@[simp] theorem T48B_ne {g : Nat} {xs : List AV} (h : g ≠ 48 + inPlace) : T48B g xs = T49B g xs := tabAdd_ne h
theorem T48B_ok : Sound Try.prog T48B := tabAdd_soundB T49B_ok fun z h => pf48B z.1 z.2.1 z.2.2 h
theorem lens_lo (n m : Nat) : lo (lens n m) = BitVec.ofNat 64 n := by rw [lens_mk, lo_mk]
theorem lens_hi (n m : Nat) : hi (lens n m) = BitVec.ofNat 64 m := by rw [lens_mk, hi_mk]
theorem pf37 (g : W) (ad : List UInt8) (t : List UInt8) (h : ad.length ≤ 100000 ∧ t.length ≤ 100000) : PFx Try.prog 37 [.agg (vec8 16 (blk g)), .str ad, .str t] (.agg (vec8 16 (blk (sumT g ad t)))) := by
  refine PFx_of_W (rc := rc37) (rs := rs37) Try.func37 rfl T48B_ok hm (by kernel_rfl) (by kernel_rfl) (by simp [Try.ntmps37]) ?_
  obtain ⟨h1, h2⟩ := h
  have z : vec8 16 (fun _ => 0#8) = vec8 16 (blk 0#128) := vec8_ext fun i _ => (blk_zero i).symm
  have w1 : IntKind.u64.wrap ((8 * ad.length : Nat) : Int) = bv (lo (lens (8 * ad.length) (8 * t.length))) := by rw [lens_lo, bv_wrap64]
  have w2 : IntKind.u64.wrap ((8 * t.length : Nat) : Int) = bv (hi (lens (8 * ad.length) (8 * t.length))) := by rw [lens_hi, bv_wrap64]
  simp [rc37, rs37, vec8_zero, z, cast_muln, show ad.length ≤ 1000000 by omega, show t.length ≤ 1000000 by omega, w1, w2, sumT, fold, -vec8_inj, -Int.natCast_mul]
  omega
noncomputable def T37 : Tab := tabAdd T48B 37 (fun z : W × (List UInt8) × (List UInt8) => z.2.1.length ≤ 100000 ∧ z.2.2.length ≤ 100000) (fun z => [.agg (vec8 16 (blk z.1)), .str z.2.1, .str z.2.2]) (fun z => .agg (vec8 16 (blk (sumT z.1 z.2.1 z.2.2))))
@[simp] theorem T37_eq (g : W) (ad : List UInt8) (t : List UInt8) (h : ad.length ≤ 100000 ∧ t.length ≤ 100000) : T37 37 [.agg (vec8 16 (blk g)), .str ad, .str t] = some (.agg (vec8 16 (blk (sumT g ad t)))) := tabAdd_eq (a := (g, ad, t)) (by rintro ⟨a, b, c⟩ ⟨a', b', c'⟩ h; simp at h ⊢; rw [h.1, h.2.1, h.2.2]) h rfl
@[simp] theorem T37_ne {g : Nat} {xs : List AV} (h : g ≠ 37) : T37 g xs = T48B g xs := tabAdd_ne h
theorem T37_ok : Sound Try.prog T37 := tabAdd_sound T48B_ok fun z h => pf37 z.1 z.2.1 z.2.2 h
end Go.Proofs.Ytlihfdbfcklkmaa

