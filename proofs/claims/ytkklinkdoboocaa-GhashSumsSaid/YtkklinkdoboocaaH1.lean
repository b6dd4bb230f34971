/- The program's ghash. -/
import Derived.Test.YtkklinkdoboocaaH0
set_option linter.unusedVariables false
set_option linter.unusedSimpArgs false
namespace Go.Proofs.Ytkklinkdoboocaa
open Go.Proofs.Ytkklinkdoboocaa.Pad Go.Proofs.Ytkklinkdoboocaa.Pad.Gh
/-- padlock/cipher.Xor -/
def rc17 : RC :=
  (.seq
   (.reg false [⟨(some 2), .box (.t 0), none⟩,
     ⟨(some 3), .box (.t 1), none⟩,
     ⟨(some 4), .alloc (List.replicate 16 (.int .u8 0)), none⟩] [2, 3, 4])
   (.seq
    (.seq
     (.reg false [⟨(some 6), .mov (.c (.int .i64 0)), none⟩] [2, 3, 4, 6])
     (.block 0
      (.loop
       (.seq
        (.reg false [⟨(some 7), .bin .lss true (.t 6) (.c (.int .i64 16)), none⟩] [2, 3, 4, 6, 7])
        (.seq
         (.cond 7
          (.reg false [] [2, 3, 4, 6])
          (.seq
           (.reg false [] [2, 4])
           (.exit 0)))
         (.seq
          (.block 1
           (.seq
            (.reg false [⟨(some 8), .mov (.t 6), none⟩,
              ⟨(some 5), .mov (.t 8), none⟩] [2, 3, 4, 5, 6])
            (.reg true [⟨(some 9), .mov (.t 5), none⟩,
              ⟨(some 10), .idxB 2 1 16 (.t 9), none⟩,
              ⟨(some 11), .loadR 10 2 1 false, none⟩,
              ⟨(some 12), .mov (.t 5), none⟩,
              ⟨(some 13), .idxB 3 1 16 (.t 12), none⟩,
              ⟨(some 14), .loadR 13 3 1 false, none⟩,
              ⟨(some 15), .bin .xor false (.t 11) (.t 14), none⟩,
              ⟨(some 16), .idxB 2 1 16 (.t 9), none⟩,
              ⟨none, .stR 16 2 1 (.t 15), none⟩] [2, 3, 4, 6])))
          (.reg false [⟨(some 17), .bin .add true (.t 6) (.c (.int .i64 1)), none⟩,
            ⟨(some 6), .mov (.t 17), none⟩] [2, 3, 4, 6])))))))
    (.seq
     (.reg false [⟨(some 18), .loadB 2 16 true, none⟩,
       ⟨none, .stB 4 16 (.t 18), none⟩] [4])
     .ret)))
def rs17 : List RS := [.cell 4 16 true]
/-- padlock/ghash.number -/
def rc29 : RC :=
  (.seq
   (.reg false [⟨(some 1), .box (.t 0), none⟩,
     ⟨(some 2), .mov (.c (.int .u64 0)), none⟩] [1])
   (.seq
    (.reg false [⟨(some 3), .mov (.c (.int .u64 0)), none⟩] [1, 3])
    (.seq
     (.seq
      (.reg false [⟨(some 6), .loadB 1 8 true, none⟩,
        ⟨(some 7), .mov (.c (.int .i64 0)), none⟩] [3, 6, 7])
      (.block 0
       (.loop
        (.seq
         (.reg false [⟨(some 8), .bin .lss true (.t 7) (.c (.int .i64 8)), none⟩] [3, 6, 7, 8])
         (.seq
          (.cond 8
           (.reg false [] [3, 6, 7])
           (.seq
            (.reg false [] [3])
            (.exit 0)))
          (.seq
           (.block 1
            (.seq
             (.reg false [⟨(some 9), .aidx 1 8 false (.t 6) (.t 7), none⟩,
               ⟨(some 5), .mov (.t 9), none⟩] [3, 5, 6, 7])
             (.reg false [⟨(some 10), .mov (.t 3), none⟩,
               ⟨(some 11), .bin .shl false (.t 10) (.c (.int .u64 8)), none⟩,
               ⟨(some 12), .mov (.t 5), none⟩,
               ⟨(some 13), .conv true .u64 (.t 12), none⟩,
               ⟨(some 14), .bin .or false (.t 11) (.t 13), none⟩,
               ⟨(some 3), .mov (.t 14), none⟩] [3, 6, 7])))
           (.reg false [⟨(some 15), .bin .add true (.t 7) (.c (.int .i64 1)), none⟩,
             ⟨(some 7), .mov (.t 15), none⟩] [3, 6, 7])))))))
     (.seq
      (.reg false [⟨(some 16), .mov (.t 3), none⟩,
        ⟨(some 2), .mov (.t 16), none⟩] [2])
      .ret))))
def rs29 : List RS := [.tmp 2]
/-- padlock/ghash.of -/
def rc20 : RC :=
  (.seq
   (.reg false [⟨(some 1), .box (.t 0), none⟩,
     ⟨(some 2), .alloc [(.int .u64 0), (.int .u64 0)], none⟩] [1, 2])
   (.seq
    (.reg true [⟨(some 3), .winB 1 1 16 none (some (.c (.int .i64 8))), none⟩,
      ⟨(some 4), .s2aR 3 1 1 8, none⟩,
      ⟨(some 5), .loadR 4 1 8 true, none⟩,
      ⟨(some 6), .call 29 [(false, (.t 5))], none⟩,
      ⟨(some 7), .winB 1 1 16 (some (.c (.int .i64 8))) none, none⟩,
      ⟨(some 8), .s2aR 7 1 1 8, none⟩,
      ⟨(some 9), .loadR 8 1 8 true, none⟩,
      ⟨(some 10), .call 29 [(false, (.t 9))], none⟩,
      ⟨(some 11), .build [(.int .u64 0), (.int .u64 0)] [(0, 1, (.t 6)), (1, 1, (.t 10))], none⟩,
      ⟨none, .stB 2 2 (.t 11), none⟩] [2])
    .ret))
def rs20 : List RS := [.cell 2 2 true]
/-- (padlock/ghash.block).bit -/
def rc24 : RC :=
  (.seq
   (.reg false [⟨(some 2), .box (.t 0), none⟩,
     ⟨(some 4), .mov (.c (.bool false)), none⟩] [1, 2])
   (.seq
    (.seq
     (.reg false [⟨(some 5), .mov (.t 1), none⟩,
       ⟨(some 6), .bin .lss true (.t 5) (.c (.int .i64 64)), none⟩] [1, 2, 6])
     (.cond 6
      (.seq
       (.reg false [⟨(some 7), .fldB 2 0, none⟩,
         ⟨(some 8), .loadR 7 2 1 false, none⟩,
         ⟨(some 9), .mov (.t 1), none⟩,
         ⟨(some 10), .bin .shl false (.t 8) (.t 9), none⟩,
         ⟨(some 11), .bin .shr false (.t 10) (.c (.int .u64 63)), none⟩,
         ⟨(some 12), .bin .eql false (.t 11) (.c (.int .u64 1)), none⟩,
         ⟨(some 4), .mov (.t 12), none⟩] [4])
       .ret)
      (.reg false [] [1, 2])))
    (.seq
     (.reg false [⟨(some 13), .fldB 2 1, none⟩,
       ⟨(some 14), .loadR 13 2 1 false, none⟩,
       ⟨(some 15), .mov (.t 1), none⟩,
       ⟨(some 16), .bin .sub true (.t 15) (.c (.int .i64 64)), none⟩,
       ⟨(some 17), .bin .shl false (.t 14) (.t 16), none⟩,
       ⟨(some 18), .bin .shr false (.t 17) (.c (.int .u64 63)), none⟩,
       ⟨(some 19), .bin .eql false (.t 18) (.c (.int .u64 1)), none⟩,
       ⟨(some 4), .mov (.t 19), none⟩] [4])
     .ret)))
def rs24 : List RS := [.tmp 4]
/-- (padlock/ghash.block).timesX -/
def rc30 : RC :=
  (.seq
   (.reg false [⟨(some 1), .box (.t 0), none⟩,
     ⟨(some 2), .alloc [(.int .u64 0), (.int .u64 0)], none⟩] [1, 2])
   (.seq
    (.reg false [⟨(some 4), .fldB 1 0, none⟩,
      ⟨(some 5), .loadR 4 1 1 false, none⟩,
      ⟨(some 6), .bin .shr false (.t 5) (.c (.int .u64 1)), none⟩,
      ⟨(some 7), .fldB 1 1, none⟩,
      ⟨(some 8), .loadR 7 1 1 false, none⟩,
      ⟨(some 9), .bin .shr false (.t 8) (.c (.int .u64 1)), none⟩,
      ⟨(some 10), .fldB 1 0, none⟩,
      ⟨(some 11), .loadR 10 1 1 false, none⟩,
      ⟨(some 12), .bin .shl false (.t 11) (.c (.int .u64 63)), none⟩,
      ⟨(some 13), .bin .or false (.t 9) (.t 12), none⟩,
      ⟨(some 14), .build [(.int .u64 0), (.int .u64 0)] [(0, 1, (.t 6)), (1, 1, (.t 13))], none⟩,
      ⟨(some 3), .alloc [(.int .u64 0), (.int .u64 0)], none⟩,
      ⟨none, .stB 3 2 (.t 14), none⟩] [1, 2, 3])
    (.seq
     (.seq
      (.reg false [⟨(some 15), .loadB 1 2 true, none⟩,
        ⟨(some 16), .call 24 [(false, (.t 15)), (false, (.c (.int .i64 127)))], none⟩] [2, 3, 16])
      (.cond 16
       (.reg false [⟨(some 17), .fldB 3 0, none⟩,
         ⟨(some 18), .loadR 17 3 1 false, none⟩,
         ⟨(some 19), .bin .xor false (.t 18) (.c (.int .u64 16212958658533785600)), none⟩,
         ⟨(some 20), .fldB 3 0, none⟩,
         ⟨none, .stR 20 3 1 (.t 19), none⟩] [2, 3])
       (.reg false [] [2, 3])))
     (.seq
      (.reg false [⟨(some 21), .loadB 3 2 true, none⟩,
        ⟨none, .stB 2 2 (.t 21), none⟩] [2])
      .ret))))
def rs30 : List RS := [.cell 2 2 true]
/-- (padlock/ghash.block).times -/
def rc21 : RC :=
  (.seq
   (.reg false [⟨(some 2), .box (.t 0), none⟩,
     ⟨(some 3), .box (.t 1), none⟩,
     ⟨(some 4), .alloc [(.int .u64 0), (.int .u64 0)], none⟩] [2, 3, 4])
   (.seq
    (.reg false [⟨(some 5), .alloc [(.int .u64 0), (.int .u64 0)], none⟩] [2, 3, 4, 5])
    (.seq
     (.seq
      (.reg false [⟨(some 7), .mov (.c (.int .i64 0)), none⟩] [2, 3, 4, 5, 7])
      (.block 0
       (.loop
        (.seq
         (.reg false [⟨(some 8), .bin .lss true (.t 7) (.c (.int .i64 128)), none⟩] [2, 3, 4, 5, 7, 8])
         (.seq
          (.cond 8
           (.reg false [] [2, 3, 4, 5, 7])
           (.seq
            (.reg false [] [4, 5])
            (.exit 0)))
          (.seq
           (.block 1
            (.seq
             (.reg false [⟨(some 9), .mov (.t 7), none⟩,
               ⟨(some 6), .mov (.t 9), none⟩] [2, 3, 4, 5, 6, 7])
             (.seq
              (.seq
               (.reg false [⟨(some 10), .loadB 2 2 true, none⟩,
                 ⟨(some 11), .mov (.t 6), none⟩,
                 ⟨(some 12), .call 24 [(false, (.t 10)), (false, (.t 11))], none⟩] [2, 3, 4, 5, 7, 12])
               (.cond 12
                (.seq
                 (.reg false [⟨(some 13), .fldB 5 0, none⟩,
                   ⟨(some 14), .loadR 13 5 1 false, none⟩,
                   ⟨(some 15), .fldB 3 0, none⟩,
                   ⟨(some 16), .loadR 15 3 1 false, none⟩,
                   ⟨(some 17), .bin .xor false (.t 14) (.t 16), none⟩,
                   ⟨(some 18), .fldB 5 0, none⟩,
                   ⟨none, .stR 18 5 1 (.t 17), none⟩] [2, 3, 4, 5, 7])
                 (.reg false [⟨(some 19), .fldB 5 1, none⟩,
                   ⟨(some 20), .loadR 19 5 1 false, none⟩,
                   ⟨(some 21), .fldB 3 1, none⟩,
                   ⟨(some 22), .loadR 21 3 1 false, none⟩,
                   ⟨(some 23), .bin .xor false (.t 20) (.t 22), none⟩,
                   ⟨(some 24), .fldB 5 1, none⟩,
                   ⟨none, .stR 24 5 1 (.t 23), none⟩] [2, 3, 4, 5, 7]))
                (.reg false [] [2, 3, 4, 5, 7])))
              (.reg false [⟨(some 25), .loadB 3 2 true, none⟩,
                ⟨(some 26), .call 30 [(false, (.t 25))], none⟩,
                ⟨none, .stB 3 2 (.t 26), none⟩] [2, 3, 4, 5, 7]))))
           (.reg false [⟨(some 27), .bin .add true (.t 7) (.c (.int .i64 1)), none⟩,
             ⟨(some 7), .mov (.t 27), none⟩] [2, 3, 4, 5, 7])))))))
     (.seq
      (.reg false [⟨(some 28), .loadB 5 2 true, none⟩,
        ⟨none, .stB 4 2 (.t 28), none⟩] [4])
      .ret))))
def rs21 : List RS := [.cell 4 2 true]
/-- (padlock/ghash.block).bytes -/
def rc22 : RC :=
  (.seq
   (.reg false [⟨(some 1), .box (.t 0), none⟩,
     ⟨(some 2), .alloc (List.replicate 16 (.int .u8 0)), none⟩] [1, 2])
   (.seq
    (.reg false [⟨(some 3), .alloc (List.replicate 16 (.int .u8 0)), none⟩] [1, 2, 3])
    (.seq
     (.seq
      (.reg false [⟨(some 5), .mov (.c (.int .i64 0)), none⟩] [1, 2, 3, 5])
      (.block 0
       (.loop
        (.seq
         (.reg false [⟨(some 6), .bin .lss true (.t 5) (.c (.int .i64 8)), none⟩] [1, 2, 3, 5, 6])
         (.seq
          (.cond 6
           (.reg false [] [1, 2, 3, 5])
           (.seq
            (.reg false [] [2, 3])
            (.exit 0)))
          (.seq
           (.block 1
            (.seq
             (.reg false [⟨(some 7), .mov (.t 5), none⟩,
               ⟨(some 4), .mov (.t 7), none⟩] [1, 2, 3, 4, 5])
             (.seq
              (.reg false [⟨(some 8), .mov (.t 4), none⟩,
                ⟨(some 9), .fldB 1 0, none⟩,
                ⟨(some 10), .loadR 9 1 1 false, none⟩,
                ⟨(some 11), .mov (.t 4), none⟩,
                ⟨(some 12), .bin .mul true (.c (.int .i64 8)) (.t 11), none⟩,
                ⟨(some 13), .bin .sub true (.c (.int .i64 56)) (.t 12), none⟩,
                ⟨(some 14), .bin .shr false (.t 10) (.t 13), none⟩,
                ⟨(some 15), .conv false .u8 (.t 14), none⟩,
                ⟨(some 16), .idxB 3 1 16 (.t 8), none⟩,
                ⟨none, .stR 16 3 1 (.t 15), none⟩] [1, 2, 3, 4, 5])
              (.reg false [⟨(some 17), .mov (.t 4), none⟩,
                ⟨(some 18), .bin .add true (.t 17) (.c (.int .i64 8)), none⟩,
                ⟨(some 19), .fldB 1 1, none⟩,
                ⟨(some 20), .loadR 19 1 1 false, none⟩,
                ⟨(some 21), .mov (.t 4), none⟩,
                ⟨(some 22), .bin .mul true (.c (.int .i64 8)) (.t 21), none⟩,
                ⟨(some 23), .bin .sub true (.c (.int .i64 56)) (.t 22), none⟩,
                ⟨(some 24), .bin .shr false (.t 20) (.t 23), none⟩,
                ⟨(some 25), .conv false .u8 (.t 24), none⟩,
                ⟨(some 26), .idxB 3 1 16 (.t 18), none⟩,
                ⟨none, .stR 26 3 1 (.t 25), none⟩] [1, 2, 3, 5]))))
           (.reg false [⟨(some 27), .bin .add true (.t 5) (.c (.int .i64 1)), none⟩,
             ⟨(some 5), .mov (.t 27), none⟩] [1, 2, 3, 5])))))))
     (.seq
      (.reg false [⟨(some 28), .loadB 3 16 true, none⟩,
        ⟨none, .stB 2 16 (.t 28), none⟩] [2])
      .ret))))
def rs22 : List RS := [.cell 2 16 true]
/-- padlock/ghash.One -/
def rc18 : RC :=
  (.seq
   (.reg false [⟨(some 0), .alloc (List.replicate 16 (.int .u8 0)), none⟩] [0])
   (.seq
    (.reg false [⟨(some 1), .build [(.int .u64 0), (.int .u64 0)] [(0, 1, (.c (.int .u64 9223372036854775808)))], none⟩,
      ⟨(some 2), .call 22 [(false, (.t 1))], none⟩,
      ⟨none, .stB 0 16 (.t 2), none⟩] [0])
    .ret))
def rs18 : List RS := [.cell 0 16 true]
/-- padlock/ghash.Mul -/
def rc8 : RC :=
  (.seq
   (.reg false [⟨(some 2), .box (.t 0), none⟩,
     ⟨(some 3), .box (.t 1), none⟩,
     ⟨(some 4), .alloc (List.replicate 16 (.int .u8 0)), none⟩] [2, 3, 4])
   (.seq
    (.reg true [⟨(some 5), .loadB 2 16 true, none⟩,
      ⟨(some 6), .call 20 [(false, (.t 5))], none⟩,
      ⟨(some 7), .loadB 3 16 true, none⟩,
      ⟨(some 8), .call 20 [(false, (.t 7))], none⟩,
      ⟨(some 9), .call 21 [(false, (.t 6)), (false, (.t 8))], none⟩,
      ⟨(some 10), .call 22 [(false, (.t 9))], none⟩,
      ⟨none, .stB 4 16 (.t 10), none⟩] [4])
    .ret))
def rs8 : List RS := [.cell 4 16 true]
/-- padlock/ghash.Pow -/
def rc19 : RC :=
  (.seq
   (.reg false [⟨(some 2), .box (.t 0), none⟩,
     ⟨(some 4), .alloc (List.replicate 16 (.int .u8 0)), none⟩] [1, 2, 4])
   (.seq
    (.reg true [⟨(some 7), .call 18 [], none⟩,
      ⟨(some 8), .call 20 [(false, (.t 7))], none⟩,
      ⟨(some 9), .loadB 2 16 true, none⟩,
      ⟨(some 10), .call 20 [(false, (.t 9))], none⟩,
      ⟨(some 5), .alloc [(.int .u64 0), (.int .u64 0)], none⟩,
      ⟨(some 6), .alloc [(.int .u64 0), (.int .u64 0)], none⟩,
      ⟨none, .stB 5 2 (.t 8), none⟩,
      ⟨none, .stB 6 2 (.t 10), none⟩] [1, 4, 5, 6])
    (.seq
     (.seq
      (.reg false [⟨(some 11), .mov (.t 1), none⟩,
        ⟨(some 12), .mm false (.t 11) (.c (.int .i64 65536)), none⟩,
        ⟨(some 1), .mov (.t 12), none⟩] [1, 4, 5, 6])
      (.block 0
       (.loop
        (.seq
         (.seq
          (.reg false [⟨(some 13), .mov (.t 1), none⟩,
            ⟨(some 14), .bin .gtr true (.t 13) (.c (.int .i64 0)), none⟩] [1, 4, 5, 6, 14])
          (.cond 14
           (.reg false [] [1, 4, 5, 6])
           (.seq
            (.reg false [] [4, 5])
            (.exit 0))))
         (.seq
          (.block 1
           (.seq
            (.seq
             (.reg false [⟨(some 17), .mov (.t 1), none⟩,
               ⟨(some 18), .bin .and true (.t 17) (.c (.int .i64 1)), none⟩,
               ⟨(some 19), .bin .eql true (.t 18) (.c (.int .i64 1)), none⟩] [1, 4, 5, 6, 19])
             (.cond 19
              (.reg false [⟨(some 20), .loadB 5 2 true, none⟩,
                ⟨(some 21), .loadB 6 2 true, none⟩,
                ⟨(some 22), .call 21 [(false, (.t 20)), (false, (.t 21))], none⟩,
                ⟨none, .stB 5 2 (.t 22), none⟩] [1, 4, 5, 6])
              (.reg false [] [1, 4, 5, 6])))
            (.reg false [⟨(some 23), .loadB 6 2 true, none⟩,
              ⟨(some 24), .loadB 6 2 true, none⟩,
              ⟨(some 25), .call 21 [(false, (.t 23)), (false, (.t 24))], none⟩,
              ⟨none, .stB 6 2 (.t 25), none⟩] [1, 4, 5, 6])))
          (.reg false [⟨(some 15), .mov (.t 1), none⟩,
            ⟨(some 16), .bin .shr true (.t 15) (.c (.int .u64 1)), none⟩,
            ⟨(some 1), .mov (.t 16), none⟩] [1, 4, 5, 6]))))))
     (.seq
      (.reg false [⟨(some 26), .loadB 5 2 true, none⟩,
        ⟨(some 27), .call 22 [(false, (.t 26))], none⟩,
        ⟨none, .stB 4 16 (.t 27), none⟩] [4])
      .ret))))
def rs19 : List RS := [.cell 4 16 true]
/-- padlock/ghash.Bit -/
def rc10 : RC :=
  (.seq
   (.reg false [⟨(some 2), .box (.t 0), none⟩,
     ⟨(some 4), .mov (.c (.bool false)), none⟩] [1, 2])
   (.seq
    (.reg false [⟨(some 5), .mov (.t 1), none⟩,
      ⟨(some 6), .bin .geq true (.t 5) (.c (.int .i64 0)), none⟩,
      ⟨(some 7), .mov (.t 6), none⟩,
      ⟨(some 8), .mov (.t 1), (some (7, true))⟩,
      ⟨(some 9), .bin .lss true (.t 8) (.c (.int .i64 128)), (some (7, true))⟩,
      ⟨(some 10), .pick (.t 7) (.t 9) (.c (.bool false)), none⟩,
      ⟨(some 11), .mov (.t 10), none⟩,
      ⟨(some 12), .loadB 2 16 true, (some (11, true))⟩,
      ⟨(some 13), .call 20 [(false, (.t 12))], (some (11, true))⟩,
      ⟨(some 14), .mov (.t 1), (some (11, true))⟩,
      ⟨(some 15), .call 24 [(false, (.t 13)), (false, (.t 14))], (some (11, true))⟩,
      ⟨(some 16), .pick (.t 11) (.t 15) (.c (.bool false)), none⟩,
      ⟨(some 4), .mov (.t 16), none⟩] [4])
    .ret))
def rs10 : List RS := [.tmp 4]
/-- padlock/ghash.start -/
def rc25 : RC :=
  (.seq
   (.reg false [⟨(some 2), .box (.t 0), none⟩,
     ⟨(some 3), .box (.t 1), none⟩,
     ⟨(some 4), .alloc [(.int .u64 0), (.int .u64 0), (.int .u64 0), (.int .u64 0)], none⟩] [2, 3, 4])
   (.seq
    (.reg true [⟨(some 5), .loadB 3 16 true, none⟩,
      ⟨(some 6), .call 20 [(false, (.t 5))], none⟩,
      ⟨(some 7), .loadB 2 16 true, none⟩,
      ⟨(some 8), .call 20 [(false, (.t 7))], none⟩,
      ⟨(some 9), .build [(.int .u64 0), (.int .u64 0), (.int .u64 0), (.int .u64 0)] [(0, 2, (.t 6)), (2, 2, (.t 8))], none⟩,
      ⟨none, .stB 4 4 (.t 9), none⟩] [4])
    .ret))
def rs25 : List RS := [.cell 4 4 true]
/-- (*padlock/ghash.sum).step -/
def rc27 : RC :=
  (.seq
   (.reg false [⟨(some 3), .box (.t 1), none⟩] [0, 3])
   (.seq
    (.reg true [⟨(some 4), .al 0, none⟩,
      ⟨(some 5), .nck 4 0, none⟩,
      ⟨(some 6), .fldR 5 0 0, none⟩,
      ⟨(some 7), .fldR 6 0 0, none⟩,
      ⟨(some 8), .loadR 7 0 1 false, none⟩,
      ⟨(some 9), .fldB 3 0, none⟩,
      ⟨(some 10), .loadR 9 3 1 false, none⟩,
      ⟨(some 11), .bin .xor false (.t 8) (.t 10), none⟩,
      ⟨(some 12), .nck 4 0, none⟩,
      ⟨(some 13), .fldR 12 0 0, none⟩,
      ⟨(some 14), .fldR 13 0 0, none⟩,
      ⟨none, .stR 14 0 1 (.t 11), none⟩] [0, 3])
    (.seq
     (.reg true [⟨(some 15), .al 0, none⟩,
       ⟨(some 16), .nck 15 0, none⟩,
       ⟨(some 17), .fldR 16 0 0, none⟩,
       ⟨(some 18), .fldR 17 0 1, none⟩,
       ⟨(some 19), .loadR 18 0 1 false, none⟩,
       ⟨(some 20), .fldB 3 1, none⟩,
       ⟨(some 21), .loadR 20 3 1 false, none⟩,
       ⟨(some 22), .bin .xor false (.t 19) (.t 21), none⟩,
       ⟨(some 23), .nck 15 0, none⟩,
       ⟨(some 24), .fldR 23 0 0, none⟩,
       ⟨(some 25), .fldR 24 0 1, none⟩,
       ⟨none, .stR 25 0 1 (.t 22), none⟩] [0])
     (.reg true [⟨(some 26), .al 0, none⟩,
       ⟨(some 27), .al 0, none⟩,
       ⟨(some 28), .nck 27 0, none⟩,
       ⟨(some 29), .fldR 28 0 0, none⟩,
       ⟨(some 30), .loadR 29 0 2 true, none⟩,
       ⟨(some 31), .al 0, none⟩,
       ⟨(some 32), .nck 31 0, none⟩,
       ⟨(some 33), .fldR 32 0 2, none⟩,
       ⟨(some 34), .loadR 33 0 2 true, none⟩,
       ⟨(some 35), .call 21 [(false, (.t 30)), (false, (.t 34))], none⟩,
       ⟨(some 36), .nck 26 0, none⟩,
       ⟨(some 37), .fldR 36 0 0, none⟩,
       ⟨none, .stR 37 0 2 (.t 35), none⟩] [0]))))
def rs27 : List RS := []
/-- (*padlock/ghash.sum).feed -/
def rc26 : RC :=
  (.block 0
   (.loop
    (.seq
     (.seq
      (.reg false [⟨(some 6), .mov (.t 1), none⟩,
        ⟨(some 7), .len true (.t 6), none⟩,
        ⟨(some 8), .bin .gtr true (.t 7) (.c (.int .i64 0)), none⟩] [0, 1, 8])
      (.cond 8
       (.reg false [] [0, 1])
       (.seq
        (.reg false [] [0])
        (.exit 0))))
     (.block 1
      (.seq
       (.reg false [⟨(some 4), .alloc (List.replicate 16 (.int .u8 0)), none⟩] [0, 1, 4])
       (.seq
        (.reg false [⟨(some 9), .winB 4 1 16 none none, none⟩,
          ⟨(some 10), .mov (.t 1), none⟩,
          ⟨(some 11), .cpy 9 4 1 (.t 10), none⟩,
          ⟨(some 5), .mov (.t 11), none⟩] [0, 1, 4, 5])
        (.seq
         (.reg false [⟨(some 12), .mov (.t 1), none⟩,
           ⟨(some 13), .mov (.t 5), none⟩,
           ⟨(some 14), .ssl (.t 12) (some (.t 13)) none, none⟩,
           ⟨(some 1), .mov (.t 14), none⟩] [0, 1, 4])
         (.reg false [⟨(some 15), .al 0, none⟩,
           ⟨(some 16), .loadB 4 16 true, none⟩,
           ⟨(some 17), .call 20 [(false, (.t 16))], none⟩,
           ⟨(some 18), .callB 27 [(true, (.t 15)), (false, (.t 17))] 0, none⟩] [0, 1]))))))))
def rs26 : List RS := []
/-- padlock/ghash.Fold -/
def rc13 : RC :=
  (.seq
   (.reg false [⟨(some 3), .box (.t 0), none⟩,
     ⟨(some 4), .box (.t 1), none⟩,
     ⟨(some 6), .alloc (List.replicate 16 (.int .u8 0)), none⟩] [2, 3, 4, 6])
   (.seq
    (.reg false [⟨(some 8), .loadB 3 16 true, none⟩,
      ⟨(some 9), .loadB 4 16 true, none⟩,
      ⟨(some 10), .call 25 [(false, (.t 8)), (false, (.t 9))], none⟩,
      ⟨(some 7), .alloc [(.int .u64 0), (.int .u64 0), (.int .u64 0), (.int .u64 0)], none⟩,
      ⟨none, .stB 7 4 (.t 10), none⟩] [2, 6, 7])
    (.seq
     (.reg false [⟨(some 11), .mov (.t 2), none⟩,
       ⟨(some 12), .callB 26 [(true, (.t 7)), (false, (.t 11))] 7, none⟩] [6, 7])
     (.seq
      (.reg false [⟨(some 13), .fldB 7 0, none⟩,
        ⟨(some 14), .loadR 13 7 2 true, none⟩,
        ⟨(some 15), .call 22 [(false, (.t 14))], none⟩,
        ⟨none, .stB 6 16 (.t 15), none⟩] [6])
      .ret))))
def rs13 : List RS := [.cell 6 16 true]
/-- padlock/ghash.Sum -/
def rc15 : RC :=
  (.seq
   (.reg false [⟨(some 3), .box (.t 0), none⟩,
     ⟨(some 6), .alloc (List.replicate 16 (.int .u8 0)), none⟩] [1, 2, 3, 6])
   (.seq
    (.reg false [⟨(some 8), .loadB 3 16 true, none⟩,
      ⟨(some 9), .build (List.replicate 16 (.int .u8 0)) [], none⟩,
      ⟨(some 10), .call 25 [(false, (.t 8)), (false, (.t 9))], none⟩,
      ⟨(some 7), .alloc [(.int .u64 0), (.int .u64 0), (.int .u64 0), (.int .u64 0)], none⟩,
      ⟨none, .stB 7 4 (.t 10), none⟩] [1, 2, 6, 7])
    (.seq
     (.reg false [⟨(some 11), .mov (.t 1), none⟩,
       ⟨(some 12), .callB 26 [(true, (.t 7)), (false, (.t 11))] 7, none⟩] [1, 2, 6, 7])
     (.seq
      (.reg false [⟨(some 13), .mov (.t 2), none⟩,
        ⟨(some 14), .callB 26 [(true, (.t 7)), (false, (.t 13))] 7, none⟩] [1, 2, 6, 7])
      (.seq
       (.reg false [⟨(some 15), .mov (.t 1), none⟩,
         ⟨(some 16), .len true (.t 15), none⟩,
         ⟨(some 17), .conv true .u64 (.t 16), none⟩,
         ⟨(some 18), .bin .mul false (.c (.int .u64 8)) (.t 17), none⟩,
         ⟨(some 19), .mov (.t 2), none⟩,
         ⟨(some 20), .len true (.t 19), none⟩,
         ⟨(some 21), .conv true .u64 (.t 20), none⟩,
         ⟨(some 22), .bin .mul false (.c (.int .u64 8)) (.t 21), none⟩,
         ⟨(some 23), .build [(.int .u64 0), (.int .u64 0)] [(0, 1, (.t 18)), (1, 1, (.t 22))], none⟩,
         ⟨(some 24), .callB 27 [(true, (.t 7)), (false, (.t 23))] 7, none⟩] [6, 7])
       (.seq
        (.reg false [⟨(some 25), .fldB 7 0, none⟩,
          ⟨(some 26), .loadR 25 7 2 true, none⟩,
          ⟨(some 27), .call 22 [(false, (.t 26))], none⟩,
          ⟨none, .stB 6 16 (.t 27), none⟩] [6])
        .ret))))))
def rs15 : List RS := [.cell 6 16 true]
theorem pf17 (a : W) (b : W)  : PFx Try.prog 17 [.agg (vec8 16 (blk a)), .agg (vec8 16 (blk b))] (.agg (vec8 16 (blk (a ^^^ b)))) := by
  refine PFx_of_W (rc := rc17) (rs := rs17) Try.func17 rfl T16_ok hm (by kernel_rfl) (by kernel_rfl) (by simp [Try.ntmps17]) ?_
  simp [rc17, rs17, vec8_zero]
  refine W_forU 16 (fun _ => True) (fun k => [(2, .box (vec8 16 (upto k (blk (a ^^^ b)) (blk a)))), (6, .int .i64 k)]) trivial (by simp [upto_zero]) (fun k hk _ => ?_) fun _ => ?_
  · have hk' : (k : Int) < 16 := by omega
    have e : splice (vec8 16 (upto k (blk (a ^^^ b)) (blk a))) k [.int .u8 (bv (blk a k ^^^ blk b k))] = vec8 16 (upto (k + 1) (blk (a ^^^ b)) (blk a)) := by rw [← blk_xor]; exact upto_set 16 k (blk (a ^^^ b)) (blk a) hk
    simp [hk', hk, upto_at, bv_xor8, e, -splice]
    omega
  · simp [upto_all]
noncomputable def T17 : Tab := tabAdd T16 17 (fun _ : W × W => True) (fun z => [.agg (vec8 16 (blk z.1)), .agg (vec8 16 (blk z.2))]) (fun z => .agg (vec8 16 (blk (z.1 ^^^ z.2))))
@[simp] theorem T17_eq (a : W) (b : W)  : T17 17 [.agg (vec8 16 (blk a)), .agg (vec8 16 (blk b))] = some (.agg (vec8 16 (blk (a ^^^ b)))) := tabAdd_eq (a := (a, b)) (by rintro ⟨a, b⟩ ⟨a', b'⟩ h; simp at h ⊢; rw [h.1, h.2]) trivial rfl
@[simp] theorem T17_ne {g : Nat} {xs : List AV} (h : g ≠ 17) : T17 g xs = T16 g xs := tabAdd_ne h
theorem T17_ok : Sound Try.prog T17 := tabAdd_sound T16_ok fun z _ => pf17 z.1 z.2 
theorem or64_8 (x : BitVec 64) (y : BitVec 8) : bits .or .u64 (bv x) (bv y) = bv (x ||| y.setWidth 64) := by rw [bv_up 64 y (by decide), bv_or64]
theorem shl64_8 (x : BitVec 64) : IntKind.u64.wrap (bv x * 256) = bv (x <<< 8) := bv_shl64 x 8
theorem pf29 (f : Nat → BitVec 8)  : PFx Try.prog 29 [.agg (vec8 8 f)] (.int .u64 (bv (numK f 8))) := by
  refine PFx_of_W (rc := rc29) (rs := rs29) Try.func29 rfl T17_ok hm (by kernel_rfl) (by kernel_rfl) (by simp [Try.ntmps29]) ?_
  simp [rc29, rs29]
  refine W_forU 8 (fun _ => True) (fun k => [(3, .int .u64 (bv (numK f k))), (7, .int .i64 k)]) trivial (by simp [numK, bv]) (fun k hk _ => ?_) fun _ => ?_
  · have hk' : (k : Int) < 8 := by omega
    have hb := b_lt (f k)
    have e := bv_shl64 (numK f k) 8
    simp [hk', hk, e, or64_8, numK]
    omega
  · simp
noncomputable def T29 : Tab := tabAdd T17 29 (fun _ : (Nat → BitVec 8) => True) (fun z => [.agg (vec8 8 z)]) (fun z => .int .u64 (bv (numK z 8)))
@[simp] theorem T29_eq (f : Nat → BitVec 8)  : T29 29 [.agg (vec8 8 f)] = some (.int .u64 (bv (numK f 8))) := tabAdd_eq (a := f) (by intro f g h; simp at h ⊢; exact numK_ext h) trivial rfl
@[simp] theorem T29_ne {g : Nat} {xs : List AV} (h : g ≠ 29) : T29 g xs = T17 g xs := tabAdd_ne h
theorem T29_ok : Sound Try.prog T29 := tabAdd_sound T17_ok fun z _ => pf29 z 
theorem pf20 (a : W)  : PFx Try.prog 20 [.agg (vec8 16 (blk a))] (.agg [.int .u64 (bv (lo a)), .int .u64 (bv (hi a))]) := by
  refine PFx_of_W (rc := rc20) (rs := rs20) Try.func20 rfl T29_ok hm (by kernel_rfl) (by kernel_rfl) (by simp [Try.ntmps20]) ?_
  simp [rc20, rs20, numK_lo, numK_hi]
noncomputable def T20 : Tab := tabAdd T29 20 (fun _ : W => True) (fun z => [.agg (vec8 16 (blk z))]) (fun z => .agg [.int .u64 (bv (lo z)), .int .u64 (bv (hi z))])
@[simp] theorem T20_eq (a : W)  : T20 20 [.agg (vec8 16 (blk a))] = some (.agg [.int .u64 (bv (lo a)), .int .u64 (bv (hi a))]) := tabAdd_eq (a := a) (by intro a b h; simp at h ⊢; rw [h]; simp) trivial rfl
@[simp] theorem T20_ne {g : Nat} {xs : List AV} (h : g ≠ 20) : T20 g xs = T29 g xs := tabAdd_ne h
theorem T20_ok : Sound Try.prog T20 := tabAdd_sound T29_ok fun z _ => pf20 z 
theorem pf24 (a : W) (i : Nat) (h : i < 128) : PFx Try.prog 24 [.agg [.int .u64 (bv (lo a)), .int .u64 (bv (hi a))], .int .i64 i] (.bool (a.getLsbD i)) := by
  refine PFx_of_W (rc := rc24) (rs := rs24) Try.func24 rfl T20_ok hm (by kernel_rfl) (by kernel_rfl) (by simp [Try.ntmps24]) ?_
  by_cases h64 : i < 64
  · have h64' : (i : Int) < 64 := by omega
    simp [rc24, rs24, h64, h64', bv_shl64, bv_shr64, eq_lit, lo_at a i h64]
  · have h64' : ¬ (i : Int) < 64 := by omega
    have s : (i : Int) - 64 = ((i - 64 : Nat) : Int) := by omega
    have e := hi_at a (i - 64) (by omega)
    rw [show 64 + (i - 64) = i by omega] at e
    simp [rc24, rs24, h64, h64', s, bv_shl64, bv_shr64, eq_lit, e]
    omega
noncomputable def T24 : Tab := tabAdd T20 24 (fun z : W × Nat => z.2 < 128) (fun z => [.agg [.int .u64 (bv (lo z.1)), .int .u64 (bv (hi z.1))], .int .i64 z.2]) (fun z => .bool (z.1.getLsbD z.2))
@[simp] theorem T24_eq (a : W) (i : Nat) (h : i < 128) : T24 24 [.agg [.int .u64 (bv (lo a)), .int .u64 (bv (hi a))], .int .i64 i] = some (.bool (a.getLsbD i)) := tabAdd_eq (a := (a, i)) (by rintro ⟨a, i⟩ ⟨a', i'⟩ h; simp [Int.natCast_inj] at h ⊢; rw [lohi_inj h.1.1 h.1.2, h.2]) h rfl
@[simp] theorem T24_ne {g : Nat} {xs : List AV} (h : g ≠ 24) : T24 g xs = T20 g xs := tabAdd_ne h
theorem T24_ok : Sound Try.prog T24 := tabAdd_sound T20_ok fun z h => pf24 z.1 z.2 h
theorem min0 : min 0 3 = 0 := rfl
theorem pf30 (a : W)  : PFx Try.prog 30 [.agg [.int .u64 (bv (lo a)), .int .u64 (bv (hi a))]] (.agg [.int .u64 (bv (lo (dbl a))), .int .u64 (bv (hi (dbl a)))]) := by
  refine PFx_of_W (rc := rc30) (rs := rs30) Try.func30 rfl T24_ok hm (by kernel_rfl) (by kernel_rfl) (by simp [Try.ntmps30]) ?_
  have c : T24 24 [.agg [.int .u64 (bv (lo a)), .int .u64 (bv (hi a))], .int .i64 127] = some (.bool (a.getLsbD 127)) := T24_eq a 127 (by decide)
  by_cases h : a.getLsbD 127 = true
  · simp [rc30, rs30, c, lo_dbl, hi_dbl, h, bv_shr64, bv_shl64, bv_or64, xor64_lit, -BitVec.getLsbD_eq_getElem]
  · simp [rc30, rs30, c, lo_dbl, hi_dbl, h, bv_shr64, bv_shl64, bv_or64, xor64_lit, -BitVec.getLsbD_eq_getElem]
noncomputable def T30 : Tab := tabAdd T24 30 (fun _ : W => True) (fun z => [.agg [.int .u64 (bv (lo z)), .int .u64 (bv (hi z))]]) (fun z => .agg [.int .u64 (bv (lo (dbl z))), .int .u64 (bv (hi (dbl z)))])
@[simp] theorem T30_eq (a : W)  : T30 30 [.agg [.int .u64 (bv (lo a)), .int .u64 (bv (hi a))]] = some (.agg [.int .u64 (bv (lo (dbl a))), .int .u64 (bv (hi (dbl a)))]) := tabAdd_eq (a := a) (by intro a b h; simp at h ⊢; rw [lohi_inj h.1 h.2]; simp) trivial rfl
@[simp] theorem T30_ne {g : Nat} {xs : List AV} (h : g ≠ 30) : T30 g xs = T24 g xs := tabAdd_ne h
theorem T30_ok : Sound Try.prog T30 := tabAdd_sound T24_ok fun z _ => pf30 z 
theorem pf21 (a : W) (b : W)  : PFx Try.prog 21 [.agg [.int .u64 (bv (lo a)), .int .u64 (bv (hi a))], .agg [.int .u64 (bv (lo b)), .int .u64 (bv (hi b))]] (.agg [.int .u64 (bv (lo (mul a b))), .int .u64 (bv (hi (mul a b)))]) := by
  refine PFx_of_W (rc := rc21) (rs := rs21) Try.func21 rfl T30_ok hm (by kernel_rfl) (by kernel_rfl) (by simp [Try.ntmps21]) ?_
  simp [rc21, rs21]
  refine W_forU 128 (fun _ => True) (fun k => [(3, .box [.int .u64 (bv (lo (dbls k b))), .int .u64 (bv (hi (dbls k b)))]), (5, .box [.int .u64 (bv (lo (prodK a b k))), .int .u64 (bv (hi (prodK a b k)))]), (7, .int .i64 k)]) trivial (by simp [dbls, prodK, sm, lo_zero, hi_zero, bv]) (fun k hk _ => ?_) fun _ => ?_
  · have hk' : (k : Int) < 128 := by omega
    have e1 : dbls (k + 1) b = dbl (dbls k b) := rfl
    by_cases h : a.getLsbD k = true
    · have e2 : prodK a b (k + 1) = prodK a b k ^^^ dbls k b := by
        show prodK a b k ^^^ (if a.getLsbD k then dbls k b else 0#128) = _
        rw [if_pos h]
      simp [hk', hk, h, e1, e2, lo_xor, hi_xor, bv_xor64, -BitVec.getLsbD_eq_getElem]
      omega
    · have e2 : prodK a b (k + 1) = prodK a b k := by
        show prodK a b k ^^^ (if a.getLsbD k then dbls k b else 0#128) = _
        rw [if_neg h]; simp
      simp [hk', hk, h, e1, e2, -BitVec.getLsbD_eq_getElem]
      omega
  · simp [prodK_end]
noncomputable def T21 : Tab := tabAdd T30 21 (fun _ : W × W => True) (fun z => [.agg [.int .u64 (bv (lo z.1)), .int .u64 (bv (hi z.1))], .agg [.int .u64 (bv (lo z.2)), .int .u64 (bv (hi z.2))]]) (fun z => .agg [.int .u64 (bv (lo (mul z.1 z.2))), .int .u64 (bv (hi (mul z.1 z.2)))])
@[simp] theorem T21_eq (a : W) (b : W)  : T21 21 [.agg [.int .u64 (bv (lo a)), .int .u64 (bv (hi a))], .agg [.int .u64 (bv (lo b)), .int .u64 (bv (hi b))]] = some (.agg [.int .u64 (bv (lo (mul a b))), .int .u64 (bv (hi (mul a b)))]) := tabAdd_eq (a := (a, b)) (by rintro ⟨a, b⟩ ⟨a', b'⟩ h; simp at h ⊢; rw [lohi_inj h.1.1 h.1.2, lohi_inj h.2.1 h.2.2]; simp) trivial rfl
@[simp] theorem T21_ne {g : Nat} {xs : List AV} (h : g ≠ 21) : T21 g xs = T30 g xs := tabAdd_ne h
theorem T21_ok : Sound Try.prog T21 := tabAdd_sound T30_ok fun z _ => pf21 z.1 z.2 
/-- Both halves of the bytes, as far as k. -/
def two (a : W) (k i : Nat) : BitVec 8 := if i % 8 < k then blk a i else 0#8
theorem two_0 (a : W) : two a 0 = fun _ => 0#8 := by funext i; simp [two]
theorem two_8 (a : W) : two a 8 = blk a := by funext i; unfold two; rw [if_pos (Nat.mod_lt _ (by decide))]
theorem two_set (a : W) (k : Nat) (h : k < 8) : splice (splice (vec8 16 (two a k)) k [.int .u8 (bv (blk a k))]) (k + 8) [.int .u8 (bv (blk a (8 + k)))] = vec8 16 (two a (k + 1)) := by
  rw [vec8_set 16 k _ _ (by omega), vec8_set 16 (k + 8) _ _ (by omega)]
  refine vec8_ext fun i hi => ?_
  unfold two
  by_cases e : i = k + 8
  · subst e; rw [if_pos rfl, if_pos (by omega), Nat.add_comm]
  · rw [if_neg e]
    by_cases e1 : i = k
    · subst e1; rw [if_pos rfl, if_pos (by omega)]
    · rw [if_neg e1]
      by_cases h1 : i % 8 < k
      · rw [if_pos h1, if_pos (by omega)]
      · rw [if_neg h1, if_neg (by omega)]
theorem pf22 (a : W)  : PFx Try.prog 22 [.agg [.int .u64 (bv (lo a)), .int .u64 (bv (hi a))]] (.agg (vec8 16 (blk a))) := by
  refine PFx_of_W (rc := rc22) (rs := rs22) Try.func22 rfl T21_ok hm (by kernel_rfl) (by kernel_rfl) (by simp [Try.ntmps22]) ?_
  simp [rc22, rs22, vec8_zero]
  refine W_forU 8 (fun _ => True) (fun k => [(3, .box (vec8 16 (two a k))), (5, .int .i64 k)]) trivial (by simp [two_0]) (fun k hk _ => ?_) fun _ => ?_
  · have hk' : (k : Int) < 8 := by omega
    have s : (56 : Int) - ((8 * k : Nat) : Int) = ((56 - 8 * k : Nat) : Int) := by omega
    have e := two_set a k hk
    have el : (splice (vec8 16 (two a k)) k [.int .u8 (bv (blk a k))]).length = 16 := by rw [vec8_set 16 k _ _ (by omega), vec8_len]
    have b1 := byte_lo a k hk
    have b2 := byte_hi a k hk
    have q1 : k < 16 := by omega
    have q2 : k + 8 < 16 := by omega
    have q1' : (k : Int) < 16 := by omega
    have q2' : ((k + 8 : Nat) : Int) < 16 := by omega
    have q3 : ((56 - 8 * k : Nat) : Int) ≤ 9223372036854775807 := by omega
    simp [hk', hk, cast_muln, cast_addn, s, q1, q2, q1', q2', q3, bv_shr64, bv_dn8, b1, b2, e, el, -splice, -Int.natCast_mul, -Int.natCast_add]
    omega
  · simp [two_8]
noncomputable def T22 : Tab := tabAdd T21 22 (fun _ : W => True) (fun z => [.agg [.int .u64 (bv (lo z)), .int .u64 (bv (hi z))]]) (fun z => .agg (vec8 16 (blk z)))
@[simp] theorem T22_eq (a : W)  : T22 22 [.agg [.int .u64 (bv (lo a)), .int .u64 (bv (hi a))]] = some (.agg (vec8 16 (blk a))) := tabAdd_eq (a := a) (by intro a b h; simp at h ⊢; exact lohi_inj h.1 h.2) trivial rfl
@[simp] theorem T22_ne {g : Nat} {xs : List AV} (h : g ≠ 22) : T22 g xs = T21 g xs := tabAdd_ne h
theorem T22_ok : Sound Try.prog T22 := tabAdd_sound T21_ok fun z _ => pf22 z 
theorem num_one : T22 22 [.agg [.int .u64 9223372036854775808, .int .u64 0]] = some (.agg (vec8 16 (blk 1#128))) := by
  have c := T22_eq 1#128
  rw [lo_one, hi_one] at c
  exact c
theorem pf18   : PFx Try.prog 18 [] (.agg (vec8 16 (blk 1#128))) := by
  refine PFx_of_W (rc := rc18) (rs := rs18) Try.func18 rfl T22_ok hm (by kernel_rfl) (by kernel_rfl) (by simp [Try.ntmps18]) ?_
  simp [rc18, rs18, vec8_zero, num_one]
noncomputable def T18 : Tab := tabAdd T22 18 (fun _ : Unit => True) (fun _ => []) (fun _ => .agg (vec8 16 (blk 1#128)))
@[simp] theorem T18_eq   : T18 18 [] = some (.agg (vec8 16 (blk 1#128))) := tabAdd_eq (a := ()) (by simp +contextual [Int.natCast_inj]) trivial rfl
@[simp] theorem T18_ne {g : Nat} {xs : List AV} (h : g ≠ 18) : T18 g xs = T22 g xs := tabAdd_ne h
theorem T18_ok : Sound Try.prog T18 := tabAdd_sound T22_ok fun _ _ => pf18  
theorem pf8 (a : W) (b : W)  : PFx Try.prog 8 [.agg (vec8 16 (blk a)), .agg (vec8 16 (blk b))] (.agg (vec8 16 (blk (mul a b)))) := by
  refine PFx_of_W (rc := rc8) (rs := rs8) Try.func8 rfl T18_ok hm (by kernel_rfl) (by kernel_rfl) (by simp [Try.ntmps8]) ?_
  simp [rc8, rs8, vec8_zero]
noncomputable def T8 : Tab := tabAdd T18 8 (fun _ : W × W => True) (fun z => [.agg (vec8 16 (blk z.1)), .agg (vec8 16 (blk z.2))]) (fun z => .agg (vec8 16 (blk (mul z.1 z.2))))
@[simp] theorem T8_eq (a : W) (b : W)  : T8 8 [.agg (vec8 16 (blk a)), .agg (vec8 16 (blk b))] = some (.agg (vec8 16 (blk (mul a b)))) := tabAdd_eq (a := (a, b)) (by rintro ⟨a, b⟩ ⟨a', b'⟩ h; simp at h ⊢; rw [h.1, h.2]) trivial rfl
@[simp] theorem T8_ne {g : Nat} {xs : List AV} (h : g ≠ 8) : T8 g xs = T18 g xs := tabAdd_ne h
theorem T8_ok : Sound Try.prog T8 := tabAdd_sound T18_ok fun z _ => pf8 z.1 z.2 
def powI (h : W) (n : Int) : W := pw h (min n 65536).toNat
theorem pf19 (h : W) (n : Int)  : PFx Try.prog 19 [.agg (vec8 16 (blk h)), .int .i64 n] (.agg (vec8 16 (blk (powI h n)))) := by
  refine PFx_of_W (rc := rc19) (rs := rs19) Try.func19 rfl T8_ok hm (by kernel_rfl) (by kernel_rfl) (by simp [Try.ntmps19]) ?_
  have hm : (if (65536 : Int) < n then (65536 : Int) else n) = min n 65536 := by split <;> omega
  simp [rc19, rs19, vec8_zero, hm]
  refine W_varU (fun s : W × W × Int => mul s.1 (pw s.2.1 s.2.2.toNat) = powI h n ∧ s.2.2 ≤ 65536) (fun s => s.2.2.toNat) (fun s => [(1, .int .i64 s.2.2), (5, .box [.int .u64 (bv (lo s.1)), .int .u64 (bv (hi s.1))]), (6, .box [.int .u64 (bv (lo s.2.1)), .int .u64 (bv (hi s.2.1))])]) (1#128, h, min n 65536) ⟨one_mul _, Int.min_le_right ..⟩ (by simp) (fun s hs => ?_)
  obtain ⟨p, x, m⟩ := s
  obtain ⟨h1, h2⟩ := hs
  simp only at h1 h2
  by_cases h0 : 0 < m
  · obtain ⟨m, rfl⟩ : ∃ k : Nat, m = k := ⟨m.toNat, by omega⟩
    have t2 : ((m : Nat) : Int).fdiv (2 ^ min 1 IntKind.i64.bits) = ((m / 2 : Nat) : Int) := by rw [show (2 : Int) ^ min 1 IntKind.i64.bits = 2 from rfl, Int.fdiv_eq_ediv_of_nonneg _ (by decide)]; omega
    have r2 : bits .and .i64 (m : Int) 1 = ((m % 2 : Nat) : Int) := by
      have := i64_and_nat m 1 (by omega) (by decide)
      rw [Nat.and_one_is_mod] at this
      exact this
    have r3 : (((m % 2 : Nat) : Int) = 1) = (m % 2 = 1) := by apply propext; omega
    have hh := pw_half x m
    simp only [Int.toNat_natCast] at h1
    have hp : 0 < m := by omega
    by_cases hb : m % 2 = 1
    · rw [hb, pw_one] at hh
      simp [hp, t2, r2, r3, hb, -Int.natCast_emod, -Int.natCast_ediv]
      exact ⟨mul p x, mul x x, ((m / 2 : Nat) : Int), ⟨by rw [Int.toNat_natCast, ← h1, hh, mul_assoc], by omega⟩, by omega, rfl, ⟨rfl, rfl⟩, rfl, rfl⟩
    · have hb' : m % 2 = 0 := by omega
      rw [hb'] at hh
      simp [hp, t2, r2, r3, hb, hb', -Int.natCast_emod, -Int.natCast_ediv]
      exact ⟨p, mul x x, ((m / 2 : Nat) : Int), ⟨by rw [Int.toNat_natCast, ← h1, hh, pw, one_mul], by omega⟩, by omega, rfl, ⟨rfl, rfl⟩, rfl, rfl⟩
  · rw [show m.toNat = 0 by omega, pw, mul_one] at h1
    simp [h0, h1]
noncomputable def T19 : Tab := tabAdd T8 19 (fun _ : W × Int => True) (fun z => [.agg (vec8 16 (blk z.1)), .int .i64 z.2]) (fun z => .agg (vec8 16 (blk (powI z.1 z.2))))
@[simp] theorem T19_eq (h : W) (n : Int)  : T19 19 [.agg (vec8 16 (blk h)), .int .i64 n] = some (.agg (vec8 16 (blk (powI h n)))) := tabAdd_eq (a := (h, n)) (by rintro ⟨a, b⟩ ⟨a', b'⟩ h; simp at h ⊢; rw [h.1, h.2]) trivial rfl
@[simp] theorem T19_ne {g : Nat} {xs : List AV} (h : g ≠ 19) : T19 g xs = T8 g xs := tabAdd_ne h
theorem T19_ok : Sound Try.prog T19 := tabAdd_sound T8_ok fun z _ => pf19 z.1 z.2 
theorem pf10 (a : W) (i : Int)  : PFx Try.prog 10 [.agg (vec8 16 (blk a)), .int .i64 i] (.bool (bitI a i)) := by
  refine PFx_of_W (rc := rc10) (rs := rs10) Try.func10 rfl T19_ok hm (by kernel_rfl) (by kernel_rfl) (by simp [Try.ntmps10]) ?_
  by_cases h0 : 0 ≤ i
  · obtain ⟨n, rfl⟩ : ∃ n : Nat, i = n := ⟨i.toNat, by omega⟩
    by_cases h1 : n < 128
    · have h1' : (n : Int) < 128 := by omega
      have hb : bitI a (n : Int) = a.getLsbD n := by simp [bitI]
      simp [rc10, rs10, h0, h1, h1', hb]
    · have h1' : ¬ (n : Int) < 128 := by omega
      have hb : bitI a (n : Int) = false := by simp [bitI]; exact BitVec.getLsbD_of_ge _ _ (by omega)
      simp [rc10, rs10, h0, h1, h1', hb]
  · have hb : bitI a i = false := by simp [bitI, h0]
    simp [rc10, rs10, h0, hb]
noncomputable def T10 : Tab := tabAdd T19 10 (fun _ : W × Int => True) (fun z => [.agg (vec8 16 (blk z.1)), .int .i64 z.2]) (fun z => .bool (bitI z.1 z.2))
@[simp] theorem T10_eq (a : W) (i : Int)  : T10 10 [.agg (vec8 16 (blk a)), .int .i64 i] = some (.bool (bitI a i)) := tabAdd_eq (a := (a, i)) (by rintro ⟨a, i⟩ ⟨a', i'⟩ h; simp at h ⊢; rw [h.1, h.2]) trivial rfl
@[simp] theorem T10_ne {g : Nat} {xs : List AV} (h : g ≠ 10) : T10 g xs = T19 g xs := tabAdd_ne h
theorem T10_ok : Sound Try.prog T10 := tabAdd_sound T19_ok fun z _ => pf10 z.1 z.2 
theorem pf25 (h : W) (s : W)  : PFx Try.prog 25 [.agg (vec8 16 (blk h)), .agg (vec8 16 (blk s))] (.agg [.int .u64 (bv (lo s)), .int .u64 (bv (hi s)), .int .u64 (bv (lo h)), .int .u64 (bv (hi h))]) := by
  refine PFx_of_W (rc := rc25) (rs := rs25) Try.func25 rfl T10_ok hm (by kernel_rfl) (by kernel_rfl) (by simp [Try.ntmps25]) ?_
  simp [rc25, rs25, vec8_zero]
noncomputable def T25 : Tab := tabAdd T10 25 (fun _ : W × W => True) (fun z => [.agg (vec8 16 (blk z.1)), .agg (vec8 16 (blk z.2))]) (fun z => .agg [.int .u64 (bv (lo z.2)), .int .u64 (bv (hi z.2)), .int .u64 (bv (lo z.1)), .int .u64 (bv (hi z.1))])
@[simp] theorem T25_eq (h : W) (s : W)  : T25 25 [.agg (vec8 16 (blk h)), .agg (vec8 16 (blk s))] = some (.agg [.int .u64 (bv (lo s)), .int .u64 (bv (hi s)), .int .u64 (bv (lo h)), .int .u64 (bv (hi h))]) := tabAdd_eq (a := (h, s)) (by rintro ⟨a, b⟩ ⟨a', b'⟩ h; simp at h ⊢; rw [h.1, h.2]; simp) trivial rfl
@[simp] theorem T25_ne {g : Nat} {xs : List AV} (h : g ≠ 25) : T25 g xs = T10 g xs := tabAdd_ne h
theorem T25_ok : Sound Try.prog T25 := tabAdd_sound T10_ok fun z _ => pf25 z.1 z.2 
theorem pf27B (h : W) (s : W) (b : W)  : PFb Try.prog 27 [.box [.int .u64 (bv (lo s)), .int .u64 (bv (hi s)), .int .u64 (bv (lo h)), .int .u64 (bv (hi h))], .agg [.int .u64 (bv (lo b)), .int .u64 (bv (hi b))]] (.tup []) (.box [.int .u64 (bv (lo (mul (s ^^^ b) h))), .int .u64 (bv (hi (mul (s ^^^ b) h))), .int .u64 (bv (lo h)), .int .u64 (bv (hi h))]) := by
  refine PFb_of_W (rc := rc27) (rs := rs27) 0 Try.func27 rfl T25_ok hm (by kernel_rfl) (by kernel_rfl) rfl (by simp [Try.ntmps27]) rfl rfl ?_
  simp [rc27, rs27, bv_xor64, ← lo_xor, ← hi_xor]
noncomputable def T27B : Tab := tabAdd T25 (27 + inPlace) (fun _ : W × W × W => True) (fun z => [.box [.int .u64 (bv (lo z.2.1)), .int .u64 (bv (hi z.2.1)), .int .u64 (bv (lo z.1)), .int .u64 (bv (hi z.1))], .agg [.int .u64 (bv (lo z.2.2)), .int .u64 (bv (hi z.2.2))]]) (fun z => .tup [.tup [], .box [.int .u64 (bv (lo (mul (z.2.1 ^^^ z.2.2) z.1))), .int .u64 (bv (hi (mul (z.2.1 ^^^ z.2.2) z.1))), .int .u64 (bv (lo z.1)), .int .u64 (bv (hi z.1))]])
@[simp] theorem T27B_eq (h : W) (s : W) (b : W)  : T27B (27 + inPlace) [.box [.int .u64 (bv (lo s)), .int .u64 (bv (hi s)), .int .u64 (bv (lo h)), .int .u64 (bv (hi h))], .agg [.int .u64 (bv (lo b)), .int .u64 (bv (hi b))]] = some (.tup [.tup [], .box [.int .u64 (bv (lo (mul (s ^^^ b) h))), .int .u64 (bv (hi (mul (s ^^^ b) h))), .int .u64 (bv (lo h)), .int .u64 (bv (hi h))]]) := tabAdd_eq (a := (h, s, b)) (by rintro ⟨a, b, c⟩ ⟨a', b', c'⟩ h; simp at h ⊢; obtain ⟨⟨h1, h2, h3, h4⟩, h5, h6⟩ := h; rw [lohi_inj h1 h2, lohi_inj h3 h4, lohi_inj h5 h6]; simp) trivial rfl
@[simp] theorem T27B_ne {g : Nat} {xs : List AV} (h : g ≠ 27 + inPlace) : T27B g xs = T25 g xs := tabAdd_ne h
theorem T27B_ok : Sound Try.prog T27B := tabAdd_soundB T25_ok fun z _ => pf27B z.1 z.2.1 z.2.2 
theorem blks_step {l : List UInt8} (h : 0 < l.length) : blks l = pol (tx l) :: blks (l.drop 16) := blks_cons (List.length_pos_iff.1 h)
/-- A text's first bytes, laid over a block of zeros. -/
theorem laid (l : List UInt8) : splice (vec8 16 fun _ => 0#8) 0 ((bytesAV l).take (min 16 l.length)) = vec8 16 (blk (pol (tx l))) := by
  have e : (bytesAV l).take (min 16 l.length) = vec8 (min 16 l.length) (tx l) := by
    rw [bytes_vec, vec8_take _ _ _ (Nat.min_le_right ..)]; rfl
  rw [e, vec8_splice 16 0 _ _ _ (by omega)]
  refine vec8_ext fun i hi => ?_
  rw [blk_pol _ _ hi]
  by_cases h : i < l.length
  · rw [if_pos (by omega)]; rfl
  · rw [if_neg (by omega)]
    unfold tx
    rw [List.getD_eq_getElem?_getD, List.getElem?_eq_none (by omega)]; rfl
theorem drop_min (l : List UInt8) : l.drop (min 16 l.length) = l.drop 16 := by
  by_cases h : 16 ≤ l.length
  · rw [Nat.min_eq_left h]
  · rw [Nat.min_eq_right (by omega), List.drop_length, List.drop_eq_nil_of_le (by omega)]
theorem pf26B (g : W) (s : W) (l : List UInt8) (h : l.length ≤ 1000000) : PFb Try.prog 26 [.box [.int .u64 (bv (lo s)), .int .u64 (bv (hi s)), .int .u64 (bv (lo g)), .int .u64 (bv (hi g))], .str l] (.tup []) (.box [.int .u64 (bv (lo (fold g s (blks l)))), .int .u64 (bv (hi (fold g s (blks l)))), .int .u64 (bv (lo g)), .int .u64 (bv (hi g))]) := by
  refine PFb_of_W (rc := rc26) (rs := rs26) 0 Try.func26 rfl T27B_ok hm (by kernel_rfl) (by kernel_rfl) rfl (by simp [Try.ntmps26]) rfl rfl ?_
  simp [rc26, rs26, vec8_zero]
  refine W_varU (fun q : List UInt8 × W => fold g q.2 (blks q.1) = fold g s (blks l) ∧ q.1.length ≤ l.length) (fun q => q.1.length) (fun q => [(0, .box [.int .u64 (bv (lo q.2)), .int .u64 (bv (hi q.2)), .int .u64 (bv (lo g)), .int .u64 (bv (hi g))]), (1, .str q.1)]) (l, s) ⟨rfl, Nat.le_refl _⟩ (by simp) (fun q hq => ?_)
  obtain ⟨m, t⟩ := q
  obtain ⟨h1, h2⟩ := hq
  simp only at h1 h2
  by_cases h0 : 0 < m.length
  · have h0' : (0 : Int) < (m.length : Int) := by omega
    have e := laid m
    have d := drop_min m
    have hb := blks_step h0
    have mn : ((min 16 m.length : Nat) : Int) ≤ (m.length : Int) := by omega
    simp [h0, h0', vec8_zero, e, d, mn, -splice, -List.reduceReplicate]
    exact ⟨m.drop 16, mul (t ^^^ pol (tx m)) g, ⟨by rw [← h1, hb]; rfl, by rw [List.length_drop]; omega⟩, by rw [List.length_drop]; omega, ⟨rfl, rfl⟩, rfl⟩
  · have hm : m = [] := List.eq_nil_of_length_eq_zero (by omega)
    subst hm
    have h1' : t = fold g s (blks l) := h1
    simp [h1']
noncomputable def T26B : Tab := tabAdd T27B (26 + inPlace) (fun z : W × W × (List UInt8) => z.2.2.length ≤ 1000000) (fun z => [.box [.int .u64 (bv (lo z.2.1)), .int .u64 (bv (hi z.2.1)), .int .u64 (bv (lo z.1)), .int .u64 (bv (hi z.1))], .str z.2.2]) (fun z => .tup [.tup [], .box [.int .u64 (bv (lo (fold z.1 z.2.1 (blks z.2.2)))), .int .u64 (bv (hi (fold z.1 z.2.1 (blks z.2.2)))), .int .u64 (bv (lo z.1)), .int .u64 (bv (hi z.1))]])
@[simp] theorem T26B_eq (g : W) (s : W) (l : List UInt8) (h : l.length ≤ 1000000) : T26B (26 + inPlace) [.box [.int .u64 (bv (lo s)), .int .u64 (bv (hi s)), .int .u64 (bv (lo g)), .int .u64 (bv (hi g))], .str l] = some (.tup [.tup [], .box [.int .u64 (bv (lo (fold g s (blks l)))), .int .u64 (bv (hi (fold g s (blks l)))), .int .u64 (bv (lo g)), .int .u64 (bv (hi g))]]) := tabAdd_eq (a := (g, s, l)) (by rintro ⟨a, b, c⟩ ⟨a', b', c'⟩ h; simp at h ⊢; obtain ⟨⟨h1, h2, h3, h4⟩, h5⟩ := h; rw [lohi_inj h1 h2, lohi_inj h3 h4, h5]; simp) h rfl
@[simp] theorem T26B_ne {g : Nat} {xs : List AV} (h : g ≠ 26 + inPlace) : T26B g xs = T27B g xs := tabAdd_ne h
theorem T26B_ok : Sound Try.prog T26B := tabAdd_soundB T27B_ok fun z h => pf26B z.1 z.2.1 z.2.2 h
theorem pf13 (g : W) (s : W) (l : List UInt8) (h : l.length ≤ 1000000) : PFx Try.prog 13 [.agg (vec8 16 (blk g)), .agg (vec8 16 (blk s)), .str l] (.agg (vec8 16 (blk (fold g s (blks l))))) := by
  refine PFx_of_W (rc := rc13) (rs := rs13) Try.func13 rfl T26B_ok hm (by kernel_rfl) (by kernel_rfl) (by simp [Try.ntmps13]) ?_
  simp [rc13, rs13, vec8_zero, h]
noncomputable def T13 : Tab := tabAdd T26B 13 (fun z : W × W × (List UInt8) => z.2.2.length ≤ 1000000) (fun z => [.agg (vec8 16 (blk z.1)), .agg (vec8 16 (blk z.2.1)), .str z.2.2]) (fun z => .agg (vec8 16 (blk (fold z.1 z.2.1 (blks z.2.2)))))
@[simp] theorem T13_eq (g : W) (s : W) (l : List UInt8) (h : l.length ≤ 1000000) : T13 13 [.agg (vec8 16 (blk g)), .agg (vec8 16 (blk s)), .str l] = some (.agg (vec8 16 (blk (fold g s (blks l))))) := tabAdd_eq (a := (g, s, l)) (by rintro ⟨a, b, c⟩ ⟨a', b', c'⟩ h; simp at h ⊢; rw [h.1, h.2.1, h.2.2]) h rfl
@[simp] theorem T13_ne {g : Nat} {xs : List AV} (h : g ≠ 13) : T13 g xs = T26B g xs := tabAdd_ne h
theorem T13_ok : Sound Try.prog T13 := tabAdd_sound T26B_ok fun z h => pf13 z.1 z.2.1 z.2.2 h
theorem lens_lo (n m : Nat) : lo (lens n m) = BitVec.ofNat 64 n := by rw [lens_mk, lo_mk]
theorem lens_hi (n m : Nat) : hi (lens n m) = BitVec.ofNat 64 m := by rw [lens_mk, hi_mk]
theorem pf15 (g : W) (ad : List UInt8) (t : List UInt8) (h : ad.length ≤ 100000 ∧ t.length ≤ 100000) : PFx Try.prog 15 [.agg (vec8 16 (blk g)), .str ad, .str t] (.agg (vec8 16 (blk (sumT g ad t)))) := by
  refine PFx_of_W (rc := rc15) (rs := rs15) Try.func15 rfl T13_ok hm (by kernel_rfl) (by kernel_rfl) (by simp [Try.ntmps15]) ?_
  obtain ⟨h1, h2⟩ := h
  have z : vec8 16 (fun _ => 0#8) = vec8 16 (blk 0#128) := vec8_ext fun i _ => (blk_zero i).symm
  have w1 : IntKind.u64.wrap ((8 * ad.length : Nat) : Int) = bv (lo (lens (8 * ad.length) (8 * t.length))) := by rw [lens_lo, bv_wrap64]
  have w2 : IntKind.u64.wrap ((8 * t.length : Nat) : Int) = bv (hi (lens (8 * ad.length) (8 * t.length))) := by rw [lens_hi, bv_wrap64]
  simp [rc15, rs15, vec8_zero, z, cast_muln, show ad.length ≤ 1000000 by omega, show t.length ≤ 1000000 by omega, w1, w2, sumT, fold, -vec8_inj, -Int.natCast_mul]
  omega
noncomputable def T15 : Tab := tabAdd T13 15 (fun z : W × (List UInt8) × (List UInt8) => z.2.1.length ≤ 100000 ∧ z.2.2.length ≤ 100000) (fun z => [.agg (vec8 16 (blk z.1)), .str z.2.1, .str z.2.2]) (fun z => .agg (vec8 16 (blk (sumT z.1 z.2.1 z.2.2))))
@[simp] theorem T15_eq (g : W) (ad : List UInt8) (t : List UInt8) (h : ad.length ≤ 100000 ∧ t.length ≤ 100000) : T15 15 [.agg (vec8 16 (blk g)), .str ad, .str t] = some (.agg (vec8 16 (blk (sumT g ad t)))) := tabAdd_eq (a := (g, ad, t)) (by rintro ⟨a, b, c⟩ ⟨a', b', c'⟩ h; simp at h ⊢; rw [h.1, h.2.1, h.2.2]) h rfl
@[simp] theorem T15_ne {g : Nat} {xs : List AV} (h : g ≠ 15) : T15 g xs = T13 g xs := tabAdd_ne h
theorem T15_ok : Sound Try.prog T15 := tabAdd_sound T13_ok fun z h => pf15 z.1 z.2.1 z.2.2 h
end Go.Proofs.Ytkklinkdoboocaa

