/- The program's gf. -/
import Derived.Test.YtlihfdbfcklkmaaG0
import Derived.Test.YtlihfdbfcklkmaaE23
set_option linter.unusedVariables false
set_option linter.unusedSimpArgs false
namespace Go.Proofs.Ytlihfdbfcklkmaa
open Go.Proofs.Ytlihfdbfcklkmaa.Pad Go.Proofs.Ytlihfdbfcklkmaa.Pad.Gf
/-- padlock/gf.double -/
def rc57 : RC :=
  (.seq
   (.reg false [⟨(some 2), .mov (.c (.int .u8 0)), none⟩] [0])
   (.seq
    (.reg false [⟨(some 4), .mov (.t 0), none⟩,
      ⟨(some 5), .conv true .u16 (.t 4), none⟩,
      ⟨(some 6), .bin .shl false (.t 5) (.c (.int .u64 1)), none⟩,
      ⟨(some 3), .mov (.t 6), none⟩] [3])
    (.seq
     (.seq
      (.reg false [⟨(some 7), .mov (.t 3), none⟩,
        ⟨(some 8), .bin .gtr false (.t 7) (.c (.int .u16 255)), none⟩] [3, 8])
      (.cond 8
       (.reg false [⟨(some 9), .mov (.t 3), none⟩,
         ⟨(some 10), .bin .xor false (.t 9) (.c (.int .u16 283)), none⟩,
         ⟨(some 3), .mov (.t 10), none⟩] [3])
       (.reg false [] [3])))
     (.seq
      (.reg false [⟨(some 11), .mov (.t 3), none⟩,
        ⟨(some 12), .conv false .u8 (.t 11), none⟩,
        ⟨(some 2), .mov (.t 12), none⟩] [2])
      .ret))))
def rs57 : List RS := [.tmp 2]
/-- padlock/gf.Mul -/
def rc42 : RC :=
  (.seq
   (.reg false [⟨(some 4), .mov (.c (.int .u8 0)), none⟩] [0, 1])
   (.seq
    (.reg false [⟨(some 5), .mov (.c (.int .u8 0)), none⟩] [0, 1, 5])
    (.seq
     (.block 0
      (.loop
       (.seq
        (.seq
         (.reg false [⟨(some 6), .mov (.t 0), none⟩,
           ⟨(some 7), .bin .gtr false (.t 6) (.c (.int .u8 0)), none⟩] [0, 1, 5, 7])
         (.cond 7
          (.reg false [] [0, 1, 5])
          (.seq
           (.reg false [] [5])
           (.exit 0))))
        (.seq
         (.block 1
          (.seq
           (.seq
            (.reg false [⟨(some 10), .mov (.t 0), none⟩,
              ⟨(some 11), .bin .and false (.t 10) (.c (.int .u8 1)), none⟩,
              ⟨(some 12), .bin .eql false (.t 11) (.c (.int .u8 1)), none⟩] [0, 1, 5, 12])
            (.cond 12
             (.reg false [⟨(some 13), .mov (.t 5), none⟩,
               ⟨(some 14), .mov (.t 1), none⟩,
               ⟨(some 15), .bin .xor false (.t 13) (.t 14), none⟩,
               ⟨(some 5), .mov (.t 15), none⟩] [0, 1, 5])
             (.reg false [] [0, 1, 5])))
           (.reg false [⟨(some 16), .mov (.t 1), none⟩,
             ⟨(some 17), .call 57 [(false, (.t 16))], none⟩,
             ⟨(some 1), .mov (.t 17), none⟩] [0, 1, 5])))
         (.reg false [⟨(some 8), .mov (.t 0), none⟩,
           ⟨(some 9), .bin .shr false (.t 8) (.c (.int .u64 1)), none⟩,
           ⟨(some 0), .mov (.t 9), none⟩] [0, 1, 5])))))
     (.seq
      (.reg false [⟨(some 18), .mov (.t 5), none⟩,
        ⟨(some 4), .mov (.t 18), none⟩] [4])
      .ret))))
def rs42 : List RS := [.tmp 4]
/-- padlock/gf.Inv -/
def rc63 : RC :=
  (.seq
   (.reg false [⟨(some 2), .mov (.c (.int .u8 0)), none⟩] [0])
   (.seq
    (.seq
     (.reg false [⟨(some 8), .mov (.t 0), none⟩,
       ⟨(some 9), .bin .eql false (.t 8) (.c (.int .u8 0)), none⟩] [0, 9])
     (.cond 9
      (.seq
       (.reg false [⟨(some 2), .mov (.c (.int .u8 0)), none⟩] [2])
       .ret)
      (.reg false [] [0])))
    (.seq
     (.reg false [⟨(some 10), .mov (.t 0), none⟩,
       ⟨(some 11), .conv true .u16 (.t 10), none⟩,
       ⟨(some 3), .mov (.t 11), none⟩,
       ⟨(some 4), .mov (.c (.int .u16 1)), none⟩] [3, 4])
     (.seq
      (.reg false [⟨(some 5), .mov (.c (.int .u16 283)), none⟩,
        ⟨(some 6), .mov (.c (.int .u16 0)), none⟩] [3, 4, 5, 6])
      (.seq
       (.block 0
        (.loop
         (.seq
          (.seq
           (.reg false [⟨(some 12), .mov (.t 3), none⟩,
             ⟨(some 13), .bin .gtr false (.t 12) (.c (.int .u16 1)), none⟩] [3, 4, 5, 6, 13])
           (.cond 13
            (.reg false [] [3, 4, 5, 6])
            (.seq
             (.reg false [] [4])
             (.exit 0))))
          (.block 1
           (.seq
            (.reg false [⟨(some 14), .mov (.t 3), none⟩,
              ⟨(some 15), .call 70 [(false, (.t 14))], none⟩,
              ⟨(some 16), .mov (.t 5), none⟩,
              ⟨(some 17), .call 70 [(false, (.t 16))], none⟩,
              ⟨(some 18), .bin .sub true (.t 15) (.t 17), none⟩,
              ⟨(some 7), .mov (.t 18), none⟩] [3, 4, 5, 6, 7])
            (.seq
             (.seq
              (.reg false [⟨(some 19), .mov (.t 7), none⟩,
                ⟨(some 20), .bin .lss true (.t 19) (.c (.int .i64 0)), none⟩] [3, 4, 5, 6, 7, 20])
              (.cond 20
               (.seq
                (.reg false [⟨(some 21), .mov (.t 5), none⟩,
                  ⟨(some 22), .mov (.t 3), none⟩,
                  ⟨(some 3), .mov (.t 21), none⟩,
                  ⟨(some 5), .mov (.t 22), none⟩] [3, 4, 5, 6, 7])
                (.seq
                 (.reg false [⟨(some 23), .mov (.t 6), none⟩,
                   ⟨(some 24), .mov (.t 4), none⟩,
                   ⟨(some 4), .mov (.t 23), none⟩,
                   ⟨(some 6), .mov (.t 24), none⟩] [3, 4, 5, 6, 7])
                 (.reg false [⟨(some 25), .mov (.t 7), none⟩,
                   ⟨(some 26), .un .neg (.t 25), none⟩,
                   ⟨(some 7), .mov (.t 26), none⟩] [3, 4, 5, 6, 7])))
               (.reg false [] [3, 4, 5, 6, 7])))
             (.seq
              (.reg false [⟨(some 27), .mov (.t 3), none⟩,
                ⟨(some 28), .mov (.t 5), none⟩,
                ⟨(some 29), .mov (.t 7), none⟩,
                ⟨(some 30), .bin .shl false (.t 28) (.t 29), none⟩,
                ⟨(some 31), .bin .xor false (.t 27) (.t 30), none⟩,
                ⟨(some 3), .mov (.t 31), none⟩] [3, 4, 5, 6, 7])
              (.reg false [⟨(some 32), .mov (.t 4), none⟩,
                ⟨(some 33), .mov (.t 6), none⟩,
                ⟨(some 34), .mov (.t 7), none⟩,
                ⟨(some 35), .bin .shl false (.t 33) (.t 34), none⟩,
                ⟨(some 36), .bin .xor false (.t 32) (.t 35), none⟩,
                ⟨(some 4), .mov (.t 36), none⟩] [3, 4, 5, 6]))))))))
       (.seq
        (.reg false [⟨(some 37), .mov (.t 4), none⟩,
          ⟨(some 38), .conv false .u8 (.t 37), none⟩,
          ⟨(some 2), .mov (.t 38), none⟩] [2])
        .ret))))))
def rs63 : List RS := [.tmp 2]
def tx70 : List UInt8 := [0, 1, 2, 2, 3, 3, 3, 3, 4, 4, 4, 4, 4, 4, 4, 4, 5, 5, 5, 5, 5, 5, 5, 5, 5, 5, 5, 5, 5, 5, 5, 5, 6, 6, 6, 6, 6, 6, 6, 6, 6, 6, 6, 6, 6, 6, 6, 6, 6, 6, 6, 6, 6, 6, 6, 6, 6, 6, 6, 6, 6, 6, 6, 6, 7, 7, 7, 7, 7, 7, 7, 7, 7, 7, 7, 7, 7, 7, 7, 7, 7, 7, 7, 7, 7, 7, 7, 7, 7, 7, 7, 7, 7, 7, 7, 7, 7, 7, 7, 7, 7, 7, 7, 7, 7, 7, 7, 7, 7, 7, 7, 7, 7, 7, 7, 7, 7, 7, 7, 7, 7, 7, 7, 7, 7, 7, 7, 7, 8, 8, 8, 8, 8, 8, 8, 8, 8, 8, 8, 8, 8, 8, 8, 8, 8, 8, 8, 8, 8, 8, 8, 8, 8, 8, 8, 8, 8, 8, 8, 8, 8, 8, 8, 8, 8, 8, 8, 8, 8, 8, 8, 8, 8, 8, 8, 8, 8, 8, 8, 8, 8, 8, 8, 8, 8, 8, 8, 8, 8, 8, 8, 8, 8, 8, 8, 8, 8, 8, 8, 8, 8, 8, 8, 8, 8, 8, 8, 8, 8, 8, 8, 8, 8, 8, 8, 8, 8, 8, 8, 8, 8, 8, 8, 8, 8, 8, 8, 8, 8, 8, 8, 8, 8, 8, 8, 8, 8, 8, 8, 8, 8, 8, 8, 8, 8, 8, 8, 8, 8, 8, 8, 8, 8, 8, 8, 8]
/-- math/bits.Len16 -/
def rc70 : RC :=
  (.seq
   (.reg false [⟨(some 2), .mov (.c (.int .i64 0)), none⟩] [0, 2])
   (.seq
    (.seq
     (.reg false [⟨(some 3), .mov (.t 0), none⟩,
       ⟨(some 4), .bin .geq false (.t 3) (.c (.int .u16 256)), none⟩] [0, 2, 4])
     (.cond 4
      (.seq
       (.reg false [⟨(some 5), .mov (.t 0), none⟩,
         ⟨(some 6), .bin .shr false (.t 5) (.c (.int .u64 8)), none⟩,
         ⟨(some 0), .mov (.t 6), none⟩] [0])
       (.reg false [⟨(some 2), .mov (.c (.int .i64 8)), none⟩] [0, 2]))
      (.reg false [] [0, 2])))
    (.seq
     (.reg false [⟨(some 7), .mov (.t 2), none⟩,
       ⟨(some 8), .mov (.t 0), none⟩,
       ⟨(some 9), .conv false .u8 (.t 8), none⟩,
       ⟨(some 10), .sidx (.c (.str tx70)) (.t 9), none⟩,
       ⟨(some 11), .conv true .i64 (.t 10), none⟩,
       ⟨(some 12), .bin .add true (.t 7) (.t 11), none⟩,
       ⟨(some 2), .mov (.t 12), none⟩] [2])
     .ret)))
def rs70 : List RS := [.tmp 2]
/-- math/bits.RotateLeft8 -/
def rc71 : RC :=
  (.seq
   (.reg false [⟨(some 4), .mov (.c (.int .u8 0)), none⟩] [0, 1])
   (.seq
    (.reg false [⟨(some 6), .mov (.t 1), none⟩,
      ⟨(some 7), .conv true .u64 (.t 6), none⟩,
      ⟨(some 8), .bin .and false (.t 7) (.c (.int .u64 7)), none⟩,
      ⟨(some 5), .mov (.t 8), none⟩] [0, 5])
    (.seq
     (.reg false [⟨(some 9), .mov (.t 0), none⟩,
       ⟨(some 10), .mov (.t 5), none⟩,
       ⟨(some 11), .bin .shl false (.t 9) (.t 10), none⟩,
       ⟨(some 12), .mov (.t 0), none⟩,
       ⟨(some 13), .mov (.t 5), none⟩,
       ⟨(some 14), .bin .sub false (.c (.int .u64 8)) (.t 13), none⟩,
       ⟨(some 15), .bin .shr false (.t 12) (.t 14), none⟩,
       ⟨(some 16), .bin .or false (.t 11) (.t 15), none⟩,
       ⟨(some 4), .mov (.t 16), none⟩] [4])
     .ret)))
def rs71 : List RS := [.tmp 4]
/-- padlock/gf.left -/
def rc64 : RC :=
  (.seq
   (.reg false [⟨(some 4), .mov (.c (.int .u8 0)), none⟩] [0, 1])
   (.seq
    (.reg false [⟨(some 5), .mov (.t 0), none⟩,
      ⟨(some 6), .mov (.t 1), none⟩,
      ⟨(some 7), .call 71 [(false, (.t 5)), (false, (.t 6))], none⟩,
      ⟨(some 4), .mov (.t 7), none⟩] [4])
    .ret))
def rs64 : List RS := [.tmp 4]
/-- padlock/gf.rotate -/
def rc72 : RC :=
  (.seq
   (.reg false [⟨(some 1), .box (.t 0), none⟩,
     ⟨(some 2), .alloc [(.int .u8 0), (.int .u8 0), (.int .u8 0), (.int .u8 0)], none⟩] [1, 2])
   (.seq
    (.reg false [⟨(some 3), .alloc [(.int .u8 0), (.int .u8 0), (.int .u8 0), (.int .u8 0)], none⟩] [1, 2, 3])
    (.seq
     (.reg false [⟨(some 4), .mov (.c (.int .i64 3)), none⟩] [1, 2, 3, 4])
     (.seq
      (.reg true [⟨(some 5), .winB 3 1 4 (some (.c (.int .i64 1))) none, none⟩,
        ⟨(some 6), .mov (.t 4), none⟩,
        ⟨(some 7), .winB 1 1 4 none (some (.t 6)), none⟩,
        ⟨(some 8), .cpyV 5 3 1 7 1, none⟩] [1, 2, 3, 4])
      (.seq
       (.reg true [⟨(some 9), .winB 3 1 4 none (some (.c (.int .i64 1))), none⟩,
         ⟨(some 10), .mov (.t 4), none⟩,
         ⟨(some 11), .winB 1 1 4 (some (.t 10)) none, none⟩,
         ⟨(some 12), .cpyV 9 3 1 11 1, none⟩] [2, 3])
       (.seq
        (.reg false [⟨(some 13), .loadB 3 4 true, none⟩,
          ⟨none, .stB 2 4 (.t 13), none⟩] [2])
        .ret))))))
def rs72 : List RS := [.cell 2 4 true]
/-- padlock/gf.combine -/
def rc65 : RC :=
  (.seq
   (.reg false [⟨(some 2), .box (.t 0), none⟩,
     ⟨(some 3), .box (.t 1), none⟩,
     ⟨(some 4), .alloc [(.int .u8 0), (.int .u8 0), (.int .u8 0), (.int .u8 0)], none⟩] [2, 3, 4])
   (.seq
    (.reg false [⟨(some 5), .alloc [(.int .u8 0), (.int .u8 0), (.int .u8 0), (.int .u8 0)], none⟩] [2, 3, 4, 5])
    (.seq
     (.seq
      (.reg false [⟨(some 9), .mov (.c (.int .i64 0)), none⟩] [2, 3, 4, 5, 9])
      (.block 0
       (.loop
        (.seq
         (.reg false [⟨(some 10), .bin .lss true (.t 9) (.c (.int .i64 4)), none⟩] [2, 3, 4, 5, 9, 10])
         (.seq
          (.cond 10
           (.reg false [] [2, 3, 4, 5, 9])
           (.seq
            (.reg false [] [4, 5])
            (.exit 0)))
          (.seq
           (.block 1
            (.seq
             (.reg false [⟨(some 11), .mov (.t 9), none⟩,
               ⟨(some 6), .mov (.t 11), none⟩] [2, 3, 4, 5, 6, 9])
             (.seq
              (.seq
               (.reg false [⟨(some 12), .loadB 2 4 true, none⟩,
                 ⟨(some 13), .mov (.c (.int .i64 0)), none⟩] [2, 3, 4, 5, 6, 9, 12, 13])
               (.block 2
                (.loop
                 (.seq
                  (.reg false [⟨(some 14), .bin .lss true (.t 13) (.c (.int .i64 4)), none⟩] [2, 3, 4, 5, 6, 9, 12, 13, 14])
                  (.seq
                   (.cond 14
                    (.reg false [] [2, 3, 4, 5, 6, 9, 12, 13])
                    (.seq
                     (.reg false [] [2, 3, 4, 5, 9])
                     (.exit 2)))
                   (.seq
                    (.block 3
                     (.seq
                      (.reg false [⟨(some 15), .mov (.t 13), none⟩,
                        ⟨(some 16), .aidx 1 4 false (.t 12) (.t 13), none⟩,
                        ⟨(some 7), .mov (.t 15), none⟩,
                        ⟨(some 8), .mov (.t 16), none⟩] [2, 3, 4, 5, 6, 7, 8, 9, 12, 13])
                      (.reg true [⟨(some 17), .mov (.t 6), none⟩,
                        ⟨(some 18), .idxB 5 1 4 (.t 17), none⟩,
                        ⟨(some 19), .loadR 18 5 1 false, none⟩,
                        ⟨(some 20), .mov (.t 8), none⟩,
                        ⟨(some 21), .mov (.t 7), none⟩,
                        ⟨(some 22), .idxB 3 1 4 (.t 21), none⟩,
                        ⟨(some 23), .loadR 22 3 1 false, none⟩,
                        ⟨(some 24), .call 42 [(false, (.t 20)), (false, (.t 23))], none⟩,
                        ⟨(some 25), .bin .xor false (.t 19) (.t 24), none⟩,
                        ⟨(some 26), .idxB 5 1 4 (.t 17), none⟩,
                        ⟨none, .stR 26 5 1 (.t 25), none⟩] [2, 3, 4, 5, 6, 9, 12, 13])))
                    (.reg false [⟨(some 27), .bin .add true (.t 13) (.c (.int .i64 1)), none⟩,
                      ⟨(some 13), .mov (.t 27), none⟩] [2, 3, 4, 5, 6, 9, 12, 13])))))))
              (.reg false [⟨(some 28), .loadB 2 4 true, none⟩,
                ⟨(some 29), .call 72 [(false, (.t 28))], none⟩,
                ⟨none, .stB 2 4 (.t 29), none⟩] [2, 3, 4, 5, 9]))))
           (.reg false [⟨(some 30), .bin .add true (.t 9) (.c (.int .i64 1)), none⟩,
             ⟨(some 9), .mov (.t 30), none⟩] [2, 3, 4, 5, 9])))))))
     (.seq
      (.reg false [⟨(some 31), .loadB 5 4 true, none⟩,
        ⟨none, .stB 4 4 (.t 31), none⟩] [4])
      .ret))))
def rs65 : List RS := [.cell 4 4 true]
/-- padlock/gf.Box -/
def rc54 : RC :=
  (.seq
   (.reg false [⟨(some 2), .mov (.c (.int .u8 0)), none⟩] [0])
   (.seq
    (.reg false [⟨(some 4), .mov (.t 0), none⟩,
      ⟨(some 5), .call 63 [(false, (.t 4))], none⟩,
      ⟨(some 3), .mov (.t 5), none⟩] [3])
    (.seq
     (.reg false [⟨(some 6), .mov (.t 3), none⟩,
       ⟨(some 7), .mov (.t 3), none⟩,
       ⟨(some 8), .call 64 [(false, (.t 7)), (false, (.c (.int .i64 1)))], none⟩,
       ⟨(some 9), .bin .xor false (.t 6) (.t 8), none⟩,
       ⟨(some 10), .mov (.t 3), none⟩,
       ⟨(some 11), .call 64 [(false, (.t 10)), (false, (.c (.int .i64 2)))], none⟩,
       ⟨(some 12), .bin .xor false (.t 9) (.t 11), none⟩,
       ⟨(some 13), .mov (.t 3), none⟩,
       ⟨(some 14), .call 64 [(false, (.t 13)), (false, (.c (.int .i64 3)))], none⟩,
       ⟨(some 15), .bin .xor false (.t 12) (.t 14), none⟩,
       ⟨(some 16), .mov (.t 3), none⟩,
       ⟨(some 17), .call 64 [(false, (.t 16)), (false, (.c (.int .i64 4)))], none⟩,
       ⟨(some 18), .bin .xor false (.t 15) (.t 17), none⟩,
       ⟨(some 19), .bin .xor false (.t 18) (.c (.int .u8 99)), none⟩,
       ⟨(some 2), .mov (.t 19), none⟩] [2])
     .ret)))
def rs54 : List RS := [.tmp 2]
/-- padlock/gf.Mix -/
def rc56 : RC :=
  (.seq
   (.reg false [⟨(some 1), .box (.t 0), none⟩,
     ⟨(some 2), .alloc [(.int .u8 0), (.int .u8 0), (.int .u8 0), (.int .u8 0)], none⟩] [1, 2])
   (.seq
    (.reg false [⟨(some 3), .build [(.int .u8 0), (.int .u8 0), (.int .u8 0), (.int .u8 0)] [(0, 1, (.c (.int .u8 2))), (1, 1, (.c (.int .u8 3))), (2, 1, (.c (.int .u8 1))), (3, 1, (.c (.int .u8 1)))], none⟩,
      ⟨(some 4), .loadB 1 4 true, none⟩,
      ⟨(some 5), .call 65 [(false, (.t 3)), (false, (.t 4))], none⟩,
      ⟨none, .stB 2 4 (.t 5), none⟩] [2])
    .ret))
def rs56 : List RS := [.cell 2 4 true]
theorem pf57 (a : B)  : PFx Try.prog 57 [.int .u8 (bv a)] (.int .u8 (bv (dbl a))) := by
  refine PFx_of_W (rc := rc57) (rs := rs57) Try.func57 rfl T46_ok hm (by kernel_rfl) (by kernel_rfl) (by simp [Try.ntmps57]) ?_
  simp [rc57, rs57]
  refine ⟨⟨bv_lo a, by have := bv_hi a; omega⟩, ?_⟩
  revert a; decide +kernel
noncomputable def T57 : Tab := tabAdd T46 57 (fun _ : B => True) (fun z => [.int .u8 (bv z)]) (fun z => .int .u8 (bv (dbl z)))
@[simp] theorem T57_eq (a : B)  : T57 57 [.int .u8 (bv a)] = some (.int .u8 (bv (dbl a))) := tabAdd_eq (a := a) (by simp +contextual [Int.natCast_inj]) trivial rfl
@[simp] theorem T57_ne {g : Nat} {xs : List AV} (h : g ≠ 57) : T57 g xs = T46 g xs := tabAdd_ne h
theorem T57_ok : Sound Try.prog T57 := tabAdd_sound T46_ok fun z _ => pf57 z 
theorem mulK_end (a b : B) (k : Nat) (h : b >>> k = 0#8) : ∀ m, mulK a b (k + m) = mulK a b k
  | 0 => rfl
  | m + 1 => by
    rw [← Nat.add_assoc, mulK, mulK_end a b k h m]
    have : b.getLsbD (k + m) = false := by
      have := congrArg (fun x => x.getLsbD m) h
      simpa using this
    simp [this]
theorem bit_and (b : B) (k : Nat) : ((b >>> k) &&& 1#8 = 1#8) = (b.getLsbD k = true) := by
  apply propext
  constructor
  · intro h
    have := congrArg (fun x => x.getLsbD 0) h
    simpa using this
  · intro h
    apply BitVec.eq_of_getLsbD_eq
    intro i hi
    rcases Nat.eq_zero_or_pos i with rfl | h0
    · simp [h]
    · simp
      omega
theorem gt_zero (x : B) : (0 < bv x) = (x ≠ 0#8) := by
  apply propext
  revert x; decide +kernel
theorem pf42 (a : B) (b : B)  : PFx Try.prog 42 [.int .u8 (bv a), .int .u8 (bv b)] (.int .u8 (bv (mul a b))) := by
  refine PFx_of_W (rc := rc42) (rs := rs42) Try.func42 rfl T57_ok hm (by kernel_rfl) (by kernel_rfl) (by simp [Try.ntmps42]) ?_
  rw [mul_comm]
  simp [rc42, rs42]
  refine W_varU (fun k : Nat => k ≤ 8) (fun k => 8 - k) (fun k => [(1, .int .u8 (bv (dbls k b))), (0, .int .u8 (bv (a >>> k))), (5, .int .u8 (bv (mulK b a k)))]) 0 (by decide) (by simp [mulK, dbls, bv]) (fun k hk => ?_)
  by_cases h : a >>> k = 0#8
  · have := mulK_end b a k h (8 - k)
    rw [show k + (8 - k) = 8 by omega] at this
    simp [gt_zero, h, mul, this]
  · have h8 : k < 8 := by
      rcases Nat.lt_or_ge k 8 with h8 | h8
      · exact h8
      · exfalso; apply h; apply BitVec.eq_of_toNat_eq
        have := a.isLt
        rw [BitVec.toNat_ushiftRight, Nat.shiftRight_eq_div_pow, Nat.div_eq_of_lt (Nat.lt_of_lt_of_le this (Nat.pow_le_pow_right (by decide) h8))]; rfl
    have e1 : a >>> k >>> 1 = a >>> (k + 1) := by rw [BitVec.shiftRight_add]
    cases hb : a.getLsbD k
    · simp [gt_zero, h, and8_lit, eq_lit, bit_and, hb, bv_shr8, bv_xor8]
      exact ⟨k + 1, by omega, by omega, e1, rfl, by simp [mulK, hb]⟩
    · simp [gt_zero, h, and8_lit, eq_lit, bit_and, hb, bv_shr8, bv_xor8]
      exact ⟨k + 1, by omega, by omega, e1, rfl, by simp [mulK, hb]⟩
noncomputable def T42 : Tab := tabAdd T57 42 (fun _ : B × B => True) (fun z => [.int .u8 (bv z.1), .int .u8 (bv z.2)]) (fun z => .int .u8 (bv (mul z.1 z.2)))
@[simp] theorem T42_eq (a : B) (b : B)  : T42 42 [.int .u8 (bv a), .int .u8 (bv b)] = some (.int .u8 (bv (mul a b))) := tabAdd_eq (a := (a, b)) (by simp +contextual [Int.natCast_inj]) trivial rfl
@[simp] theorem T42_ne {g : Nat} {xs : List AV} (h : g ≠ 42) : T42 g xs = T57 g xs := tabAdd_ne h
theorem T42_ok : Sound Try.prog T42 := tabAdd_sound T57_ok fun z _ => pf42 z.1 z.2 
theorem pw_half (x : B) (n : Nat) : pw x n = mul (pw x (n % 2)) (pw (mul x x) (n / 2)) := by
  rw [pw_sq, ← pw_add]; congr 1; omega
/-- How many bits. -/
def len9 (n : Nat) : Nat := if n = 0 then 0 else Nat.log2 n + 1
theorem len_lo : ∀ n, n < 256 → ((tx70.getD n 0).toNat) = len9 n := by decide +kernel
theorem len_hi : ∀ n, n < 256 → len9 (n + 256) = 9 := by decide +kernel
theorem len_at : tx70.length = 256 := by decide +kernel
theorem pf70 (n : Nat) (h : n < 512) : PFx Try.prog 70 [.int .u16 n] (.int .i64 (len9 n)) := by
  refine PFx_of_W (rc := rc70) (rs := rs70) Try.func70 rfl T42_ok hm (by kernel_rfl) (by kernel_rfl) (by simp [Try.ntmps70]) ?_
  simp [rc70, rs70, len_at]
  revert n; decide +kernel
noncomputable def T70 : Tab := tabAdd T42 70 (fun z : Nat => z < 512) (fun z => [.int .u16 z]) (fun z => .int .i64 (len9 z))
@[simp] theorem T70_eq (n : Nat) (h : n < 512) : T70 70 [.int .u16 n] = some (.int .i64 (len9 n)) := tabAdd_eq (a := n) (by simp +contextual [Int.natCast_inj]) h rfl
@[simp] theorem T70_ne {g : Nat} {xs : List AV} (h : g ≠ 70) : T70 g xs = T42 g xs := tabAdd_ne h
theorem T70_ok : Sound Try.prog T70 := tabAdd_sound T42_ok fun z h => pf70 z h
theorem pf71 (a : B) (n : Nat) (h : n ≤ 7) : PFx Try.prog 71 [.int .u8 (bv a), .int .i64 n] (.int .u8 (bv (rot n a))) := by
  refine PFx_of_W (rc := rc71) (rs := rs71) Try.func71 rfl T70_ok hm (by kernel_rfl) (by kernel_rfl) (by simp [Try.ntmps71]) ?_
  have e : bits .and .u64 (n : Int) 7 = (n : Int) := by
    have := u64_and_nat n 7 (by omega) (by decide)
    rw [show n &&& 7 = n by rw [show (7 : Nat) = 2 ^ 3 - 1 from rfl, Nat.and_two_pow_sub_one_eq_mod, Nat.mod_eq_of_lt (by omega)]] at this
    exact this
  have w : IntKind.u64.wrap (8 - (n : Int)) = ((8 - n : Nat) : Int) := by rw [u64_wrap]; omega
  simp [rc71, rs71, bv_shl8, bv_shr8, bv_or8, rot, e, w]
  omega
noncomputable def T71 : Tab := tabAdd T70 71 (fun z : B × Nat => z.2 ≤ 7) (fun z => [.int .u8 (bv z.1), .int .i64 z.2]) (fun z => .int .u8 (bv (rot z.2 z.1)))
@[simp] theorem T71_eq (a : B) (n : Nat) (h : n ≤ 7) : T71 71 [.int .u8 (bv a), .int .i64 n] = some (.int .u8 (bv (rot n a))) := tabAdd_eq (a := (a, n)) (by simp +contextual [Int.natCast_inj]) h rfl
@[simp] theorem T71_ne {g : Nat} {xs : List AV} (h : g ≠ 71) : T71 g xs = T70 g xs := tabAdd_ne h
theorem T71_ok : Sound Try.prog T71 := tabAdd_sound T70_ok fun z h => pf71 z.1 z.2 h
/-- Euclid's algorithm: what is left, its factor, what was left last, its factor. -/
def stp : Nat × Nat × Nat × Nat → Nat × Nat × Nat × Nat
  | (r, f, l, g) => if r ≤ 1 then (r, f, l, g) else
    if len9 r < len9 l then (l ^^^ r * 2 ^ (len9 l - len9 r), g ^^^ f * 2 ^ (len9 l - len9 r), r, f)
    else (r ^^^ l * 2 ^ (len9 r - len9 l), f ^^^ g * 2 ^ (len9 r - len9 l), l, g)
def est (a : B) : Nat → Nat × Nat × Nat × Nat
  | 0 => (a.toNat, 1, 283, 0)
  | k + 1 => stp (est a k)
def fine : Nat × Nat × Nat × Nat → Prop
  | (r, f, l, g) => r < 512 ∧ f < 512 ∧ l < 512 ∧ g < 512 ∧ r * 2 ^ (len9 l - len9 r) < 512 ∧ f * 2 ^ (len9 l - len9 r) < 512 ∧ l * 2 ^ (len9 r - len9 l) < 512 ∧ g * 2 ^ (len9 r - len9 l) < 512
instance : DecidablePred fine := fun ⟨r, f, l, g⟩ => by unfold fine; infer_instance
theorem est_fine : ∀ a : B, a ≠ 0#8 → ∀ k, k < 20 → fine (est a k) := by decide +kernel
theorem est_end : ∀ a : B, a ≠ 0#8 → (est a 19).1 ≤ 1 ∧ (est a 19).2.1 % 256 = (inv a).toNat := by decide +kernel
theorem pf72 (a : V)  : PFx Try.prog 72 [.agg (colA a)] (.agg (colA (a.2.2.2, a.1, a.2.1, a.2.2.1))) := by
  refine PFx_of_W (rc := rc72) (rs := rs72) Try.func72 rfl T71_ok hm (by kernel_rfl) (by kernel_rfl) (by simp [Try.ntmps72]) ?_
  obtain ⟨p, q, r, s⟩ := a
  simp [rc72, rs72, colA]
noncomputable def T72 : Tab := tabAdd T71 72 (fun _ : V => True) (fun z => [.agg (colA z)]) (fun z => .agg (colA (z.2.2.2, z.1, z.2.1, z.2.2.1)))
@[simp] theorem T72_eq (a : V)  : T72 72 [.agg (colA a)] = some (.agg (colA (a.2.2.2, a.1, a.2.1, a.2.2.1))) := tabAdd_eq (a := a) (by simp +contextual [Int.natCast_inj]) trivial rfl
@[simp] theorem T72_ne {g : Nat} {xs : List AV} (h : g ≠ 72) : T72 g xs = T71 g xs := tabAdd_ne h
theorem T72_ok : Sound Try.prog T72 := tabAdd_sound T71_ok fun z _ => pf72 z 
theorem est_gt {a : B} (h0 : a ≠ 0#8) {k : Nat} (h : 1 < (est a k).1) : k < 19 := by
  rcases Nat.lt_or_ge k 19 with h1 | h1
  · exact h1
  · exfalso
    have e : ∀ m, est a (19 + m) = est a 19 := by
      intro m
      induction m with
      | zero => rfl
      | succ m ih =>
        rw [← Nat.add_assoc, est, ih]
        have := (est_end a h0).1
        generalize est a 19 = s at this ⊢
        obtain ⟨r, f, l, g⟩ := s
        simp only at this
        simp [stp, this]
    have := e (k - 19)
    rw [show 19 + (k - 19) = k by omega] at this
    rw [this] at h
    have := (est_end a h0).1
    omega
theorem est_stop {a : B} {k : Nat} (h : (est a k).1 ≤ 1) (hk : k ≤ 19) : est a 19 = est a k := by
  have e : ∀ m, est a (k + m) = est a k := by
    intro m
    induction m with
    | zero => rfl
    | succ m ih =>
      rw [← Nat.add_assoc, est, ih]
      generalize est a k = s at h ⊢
      obtain ⟨r, f, l, g⟩ := s
      simp only at h
      simp [stp, h]
  have := e (19 - k)
  rwa [show k + (19 - k) = 19 by omega] at this
theorem shl16 {x d : Nat} (h : x * 2 ^ d < 512) (hd : d ≤ 9) : IntKind.u16.wrap ((x : Int) * 2 ^ min d IntKind.u16.bits) = ((x * 2 ^ d : Nat) : Int) := by
  rw [show min d IntKind.u16.bits = d from Nat.min_eq_left (by show d ≤ 16; omega), show (x : Int) * 2 ^ d = ((x * 2 ^ d : Nat) : Int) by rw [Int.natCast_mul, Int.natCast_pow]; rfl, u16_wrap]
  generalize x * 2 ^ d = y at h ⊢
  omega
theorem xor16 {x y : Nat} (hx : x < 512) (hy : y < 512) : bits .xor .u16 (x : Int) (y : Int) = ((x ^^^ y : Nat) : Int) := u16_xor_nat _ _ (by omega) (by omega)
theorem len9_le : ∀ n, n < 512 → len9 n ≤ 9 := by decide +kernel
set_option maxHeartbeats 1000000 in
theorem pf63 (a : B)  : PFx Try.prog 63 [.int .u8 (bv a)] (.int .u8 (bv (inv a))) := by
  refine PFx_of_W (rc := rc63) (rs := rs63) Try.func63 rfl T72_ok hm (by kernel_rfl) (by kernel_rfl) (by simp [Try.ntmps63]) ?_
  by_cases h0 : a = 0#8
  · subst h0
    simp [rc63, rs63, inv_zero, bv]
  · have h0' : ¬ bv a = 0 := by rw [i0, bv_inj]; exact h0
    have hw : IntKind.u16.wrap (bv a) = bv a := by have := b_lt a; rw [u16_wrap]; omega
    simp [rc63, rs63, h0']
    refine ⟨by have := b_lt a; omega, ?_⟩
    refine W_varU (fun k : Nat => k ≤ 19) (fun k => 19 - k) (fun k => [(3, .int .u16 (est a k).1), (4, .int .u16 (est a k).2.1), (5, .int .u16 (est a k).2.2.1), (6, .int .u16 (est a k).2.2.2)]) 0 (by decide) (by simp [est, bv]) (fun k hk => ?_)
    have hf := est_fine a h0 k (by omega)
    have he := est_end a h0
    have hs : est a (k + 1) = stp (est a k) := rfl
    have hgt := est_gt h0 (k := k)
    have hst := est_stop (a := a) (k := k)
    obtain ⟨r, f, l, g, e⟩ : ∃ r f l g, est a k = (r, f, l, g) := ⟨_, _, _, _, rfl⟩
    rw [e] at hf hs hgt hst ⊢
    simp only [fine] at hf hgt hst
    obtain ⟨f1, f2, f3, f4, f5, f6, f7, f8⟩ := hf
    by_cases hr : r ≤ 1
    · have := hst hr hk
      rw [this] at he
      have hr' : ¬ (1 : Int) < (r : Int) := by omega
      simp [hr']
      have h2 : f % 256 = (inv a).toNat := he.2
      rw [u8_wrap]; unfold bv; rw [← h2]; omega
    · have hr' : (1 : Int) < (r : Int) := by omega
      have l1 := len9_le r f1
      have l2 := len9_le l f3
      by_cases hd : len9 r < len9 l
      · have hd' : (len9 r : Int) - (len9 l : Int) < 0 := by omega
        have hn : (-((len9 r : Int) - (len9 l : Int))).toNat = len9 l - len9 r := by omega
        simp [stp, hr, hd] at hs
        simp [hr', f1, f3, hd']
        have w : IntKind.i64.wrap (-((len9 r : Int) - (len9 l : Int))) = ((len9 l - len9 r : Nat) : Int) := by
          rw [show (-((len9 r : Int) - (len9 l : Int))) = ((len9 l - len9 r : Nat) : Int) by omega, i64_wrap_nat _ (by omega)]
        rw [w, Int.toNat_natCast]
        refine ⟨by omega, by omega, k + 1, by omega, by omega, ?_⟩
        rw [hs, shl16 f5 (by omega), shl16 f6 (by omega), xor16 f3 f5, xor16 f4 f6]
        exact ⟨rfl, rfl, rfl, rfl⟩
      · have hd' : ¬ (len9 r : Int) - (len9 l : Int) < 0 := by omega
        have hn : ((len9 r : Int) - (len9 l : Int)).toNat = len9 r - len9 l := by omega
        simp [stp, hr, hd] at hs
        simp [hr', f1, f3, hd']
        refine ⟨by omega, by omega, k + 1, by omega, by omega, ?_⟩
        rw [hs, shl16 f7 (by omega), shl16 f8 (by omega), xor16 f1 f7, xor16 f2 f8]
        exact ⟨rfl, rfl, rfl, rfl⟩
noncomputable def T63 : Tab := tabAdd T72 63 (fun _ : B => True) (fun z => [.int .u8 (bv z)]) (fun z => .int .u8 (bv (inv z)))
@[simp] theorem T63_eq (a : B)  : T63 63 [.int .u8 (bv a)] = some (.int .u8 (bv (inv a))) := tabAdd_eq (a := a) (by simp +contextual [Int.natCast_inj]) trivial rfl
@[simp] theorem T63_ne {g : Nat} {xs : List AV} (h : g ≠ 63) : T63 g xs = T72 g xs := tabAdd_ne h
theorem T63_ok : Sound Try.prog T63 := tabAdd_sound T72_ok fun z _ => pf63 z 
theorem pf64 (a : B) (n : Nat) (h : n ≤ 7) : PFx Try.prog 64 [.int .u8 (bv a), .int .i64 n] (.int .u8 (bv (rot n a))) := by
  refine PFx_of_W (rc := rc64) (rs := rs64) Try.func64 rfl T63_ok hm (by kernel_rfl) (by kernel_rfl) (by simp [Try.ntmps64]) ?_
  simp [rc64, rs64, h]
noncomputable def T64 : Tab := tabAdd T63 64 (fun z : B × Nat => z.2 ≤ 7) (fun z => [.int .u8 (bv z.1), .int .i64 z.2]) (fun z => .int .u8 (bv (rot z.2 z.1)))
@[simp] theorem T64_eq (a : B) (n : Nat) (h : n ≤ 7) : T64 64 [.int .u8 (bv a), .int .i64 n] = some (.int .u8 (bv (rot n a))) := tabAdd_eq (a := (a, n)) (by simp +contextual [Int.natCast_inj]) h rfl
@[simp] theorem T64_ne {g : Nat} {xs : List AV} (h : g ≠ 64) : T64 g xs = T63 g xs := tabAdd_ne h
theorem T64_ok : Sound Try.prog T64 := tabAdd_sound T63_ok fun z h => pf64 z.1 z.2 h
theorem pf54 (a : B)  : PFx Try.prog 54 [.int .u8 (bv a)] (.int .u8 (bv (box a))) := by
  refine PFx_of_W (rc := rc54) (rs := rs54) Try.func54 rfl T64_ok hm (by kernel_rfl) (by kernel_rfl) (by simp [Try.ntmps54]) ?_
  have e1 := fun x : B => T64_eq x 1 (by decide)
  have e2 := fun x : B => T64_eq x 2 (by decide)
  have e3 := fun x : B => T64_eq x 3 (by decide)
  have e4 := fun x : B => T64_eq x 4 (by decide)
  simp at e1 e2 e3 e4
  simp [rc54, rs54, e1, e2, e3, e4, bv_xor8, xor8_lit, box, aff, -T64_eq]
noncomputable def T54 : Tab := tabAdd T64 54 (fun _ : B => True) (fun z => [.int .u8 (bv z)]) (fun z => .int .u8 (bv (box z)))
@[simp] theorem T54_eq (a : B)  : T54 54 [.int .u8 (bv a)] = some (.int .u8 (bv (box a))) := tabAdd_eq (a := a) (by simp +contextual [Int.natCast_inj]) trivial rfl
@[simp] theorem T54_ne {g : Nat} {xs : List AV} (h : g ≠ 54) : T54 g xs = T64 g xs := tabAdd_ne h
theorem T54_ok : Sound Try.prog T54 := tabAdd_sound T64_ok fun z _ => pf54 z 
theorem unaff_63 : ∀ a : B, unaff a = rot 1 (a ^^^ 0x63#8) ^^^ rot 3 (a ^^^ 0x63#8) ^^^ rot 6 (a ^^^ 0x63#8) := by decide +kernel
def rowI (k : V) : Nat → V
  | 0 => k
  | n + 1 => ((rowI k n).2.2.2, (rowI k n).1, (rowI k n).2.1, (rowI k n).2.2.1)
def acc (k c : V) : Nat → B
  | 0 => 0#8
  | 1 => mul k.1 c.1
  | 2 => mul k.1 c.1 ^^^ mul k.2.1 c.2.1
  | 3 => mul k.1 c.1 ^^^ mul k.2.1 c.2.1 ^^^ mul k.2.2.1 c.2.2.1
  | _ => mul k.1 c.1 ^^^ mul k.2.1 c.2.1 ^^^ mul k.2.2.1 c.2.2.1 ^^^ mul k.2.2.2 c.2.2.2
def outI (k c : V) (i j : Nat) : V := match i with
  | 0 => (acc k c j, 0#8, 0#8, 0#8)
  | 1 => (acc k c 4, acc (rowI k 1) c j, 0#8, 0#8)
  | 2 => (acc k c 4, acc (rowI k 1) c 4, acc (rowI k 2) c j, 0#8)
  | 3 => (acc k c 4, acc (rowI k 1) c 4, acc (rowI k 2) c 4, acc (rowI k 3) c j)
  | _ => (acc k c 4, acc (rowI k 1) c 4, acc (rowI k 2) c 4, acc (rowI k 3) c 4)
set_option maxHeartbeats 4000000 in
theorem pf65 (k : V) (c : V)  : PFx Try.prog 65 [.agg (colA k), .agg (colA c)] (.agg (colA (circ k.1 k.2.1 k.2.2.1 k.2.2.2 c))) := by
  refine PFx_of_W (rc := rc65) (rs := rs65) Try.func65 rfl T54_ok hm (by kernel_rfl) (by kernel_rfl) (by simp [Try.ntmps65]) ?_
  obtain ⟨k0, k1, k2, k3⟩ := k
  obtain ⟨p, q, r, s⟩ := c
  have er := fun a b c d => T72_eq (a, b, c, d)
  simp only [colA] at er
  simp [rc65, rs65, colA]
  refine W_forU 4 (fun _ => True) (fun i => [(2, .box (colA (rowI (k0, k1, k2, k3) i))), (5, .box (colA (outI (k0, k1, k2, k3) (p, q, r, s) i 0))), (9, .int .i64 i)]) trivial (by simp [colA, rowI, outI, acc, bv]) (fun i hi _ => ?_) fun _ => ?_
  · have hc : i = 0 ∨ i = 1 ∨ i = 2 ∨ i = 3 := by omega
    rcases hc with rfl | rfl | rfl | rfl
    · simp [colA]
      refine W_forU 4 (fun _ => True) (fun j => [(5, .box (colA (outI (k0, k1, k2, k3) (p, q, r, s) 0 j))), (13, .int .i64 j)]) trivial (by simp [colA]) (fun j hj _ => ?_) fun _ => ?_
      · have hd : j = 0 ∨ j = 1 ∨ j = 2 ∨ j = 3 := by omega
        rcases hd with rfl | rfl | rfl | rfl <;> simp [colA, rowI, outI, acc, bv_xor8]
      · simp [colA, rowI, outI, acc, er, -T72_eq]
    · simp [colA]
      refine W_forU 4 (fun _ => True) (fun j => [(5, .box (colA (outI (k0, k1, k2, k3) (p, q, r, s) 1 j))), (13, .int .i64 j)]) trivial (by simp [colA]) (fun j hj _ => ?_) fun _ => ?_
      · have hd : j = 0 ∨ j = 1 ∨ j = 2 ∨ j = 3 := by omega
        rcases hd with rfl | rfl | rfl | rfl <;> simp [colA, rowI, outI, acc, bv_xor8]
      · simp [colA, rowI, outI, acc, er, -T72_eq]
    · simp [colA]
      refine W_forU 4 (fun _ => True) (fun j => [(5, .box (colA (outI (k0, k1, k2, k3) (p, q, r, s) 2 j))), (13, .int .i64 j)]) trivial (by simp [colA]) (fun j hj _ => ?_) fun _ => ?_
      · have hd : j = 0 ∨ j = 1 ∨ j = 2 ∨ j = 3 := by omega
        rcases hd with rfl | rfl | rfl | rfl <;> simp [colA, rowI, outI, acc, bv_xor8]
      · simp [colA, rowI, outI, acc, er, -T72_eq]
    · simp [colA]
      refine W_forU 4 (fun _ => True) (fun j => [(5, .box (colA (outI (k0, k1, k2, k3) (p, q, r, s) 3 j))), (13, .int .i64 j)]) trivial (by simp [colA]) (fun j hj _ => ?_) fun _ => ?_
      · have hd : j = 0 ∨ j = 1 ∨ j = 2 ∨ j = 3 := by omega
        rcases hd with rfl | rfl | rfl | rfl <;> simp [colA, rowI, outI, acc, bv_xor8]
      · simp [colA, rowI, outI, acc, er, -T72_eq]
  · simp [colA, outI, acc, rowI, circ, dot]
noncomputable def T65 : Tab := tabAdd T54 65 (fun _ : V × V => True) (fun z => [.agg (colA z.1), .agg (colA z.2)]) (fun z => .agg (colA (circ z.1.1 z.1.2.1 z.1.2.2.1 z.1.2.2.2 z.2)))
@[simp] theorem T65_eq (k : V) (c : V)  : T65 65 [.agg (colA k), .agg (colA c)] = some (.agg (colA (circ k.1 k.2.1 k.2.2.1 k.2.2.2 c))) := tabAdd_eq (a := (k, c)) (by simp +contextual [Int.natCast_inj]) trivial rfl
@[simp] theorem T65_ne {g : Nat} {xs : List AV} (h : g ≠ 65) : T65 g xs = T54 g xs := tabAdd_ne h
theorem T65_ok : Sound Try.prog T65 := tabAdd_sound T54_ok fun z _ => pf65 z.1 z.2 
theorem pf56 (c : V)  : PFx Try.prog 56 [.agg (colA c)] (.agg (colA (mix c))) := by
  refine PFx_of_W (rc := rc56) (rs := rs56) Try.func56 rfl T65_ok hm (by kernel_rfl) (by kernel_rfl) (by simp [Try.ntmps56]) ?_
  have e := T65_eq (2#8, 3#8, 1#8, 1#8) c
  rw [show colA (2#8, 3#8, 1#8, 1#8) = [.int .u8 2, .int .u8 3, .int .u8 1, .int .u8 1] from rfl] at e
  obtain ⟨p, q, r, s⟩ := c
  simp only [colA] at e ⊢
  simp [rc56, rs56, e, mix, -T65_eq]
noncomputable def T56 : Tab := tabAdd T65 56 (fun _ : V => True) (fun z => [.agg (colA z)]) (fun z => .agg (colA (mix z)))
@[simp] theorem T56_eq (c : V)  : T56 56 [.agg (colA c)] = some (.agg (colA (mix c))) := tabAdd_eq (a := c) (by simp +contextual [Int.natCast_inj]) trivial rfl
@[simp] theorem T56_ne {g : Nat} {xs : List AV} (h : g ≠ 56) : T56 g xs = T65 g xs := tabAdd_ne h
theorem T56_ok : Sound Try.prog T56 := tabAdd_sound T65_ok fun z _ => pf56 z 
end Go.Proofs.Ytlihfdbfcklkmaa

