/- The program's cipher. -/
import Derived.Test.YtlihfdbfcklkmaaK1
set_option linter.unusedVariables false
set_option linter.unusedSimpArgs false
namespace Go.Proofs.Ytlihfdbfcklkmaa
open Go.Proofs.Ytlihfdbfcklkmaa.Pad Go.Proofs.Ytlihfdbfcklkmaa.Pad.Gf Go.Proofs.Ytlihfdbfcklkmaa.Pad.Ci
/-- padlock/cipher.Xor -/
def rc31 : RC :=
  (.seq
   (.reg false [⟨(some 2), .box (.t 0), none⟩,
     ⟨(some 3), .box (.t 1), none⟩,
     ⟨(some 4), .alloc (List.replicate 16 (.int .u8 0)), none⟩] [2, 3, 4])
   (.seq
    (.seq
     (.reg false [⟨(some 6), .mov (.c (.int .i64 0)), none⟩] [2, 3, 4, 6])
     (.block 0
      (.loop
       (.seq
        (.reg false [⟨(some 7), .bin .lss true (.t 6) (.c (.int .i64 16)), none⟩] [2, 3, 4, 6, 7])
        (.seq
         (.cond 7
          (.reg false [] [2, 3, 4, 6])
          (.seq
           (.reg false [] [2, 4])
           (.exit 0)))
         (.seq
          (.block 1
           (.seq
            (.reg false [⟨(some 8), .mov (.t 6), none⟩,
              ⟨(some 5), .mov (.t 8), none⟩] [2, 3, 4, 5, 6])
            (.reg true [⟨(some 9), .mov (.t 5), none⟩,
              ⟨(some 10), .idxB 2 1 16 (.t 9), none⟩,
              ⟨(some 11), .loadR 10 2 1 false, none⟩,
              ⟨(some 12), .mov (.t 5), none⟩,
              ⟨(some 13), .idxB 3 1 16 (.t 12), none⟩,
              ⟨(some 14), .loadR 13 3 1 false, none⟩,
              ⟨(some 15), .bin .xor false (.t 11) (.t 14), none⟩,
              ⟨(some 16), .idxB 2 1 16 (.t 9), none⟩,
              ⟨none, .stR 16 2 1 (.t 15), none⟩] [2, 3, 4, 6])))
          (.reg false [⟨(some 17), .bin .add true (.t 6) (.c (.int .i64 1)), none⟩,
            ⟨(some 6), .mov (.t 17), none⟩] [2, 3, 4, 6])))))))
    (.seq
     (.reg false [⟨(some 18), .loadB 2 16 true, none⟩,
       ⟨none, .stB 4 16 (.t 18), none⟩] [4])
     .ret)))
def rs31 : List RS := [.cell 4 16 true]
/-- (padlock/cipher.Block).at -/
def rc62 : RC :=
  (.seq
   (.reg false [⟨(some 3), .box (.t 0), none⟩,
     ⟨(some 6), .mov (.c (.int .u8 0)), none⟩] [1, 2, 3])
   (.seq
    (.reg false [⟨(some 7), .mov (.t 2), none⟩,
      ⟨(some 8), .bin .rem true (.t 7) (.c (.int .i64 4)), none⟩,
      ⟨(some 9), .bin .mul true (.c (.int .i64 4)) (.t 8), none⟩,
      ⟨(some 10), .mov (.t 1), none⟩,
      ⟨(some 11), .bin .add true (.t 9) (.t 10), none⟩,
      ⟨(some 12), .idxB 3 1 16 (.t 11), none⟩,
      ⟨(some 13), .loadR 12 3 1 false, none⟩,
      ⟨(some 6), .mov (.t 13), none⟩] [6])
    .ret))
def rs62 : List RS := [.tmp 6]
/-- padlock/cipher.rotate -/
def rc61 : RC :=
  (.seq
   (.reg false [⟨(some 4), .alloc (List.replicate 16 (.int .u8 0)), none⟩] [0, 1, 4])
   (.seq
    (.reg false [⟨(some 5), .alloc (List.replicate 16 (.int .u8 0)), none⟩] [0, 1, 4, 5])
    (.seq
     (.seq
      (.reg false [⟨(some 9), .mov (.c (.int .i64 0)), none⟩] [0, 1, 4, 5, 9])
      (.block 0
       (.loop
        (.seq
         (.reg false [⟨(some 10), .bin .lss true (.t 9) (.c (.int .i64 16)), none⟩] [0, 1, 4, 5, 9, 10])
         (.seq
          (.cond 10
           (.reg false [] [0, 1, 4, 5, 9])
           (.seq
            (.reg false [] [4, 5])
            (.exit 0)))
          (.seq
           (.block 1
            (.seq
             (.reg false [⟨(some 11), .mov (.t 9), none⟩,
               ⟨(some 6), .mov (.t 11), none⟩] [0, 1, 4, 5, 6, 9])
             (.seq
              (.reg false [⟨(some 12), .mov (.t 6), none⟩,
                ⟨(some 13), .bin .quo true (.t 12) (.c (.int .i64 4)), none⟩,
                ⟨(some 14), .mov (.t 6), none⟩,
                ⟨(some 15), .bin .rem true (.t 14) (.c (.int .i64 4)), none⟩,
                ⟨(some 7), .mov (.t 13), none⟩,
                ⟨(some 8), .mov (.t 15), none⟩] [0, 1, 4, 5, 6, 7, 8, 9])
              (.reg false [⟨(some 16), .mov (.t 6), none⟩,
                ⟨(some 17), .mov (.t 0), none⟩,
                ⟨(some 18), .mov (.t 8), none⟩,
                ⟨(some 19), .mov (.t 7), none⟩,
                ⟨(some 20), .mov (.t 8), none⟩,
                ⟨(some 21), .mov (.t 1), none⟩,
                ⟨(some 22), .bin .mul true (.t 20) (.t 21), none⟩,
                ⟨(some 23), .bin .add true (.t 19) (.t 22), none⟩,
                ⟨(some 24), .callF (.t 17) [(.t 18), (.t 23)] [43, 54, 56, 62], none⟩,
                ⟨(some 25), .idxB 5 1 16 (.t 16), none⟩,
                ⟨none, .stR 25 5 1 (.t 24), none⟩] [0, 1, 4, 5, 9]))))
           (.reg false [⟨(some 26), .bin .add true (.t 9) (.c (.int .i64 1)), none⟩,
             ⟨(some 9), .mov (.t 26), none⟩] [0, 1, 4, 5, 9])))))))
     (.seq
      (.reg false [⟨(some 27), .loadB 5 16 true, none⟩,
        ⟨none, .stB 4 16 (.t 27), none⟩] [4])
      .ret))))
def rs61 : List RS := [.cell 4 16 true]
/-- padlock/cipher.Turn -/
def rc52 : RC :=
  (.seq
   (.reg false [⟨(some 1), .box (.t 0), none⟩,
     ⟨(some 2), .alloc (List.replicate 16 (.int .u8 0)), none⟩] [1, 2])
   (.seq
    (.reg false [⟨(some 3), .loadB 1 16 true, none⟩,
      ⟨(some 4), .mkF 62 [(.t 3)] [], none⟩,
      ⟨(some 5), .call 61 [(false, (.t 4)), (false, (.c (.int .i64 1)))], none⟩,
      ⟨none, .stB 2 16 (.t 5), none⟩] [2])
    .ret))
def rs52 : List RS := [.cell 2 16 true]
/-- padlock/cipher.following -/
def rc41 : RC :=
  (.seq
   (.reg false [⟨(some 2), .box (.t 0), none⟩,
     ⟨(some 4), .alloc (List.replicate 16 (.int .u8 0)), none⟩] [1, 2, 4])
   (.seq
    (.reg false [⟨(some 7), .winB 2 1 16 (some (.c (.int .i64 12))) none, none⟩,
      ⟨(some 8), .s2aR 7 2 1 4, none⟩,
      ⟨(some 9), .loadR 8 2 4 true, none⟩,
      ⟨(some 5), .alloc [(.int .u8 0), (.int .u8 0), (.int .u8 0), (.int .u8 0)], none⟩,
      ⟨none, .stB 5 4 (.t 9), none⟩] [1, 2, 4, 5])
    (.seq
     (.reg true [⟨(some 10), .idxB 5 1 4 (.c (.int .i64 1)), none⟩,
       ⟨(some 11), .loadR 10 5 1 false, none⟩,
       ⟨(some 12), .call 54 [(false, (.t 11))], none⟩,
       ⟨(some 13), .mov (.t 1), none⟩,
       ⟨(some 14), .bin .xor false (.t 12) (.t 13), none⟩,
       ⟨(some 15), .idxB 5 1 4 (.c (.int .i64 2)), none⟩,
       ⟨(some 16), .loadR 15 5 1 false, none⟩,
       ⟨(some 17), .call 54 [(false, (.t 16))], none⟩,
       ⟨(some 18), .idxB 5 1 4 (.c (.int .i64 3)), none⟩,
       ⟨(some 19), .loadR 18 5 1 false, none⟩,
       ⟨(some 20), .call 54 [(false, (.t 19))], none⟩,
       ⟨(some 21), .idxB 5 1 4 (.c (.int .i64 0)), none⟩,
       ⟨(some 22), .loadR 21 5 1 false, none⟩,
       ⟨(some 23), .call 54 [(false, (.t 22))], none⟩,
       ⟨(some 24), .build [(.int .u8 0), (.int .u8 0), (.int .u8 0), (.int .u8 0)] [(0, 1, (.t 14)), (1, 1, (.t 17)), (2, 1, (.t 20)), (3, 1, (.t 23))], none⟩,
       ⟨none, .stB 5 4 (.t 24), none⟩] [2, 4, 5])
     (.seq
      (.seq
       (.reg false [⟨(some 25), .mov (.c (.int .i64 0)), none⟩] [2, 4, 5, 25])
       (.block 0
        (.loop
         (.seq
          (.reg false [⟨(some 26), .bin .lss true (.t 25) (.c (.int .i64 16)), none⟩] [2, 4, 5, 25, 26])
          (.seq
           (.cond 26
            (.reg false [] [2, 4, 5, 25])
            (.seq
             (.reg false [] [2, 4])
             (.exit 0)))
           (.seq
            (.block 1
             (.seq
              (.reg false [⟨(some 27), .mov (.t 25), none⟩,
                ⟨(some 6), .mov (.t 27), none⟩] [2, 4, 5, 6, 25])
              (.seq
               (.reg true [⟨(some 28), .mov (.t 6), none⟩,
                 ⟨(some 29), .idxB 2 1 16 (.t 28), none⟩,
                 ⟨(some 30), .loadR 29 2 1 false, none⟩,
                 ⟨(some 31), .mov (.t 6), none⟩,
                 ⟨(some 32), .bin .rem true (.t 31) (.c (.int .i64 4)), none⟩,
                 ⟨(some 33), .idxB 5 1 4 (.t 32), none⟩,
                 ⟨(some 34), .loadR 33 5 1 false, none⟩,
                 ⟨(some 35), .bin .xor false (.t 30) (.t 34), none⟩,
                 ⟨(some 36), .idxB 2 1 16 (.t 28), none⟩,
                 ⟨none, .stR 36 2 1 (.t 35), none⟩] [2, 4, 5, 6, 25])
               (.reg false [⟨(some 37), .mov (.t 6), none⟩,
                 ⟨(some 38), .bin .rem true (.t 37) (.c (.int .i64 4)), none⟩,
                 ⟨(some 39), .mov (.t 6), none⟩,
                 ⟨(some 40), .idxB 2 1 16 (.t 39), none⟩,
                 ⟨(some 41), .loadR 40 2 1 false, none⟩,
                 ⟨(some 42), .idxB 5 1 4 (.t 38), none⟩,
                 ⟨none, .stR 42 5 1 (.t 41), none⟩] [2, 4, 5, 25]))))
            (.reg false [⟨(some 43), .bin .add true (.t 25) (.c (.int .i64 1)), none⟩,
              ⟨(some 25), .mov (.t 43), none⟩] [2, 4, 5, 25])))))))
      (.seq
       (.reg false [⟨(some 44), .loadB 2 16 true, none⟩,
         ⟨none, .stB 4 16 (.t 44), none⟩] [4])
       .ret)))))
def rs41 : List RS := [.cell 4 16 true]
/-- padlock/cipher.Expand -/
def rc29 : RC :=
  (.seq
   (.reg false [⟨(some 1), .box (.t 0), none⟩,
     ⟨(some 2), .alloc (List.replicate 176 (.int .u8 0)), none⟩] [1, 2])
   (.seq
    (.reg false [⟨(some 3), .alloc (List.replicate 176 (.int .u8 0)), none⟩] [1, 2, 3])
    (.seq
     (.reg false [⟨(some 6), .loadB 1 16 true, none⟩,
       ⟨(some 7), .idxB 3 16 11 (.c (.int .i64 0)), none⟩,
       ⟨none, .stR 7 3 16 (.t 6), none⟩] [2, 3])
     (.seq
      (.reg false [⟨(some 4), .mov (.c (.int .u8 1)), none⟩] [2, 3, 4])
      (.seq
       (.seq
        (.reg false [⟨(some 5), .mov (.c (.int .i64 1)), none⟩] [2, 3, 4, 5])
        (.block 0
         (.loop
          (.seq
           (.seq
            (.reg false [⟨(some 8), .mov (.t 5), none⟩,
              ⟨(some 9), .bin .leq true (.t 8) (.c (.int .i64 10)), none⟩] [2, 3, 4, 5, 9])
            (.cond 9
             (.reg false [] [2, 3, 4, 5])
             (.seq
              (.reg false [] [2, 3])
              (.exit 0))))
           (.seq
            (.block 1
             (.seq
              (.reg false [⟨(some 12), .mov (.t 5), none⟩,
                ⟨(some 13), .mov (.t 5), none⟩,
                ⟨(some 14), .bin .sub true (.t 13) (.c (.int .i64 1)), none⟩,
                ⟨(some 15), .idxB 3 16 11 (.t 14), none⟩,
                ⟨(some 16), .loadR 15 3 16 true, none⟩,
                ⟨(some 17), .mov (.t 4), none⟩,
                ⟨(some 18), .call 41 [(false, (.t 16)), (false, (.t 17))], none⟩,
                ⟨(some 19), .idxB 3 16 11 (.t 12), none⟩,
                ⟨none, .stR 19 3 16 (.t 18), none⟩] [2, 3, 4, 5])
              (.reg false [⟨(some 20), .mov (.t 4), none⟩,
                ⟨(some 21), .call 42 [(false, (.c (.int .u8 2))), (false, (.t 20))], none⟩,
                ⟨(some 4), .mov (.t 21), none⟩] [2, 3, 4, 5])))
            (.reg false [⟨(some 10), .mov (.t 5), none⟩,
              ⟨(some 11), .bin .add true (.t 10) (.c (.int .i64 1)), none⟩,
              ⟨(some 5), .mov (.t 11), none⟩] [2, 3, 4, 5]))))))
       (.seq
        (.reg false [⟨(some 22), .loadB 3 176 true, none⟩,
          ⟨none, .stB 2 176 (.t 22), none⟩] [2])
        .ret))))))
def rs29 : List RS := [.cell 2 176 true]
/-- padlock/cipher.eachByte -/
def rc53 : RC :=
  (.seq
   (.reg false [⟨(some 2), .box (.t 0), none⟩,
     ⟨(some 4), .alloc (List.replicate 16 (.int .u8 0)), none⟩] [1, 2, 4])
   (.seq
    (.seq
     (.reg false [⟨(some 6), .mov (.c (.int .i64 0)), none⟩] [1, 2, 4, 6])
     (.block 0
      (.loop
       (.seq
        (.reg false [⟨(some 7), .bin .lss true (.t 6) (.c (.int .i64 16)), none⟩] [1, 2, 4, 6, 7])
        (.seq
         (.cond 7
          (.reg false [] [1, 2, 4, 6])
          (.seq
           (.reg false [] [2, 4])
           (.exit 0)))
         (.seq
          (.block 1
           (.seq
            (.reg false [⟨(some 8), .mov (.t 6), none⟩,
              ⟨(some 5), .mov (.t 8), none⟩] [1, 2, 4, 5, 6])
            (.reg false [⟨(some 9), .mov (.t 5), none⟩,
              ⟨(some 10), .mov (.t 1), none⟩,
              ⟨(some 11), .mov (.t 5), none⟩,
              ⟨(some 12), .idxB 2 1 16 (.t 11), none⟩,
              ⟨(some 13), .loadR 12 2 1 false, none⟩,
              ⟨(some 14), .callF (.t 10) [(.t 13)] [43, 54, 56, 62], none⟩,
              ⟨(some 15), .idxB 2 1 16 (.t 9), none⟩,
              ⟨none, .stR 15 2 1 (.t 14), none⟩] [1, 2, 4, 6])))
          (.reg false [⟨(some 16), .bin .add true (.t 6) (.c (.int .i64 1)), none⟩,
            ⟨(some 6), .mov (.t 16), none⟩] [1, 2, 4, 6])))))))
    (.seq
     (.reg false [⟨(some 17), .loadB 2 16 true, none⟩,
       ⟨none, .stB 4 16 (.t 17), none⟩] [4])
     .ret)))
def rs53 : List RS := [.cell 4 16 true]
/-- padlock/cipher.eachColumn -/
def rc55 : RC :=
  (.seq
   (.reg false [⟨(some 2), .box (.t 0), none⟩,
     ⟨(some 4), .alloc (List.replicate 16 (.int .u8 0)), none⟩] [1, 2, 4])
   (.seq
    (.seq
     (.reg false [⟨(some 5), .mov (.c (.int .i64 0)), none⟩] [1, 2, 4, 5])
     (.block 0
      (.loop
       (.seq
        (.seq
         (.reg false [⟨(some 7), .mov (.t 5), none⟩,
           ⟨(some 8), .bin .lss true (.t 7) (.c (.int .i64 16)), none⟩] [1, 2, 4, 5, 8])
         (.cond 8
          (.reg false [] [1, 2, 4, 5])
          (.seq
           (.reg false [] [2, 4])
           (.exit 0))))
        (.seq
         (.block 1
          (.seq
           (.reg false [⟨(some 11), .mov (.t 1), none⟩,
             ⟨(some 12), .mov (.t 5), none⟩,
             ⟨(some 13), .mov (.t 5), none⟩,
             ⟨(some 14), .bin .add true (.t 13) (.c (.int .i64 4)), none⟩,
             ⟨(some 15), .winB 2 1 16 (some (.t 12)) (some (.t 14)), none⟩,
             ⟨(some 16), .s2aR 15 2 1 4, none⟩,
             ⟨(some 17), .loadR 16 2 4 true, none⟩,
             ⟨(some 18), .callF (.t 11) [(.t 17)] [43, 54, 56, 62], none⟩,
             ⟨(some 6), .alloc [(.int .u8 0), (.int .u8 0), (.int .u8 0), (.int .u8 0)], none⟩,
             ⟨none, .stB 6 4 (.t 18), none⟩] [1, 2, 4, 5, 6])
           (.reg true [⟨(some 19), .mov (.t 5), none⟩,
             ⟨(some 20), .winB 2 1 16 (some (.t 19)) none, none⟩,
             ⟨(some 21), .winB 6 1 4 none none, none⟩,
             ⟨(some 22), .cpyV 20 2 1 21 6, none⟩] [1, 2, 4, 5])))
         (.reg false [⟨(some 9), .mov (.t 5), none⟩,
           ⟨(some 10), .bin .add true (.t 9) (.c (.int .i64 4)), none⟩,
           ⟨(some 5), .mov (.t 10), none⟩] [1, 2, 4, 5]))))))
    (.seq
     (.reg false [⟨(some 23), .loadB 2 16 true, none⟩,
       ⟨none, .stB 4 16 (.t 23), none⟩] [4])
     .ret)))
def rs55 : List RS := [.cell 4 16 true]
/-- (padlock/cipher.Rounds).Seal -/
def rc40 : RC :=
  (.seq
   (.reg false [⟨(some 2), .box (.t 0), none⟩,
     ⟨(some 3), .box (.t 1), none⟩,
     ⟨(some 4), .alloc (List.replicate 16 (.int .u8 0)), none⟩] [2, 3, 4])
   (.seq
    (.reg false [⟨(some 6), .loadB 3 16 true, none⟩,
      ⟨(some 7), .idxB 2 16 11 (.c (.int .i64 0)), none⟩,
      ⟨(some 8), .loadR 7 2 16 true, none⟩,
      ⟨(some 9), .call 31 [(false, (.t 6)), (false, (.t 8))], none⟩,
      ⟨none, .stB 3 16 (.t 9), none⟩] [2, 3, 4])
    (.seq
     (.seq
      (.reg false [⟨(some 5), .mov (.c (.int .i64 1)), none⟩] [2, 3, 4, 5])
      (.block 0
       (.loop
        (.seq
         (.seq
          (.reg false [⟨(some 10), .mov (.t 5), none⟩,
            ⟨(some 11), .bin .lss true (.t 10) (.c (.int .i64 10)), none⟩] [2, 3, 4, 5, 11])
          (.cond 11
           (.reg false [] [2, 3, 4, 5])
           (.seq
            (.reg false [] [2, 3, 4])
            (.exit 0))))
         (.seq
          (.block 1
           (.seq
            (.reg false [⟨(some 14), .loadB 3 16 true, none⟩,
              ⟨(some 15), .call 53 [(false, (.t 14)), (false, (.c (.fn 54 [] [])))], none⟩,
              ⟨(some 16), .call 52 [(false, (.t 15))], none⟩,
              ⟨none, .stB 3 16 (.t 16), none⟩] [2, 3, 4, 5])
            (.reg true [⟨(some 17), .loadB 3 16 true, none⟩,
              ⟨(some 18), .call 55 [(false, (.t 17)), (false, (.c (.fn 56 [] [])))], none⟩,
              ⟨(some 19), .mov (.t 5), none⟩,
              ⟨(some 20), .idxB 2 16 11 (.t 19), none⟩,
              ⟨(some 21), .loadR 20 2 16 true, none⟩,
              ⟨(some 22), .call 31 [(false, (.t 18)), (false, (.t 21))], none⟩,
              ⟨none, .stB 3 16 (.t 22), none⟩] [2, 3, 4, 5])))
          (.reg false [⟨(some 12), .mov (.t 5), none⟩,
            ⟨(some 13), .bin .add true (.t 12) (.c (.int .i64 1)), none⟩,
            ⟨(some 5), .mov (.t 13), none⟩] [2, 3, 4, 5]))))))
     (.seq
      (.reg false [⟨(some 23), .loadB 3 16 true, none⟩,
        ⟨(some 24), .call 53 [(false, (.t 23)), (false, (.c (.fn 54 [] [])))], none⟩,
        ⟨(some 25), .call 52 [(false, (.t 24))], none⟩,
        ⟨none, .stB 3 16 (.t 25), none⟩] [2, 3, 4])
      (.seq
       (.reg false [⟨(some 26), .loadB 3 16 true, none⟩,
         ⟨(some 27), .idxB 2 16 11 (.c (.int .i64 10)), none⟩,
         ⟨(some 28), .loadR 27 2 16 true, none⟩,
         ⟨(some 29), .call 31 [(false, (.t 26)), (false, (.t 28))], none⟩,
         ⟨none, .stB 4 16 (.t 29), none⟩] [4])
       .ret)))))
def rs40 : List RS := [.cell 4 16 true]
def ofB (l : List UInt8) : Bl := fun i => if l.length = 16 then (l.getD i 0).toBitVec else 0#8
theorem pf31 (f : Bl) (g : Bl)  : PFx Try.prog 31 [.agg (vec8 16 f), .agg (vec8 16 g)] (.agg (vec8 16 (xo f g))) := by
  refine PFx_of_W (rc := rc31) (rs := rs31) Try.func31 rfl T22_ok hm (by kernel_rfl) (by kernel_rfl) (by simp [Try.ntmps31]) ?_
  simp [rc31, rs31, vec8_zero]
  refine W_forU 16 (fun _ => True) (fun k => [(2, .box (vec8 16 (upto k (xo f g) f))), (6, .int .i64 k)]) trivial (by simp [upto_zero]) (fun k hk _ => ?_) fun _ => ?_
  · have hk' : (k : Int) < 16 := by omega
    have e : splice (vec8 16 (upto k (xo f g) f)) k [.int .u8 (bv (f k ^^^ g k))] = _ := upto_set 16 k (xo f g) f hk
    simp [hk', hk, upto_at, bv_xor8, e, -splice]
    omega
  · simp [upto_all]
noncomputable def T31 : Tab := tabAdd T22 31 (fun _ : Bl × Bl => True) (fun z => [.agg (vec8 16 z.1), .agg (vec8 16 z.2)]) (fun z => .agg (vec8 16 (xo z.1 z.2)))
@[simp] theorem T31_eq (f : Bl) (g : Bl)  : T31 31 [.agg (vec8 16 f), .agg (vec8 16 g)] = some (.agg (vec8 16 (xo f g))) := tabAdd_eq (a := (f, g)) (by rintro ⟨f, g⟩ ⟨f', g'⟩ h; simp at h ⊢; exact xo_ag h.1 h.2) trivial rfl
@[simp] theorem T31_ne {g : Nat} {xs : List AV} (h : g ≠ 31) : T31 g xs = T22 g xs := tabAdd_ne h
theorem T31_ok : Sound Try.prog T31 := tabAdd_sound T22_ok fun z _ => pf31 z.1 z.2 
theorem pf62 (f : Bl) (i : Nat) (c : Nat) (h : i < 4 ∧ c ≤ 1000) : PFx Try.prog 62 [.agg (vec8 16 f), .int .i64 i, .int .i64 c] (.int .u8 (bv (f ((4 * (c % 4) + i) % 16)))) := by
  refine PFx_of_W (rc := rc62) (rs := rs62) Try.func62 rfl T31_ok hm (by kernel_rfl) (by kernel_rfl) (by simp [Try.ntmps62]) ?_
  obtain ⟨hi, hc⟩ := h
  have q : 4 * (c % 4) + i < 16 := by omega
  have q1 : (4 * (c % 4) + i) % 16 = 4 * (c % 4) + i := by omega
  simp [rc62, rs62, cast_muln, cast_add, tmod4, q, q1, -Int.natCast_emod, -Int.natCast_mul, -Int.natCast_add]
  omega
noncomputable def T62 : Tab := tabAdd T31 62 (fun z : Bl × Nat × Nat => z.2.1 < 4 ∧ z.2.2 ≤ 1000) (fun z => [.agg (vec8 16 z.1), .int .i64 z.2.1, .int .i64 z.2.2]) (fun z => .int .u8 (bv (z.1 ((4 * (z.2.2 % 4) + z.2.1) % 16))))
@[simp] theorem T62_eq (f : Bl) (i : Nat) (c : Nat) (h : i < 4 ∧ c ≤ 1000) : T62 62 [.agg (vec8 16 f), .int .i64 i, .int .i64 c] = some (.int .u8 (bv (f ((4 * (c % 4) + i) % 16)))) := tabAdd_eq (a := (f, i, c)) (by rintro ⟨f, i, c⟩ ⟨f', i', c'⟩ h; simp [Int.natCast_inj] at h ⊢; rw [h.2.1, h.2.2]; exact h.1 _ (by omega)) h rfl
@[simp] theorem T62_ne {g : Nat} {xs : List AV} (h : g ≠ 62) : T62 g xs = T31 g xs := tabAdd_ne h
theorem T62_ok : Sound Try.prog T62 := tabAdd_sound T31_ok fun z h => pf62 z.1 z.2.1 z.2.2 h
/-- Row i turned by i times s. -/
def rotB (f : Bl) (s : Nat) : Bl := fun n => f ((4 * ((n / 4 + n % 4 * s) % 4) + n % 4) % 16)
theorem rotB_ag {f g : Bl} (h : Ag f g) (s : Nat) : Ag (rotB f s) (rotB g s) := fun _ _ => h _ (Nat.mod_lt _ (by decide))
theorem rot1 (f : Bl) : vec8 16 (rotB f 1) = vec8 16 (turn f) := vec8_ext fun i hi => by unfold rotB turn; congr 1; omega
theorem rot3 (f : Bl) : vec8 16 (rotB f 3) = vec8 16 (unturn f) := vec8_ext fun i hi => by unfold rotB unturn; congr 1; omega
theorem pf61 (f : Bl) (s : Nat) (h : s ≤ 3) : PFx Try.prog 61 [.fn 62 [.agg (vec8 16 f)] [], .int .i64 s] (.agg (vec8 16 (rotB f s))) := by
  refine PFx_of_W (rc := rc61) (rs := rs61) Try.func61 rfl T62_ok hm (by kernel_rfl) (by kernel_rfl) (by simp [Try.ntmps61]) ?_
  simp [rc61, rs61, vec8_zero]
  refine W_forU 16 (fun _ => True) (fun k => [(5, .box (vec8 16 (upto k (rotB f s) fun _ => 0#8))), (9, .int .i64 k)]) trivial (by simp [upto_zero]) (fun k hk _ => ?_) fun _ => ?_
  · have hk' : (k : Int) < 16 := by omega
    have e := upto_set 16 k (rotB f s) (fun _ => 0#8) hk
    obtain ⟨d, hd⟩ : ∃ d, d = k / 4 := ⟨_, rfl⟩
    have d1 : (k : Int).tdiv 4 = (d : Int) := by rw [tdiv4, hd]
    have d2 : (k : Int) / 4 = (d : Int) := by omega
    obtain ⟨m, hm⟩ : ∃ m, m = k % 4 := ⟨_, rfl⟩
    have m1 : (k : Int).tmod 4 = (m : Int) := by rw [tmod4, hm]
    have m2 : (k : Int) % 4 = (m : Int) := by omega
    have m4 : m < 4 := by omega
    have ms : m * s ≤ 12 := Nat.le_trans (Nat.mul_le_mul (show m ≤ 4 by omega) h) (by decide)
    have q : d + m * s ≤ 1000 := by omega
    have a : T62 62 [.agg (vec8 16 f), .int .i64 (m : Nat), .int .i64 ((d + m * s : Nat) : Int)] = some (.int .u8 (bv (rotB f s k))) := by
      rw [T62_eq f m (d + m * s) ⟨m4, q⟩]; unfold rotB; rw [← hd, ← hm]
    simp [hk', hk, d1, d2, m1, m2, cast_mul, cast_add, a, e, -T62_eq, -splice, -Int.natCast_emod, -Int.natCast_ediv, -Int.natCast_mul, -Int.natCast_add]
    omega
  · simp [upto_all]
noncomputable def T61 : Tab := tabAdd T62 61 (fun z : Bl × Nat => z.2 ≤ 3) (fun z => [.fn 62 [.agg (vec8 16 z.1)] [], .int .i64 z.2]) (fun z => .agg (vec8 16 (rotB z.1 z.2)))
@[simp] theorem T61_eq (f : Bl) (s : Nat) (h : s ≤ 3) : T61 61 [.fn 62 [.agg (vec8 16 f)] [], .int .i64 s] = some (.agg (vec8 16 (rotB f s))) := tabAdd_eq (a := (f, s)) (by rintro ⟨f, s⟩ ⟨f', s'⟩ h; simp [Int.natCast_inj] at h ⊢; rw [h.2]; exact rotB_ag h.1 s') h rfl
@[simp] theorem T61_ne {g : Nat} {xs : List AV} (h : g ≠ 61) : T61 g xs = T62 g xs := tabAdd_ne h
theorem T61_ok : Sound Try.prog T61 := tabAdd_sound T62_ok fun z h => pf61 z.1 z.2 h
theorem pf52 (f : Bl)  : PFx Try.prog 52 [.agg (vec8 16 f)] (.agg (vec8 16 (turn f))) := by
  refine PFx_of_W (rc := rc52) (rs := rs52) Try.func52 rfl T61_ok hm (by kernel_rfl) (by kernel_rfl) (by simp [Try.ntmps52]) ?_
  have e : T61 61 [.fn 62 [.agg (vec8 16 f)] [], .int .i64 1] = some (.agg (vec8 16 (turn f))) := (T61_eq f 1 (by decide)).trans (by rw [rot1])
  simp [rc52, rs52, e]
noncomputable def T52 : Tab := tabAdd T61 52 (fun _ : Bl => True) (fun z => [.agg (vec8 16 z)]) (fun z => .agg (vec8 16 (turn z)))
@[simp] theorem T52_eq (f : Bl)  : T52 52 [.agg (vec8 16 f)] = some (.agg (vec8 16 (turn f))) := tabAdd_eq (a := f) (fun f g h => by simp at h ⊢; exact turn_ag h) trivial rfl
@[simp] theorem T52_ne {g : Nat} {xs : List AV} (h : g ≠ 52) : T52 g xs = T61 g xs := tabAdd_ne h
theorem T52_ok : Sound Try.prog T52 := tabAdd_sound T61_ok fun z _ => pf52 z 
/-- The word that is put to. -/
def tt (key : Bl) (c : B) (k : Nat) : Bl := fun j => if k ≤ j then t0 key c j else nx key c (j + 4 * ((k - 1 - j) / 4))
theorem pf41 (f : Bl) (c : B)  : PFx Try.prog 41 [.agg (vec8 16 f), .int .u8 (bv c)] (.agg (vec8 16 (nx f c))) := by
  refine PFx_of_W (rc := rc41) (rs := rs41) Try.func41 rfl T52_ok hm (by kernel_rfl) (by kernel_rfl) (by simp [Try.ntmps41]) ?_
  have z : ∀ (a b c d : AV), [a, b, c, d] = [a, b, c, d] := fun _ _ _ _ => rfl
  have f0 : [AV.int .u8 (bv (box (f 13) ^^^ c)), .int .u8 (bv (box (f 14))), .int .u8 (bv (box (f 15))), .int .u8 (bv (box (f 12)))] = vec8 4 (tt f c 0) := by rw [vec8_4]; simp [tt, t0]
  simp [rc41, rs41, vec8_zero, bv_xor8, f0]
  refine W_forU 16 (fun _ => True) (fun k => [(2, .box (vec8 16 (upto k (nx f c) f))), (5, .box (vec8 4 (tt f c k))), (25, .int .i64 k)]) trivial (by simp [upto_zero]) (fun k hk _ => ?_) fun _ => ?_
  · have hk' : (k : Int) < 16 := by omega
    have t1 : nx f c k = f k ^^^ tt f c k (k % 4) := by
      rw [nx.eq_1]
      by_cases h4 : k < 4
      · rw [if_pos h4, tt, if_pos (by omega), Nat.mod_eq_of_lt h4]
      · rw [if_neg h4, tt, if_neg (by omega)]; congr 2; omega
    have e : splice (vec8 16 (upto k (nx f c) f)) k [.int .u8 (bv (f k ^^^ tt f c k (k % 4)))] = vec8 16 (upto (k + 1) (nx f c) f) := by rw [← t1]; exact upto_set 16 k (nx f c) f hk
    have e2 : splice (vec8 4 (tt f c k)) (k % 4) [.int .u8 (bv (nx f c k))] = vec8 4 (tt f c (k + 1)) := by
      rw [vec8_set 4 (k % 4) _ _ (by omega)]
      apply vec8_ext
      intro j hj
      by_cases hj2 : j = k % 4
      · rw [if_pos hj2, tt, if_neg (by omega)]; congr 1; omega
      · rw [if_neg hj2, tt, tt]
        by_cases h1 : k ≤ j
        · rw [if_pos h1, if_pos (by omega)]
        · rw [if_neg h1, if_neg (by omega)]; congr 1; omega
    have u : upto (k + 1) (nx f c) f k = nx f c k := by unfold upto; rw [if_pos (by omega)]
    obtain ⟨m, hm⟩ : ∃ m, m = k % 4 := ⟨_, rfl⟩
    have m1 : (k : Int).tmod 4 = (m : Int) := by rw [tmod4, hm]
    have m2 : (k : Int) % 4 = (m : Int) := by omega
    have m4 : m < 4 := by omega
    rw [← hm] at e e2
    simp [hk', hk, m1, m2, m4, upto_at, bv_xor8, e, e2, u, -splice]
    omega
  · simp [upto_all]
noncomputable def T41 : Tab := tabAdd T52 41 (fun _ : Bl × B => True) (fun z => [.agg (vec8 16 z.1), .int .u8 (bv z.2)]) (fun z => .agg (vec8 16 (nx z.1 z.2)))
@[simp] theorem T41_eq (f : Bl) (c : B)  : T41 41 [.agg (vec8 16 f), .int .u8 (bv c)] = some (.agg (vec8 16 (nx f c))) := tabAdd_eq (a := (f, c)) (by rintro ⟨f, c⟩ ⟨f', c'⟩ h; simp at h ⊢; rw [h.2]; exact nx_ag h.1 c') trivial rfl
@[simp] theorem T41_ne {g : Nat} {xs : List AV} (h : g ≠ 41) : T41 g xs = T52 g xs := tabAdd_ne h
theorem T41_ok : Sound Try.prog T41 := tabAdd_sound T52_ok fun z _ => pf41 z.1 z.2 
theorem pf29 (f : Bl)  : PFx Try.prog 29 [.agg (vec8 16 f)] (.agg (vec8 176 (ks f))) := by
  refine PFx_of_W (rc := rc29) (rs := rs29) Try.func29 rfl T41_ok hm (by kernel_rfl) (by kernel_rfl) (by simp [Try.ntmps29]) ?_
  have ci : ∀ n, T42 42 [.int .u8 2, .int .u8 (bv (cst n))] = some (.int .u8 (bv (cst (n + 1)))) := fun n => T42_eq 2#8 (cst n)
  have e0 : splice (vec8 176 fun _ => 0#8) 0 (vec8 16 f) = vec8 176 (upto 16 (ks f) fun _ => 0#8) := by
    have := upto_part 176 0 16 (ks f) (fun _ => 0#8) (by decide)
    simp only [Nat.zero_mul, Nat.zero_add, Nat.one_mul, upto_zero] at this
    rw [← this]
    congr 1
    exact vec8_ext fun i hi => (ks_lo f hi).symm
  simp [rc29, rs29, vec8_zero, e0, -splice]
  refine W_forU 10 (fun _ => True) (fun k => [(3, .box (vec8 176 (upto ((k + 1) * 16) (ks f) fun _ => 0#8))), (4, .int .u8 (bv (cst k))), (5, .int .i64 ((k + 1 : Nat) : Int))]) trivial (by simp; decide) (fun k hk _ => ?_) fun _ => ?_
  · have hk' : ((k + 1 : Nat) : Int) ≤ 10 := by omega
    have hk2 : ((k + 1 : Nat) : Int) < 11 := by omega
    have m1 : ((k + 1 : Nat) : Int) - 1 = (k : Int) := by omega
    have p : ((vec8 176 (upto ((k + 1) * 16) (ks f) fun _ => 0#8)).drop (k * 16)).take 16 = vec8 16 (rk (ks f) k) := by
      rw [vec8_part 176 (k * 16) 16 _ (by omega)]
      exact vec8_ext fun i hi => by unfold upto rk; rw [if_pos (by omega)]
    have q : vec8 16 (nx (rk (ks f) k) (cst k)) = vec8 16 fun i => ks f ((k + 1) * 16 + i) := vec8_ext fun i hi => (ks_nx f k i hi).symm
    have e := upto_part 176 (k + 1) 16 (ks f) (fun _ => 0#8) (by omega)
    simp [hk', hk2, m1, p, q, e, ci, -splice, -Int.natCast_add]
    omega
  · simp [upto_all]
noncomputable def T29 : Tab := tabAdd T41 29 (fun _ : Bl => True) (fun z => [.agg (vec8 16 z)]) (fun z => .agg (vec8 176 (ks z)))
@[simp] theorem T29_eq (f : Bl)  : T29 29 [.agg (vec8 16 f)] = some (.agg (vec8 176 (ks f))) := tabAdd_eq (a := f) (fun f g h => by simp at h ⊢; intro i _; exact ks_ag h i) trivial rfl
@[simp] theorem T29_ne {g : Nat} {xs : List AV} (h : g ≠ 29) : T29 g xs = T41 g xs := tabAdd_ne h
theorem T29_ok : Sound Try.prog T29 := tabAdd_sound T41_ok fun z _ => pf29 z 
theorem pf53 (f : Bl)  : PFx Try.prog 53 [.agg (vec8 16 f), .fn 54 [] []] (.agg (vec8 16 (bxs false f))) := by
  refine PFx_of_W (rc := rc53) (rs := rs53) Try.func53 rfl T29_ok hm (by kernel_rfl) (by kernel_rfl) (by simp [Try.ntmps53]) ?_
  simp [rc53, rs53, vec8_zero]
  refine W_forU 16 (fun _ => True) (fun k => [(2, .box (vec8 16 (upto k (bxs false f) f))), (6, .int .i64 k)]) trivial (by simp [upto_zero]) (fun k hk _ => ?_) fun _ => ?_
  · have hk' : (k : Int) < 16 := by omega
    have e : splice (vec8 16 (upto k (bxs false f) f)) k [.int .u8 (bv (box (f k)))] = _ := upto_set 16 k (bxs false f) f hk
    simp [hk', hk, upto_at, e, -splice]
    omega
  · simp [upto_all]
noncomputable def T53 : Tab := tabAdd T29 53 (fun _ : Bl => True) (fun z => [.agg (vec8 16 z), .fn 54 [] []]) (fun z => .agg (vec8 16 (bxs false z)))
@[simp] theorem T53_eq (f : Bl)  : T53 53 [.agg (vec8 16 f), .fn 54 [] []] = some (.agg (vec8 16 (bxs false f))) := tabAdd_eq (a := f) (by intro f f' h; simp at h ⊢; exact bxs_ag _ h) trivial rfl
@[simp] theorem T53_ne {g : Nat} {xs : List AV} (h : g ≠ 53) : T53 g xs = T29 g xs := tabAdd_ne h
theorem T53_ok : Sound Try.prog T53 := tabAdd_sound T29_ok fun z _ => pf53 z 
theorem mixed (u : Bool) (f : Bl) (c : Nat) (h : c < 4) : splice (vec8 16 (upto (4 * c) (mxs u f) f)) (4 * c) (vec8 4 (comp (bif u then unmix (col f c) else mix (col f c)))) = vec8 16 (upto (4 * c + 4) (mxs u f) f) := by
  have e := upto_part 16 c 4 (mxs u f) f (by omega)
  rw [show c * 4 = 4 * c by omega, show (c + 1) * 4 = 4 * c + 4 by omega] at e
  rw [← e]
  congr 1
  apply vec8_ext
  intro i hi
  unfold mxs
  rw [show (4 * c + i) / 4 = c by omega, show (4 * c + i) % 4 = i by omega]
theorem colpart (u : Bool) (f : Bl) (c : Nat) (h : c < 4) : ((vec8 16 (upto (4 * c) (mxs u f) f)).drop (4 * c)).take 4 = colA (col f c) := by
  rw [vec8_part 16 (4 * c) 4 _ (by omega), vec8_4]
  have : ∀ i, upto (4 * c) (mxs u f) f (4 * c + i) = f (4 * c + i) := fun i => by unfold upto; rw [if_neg (by omega)]
  rw [this, this, this, this]; rfl
theorem pf55 (f : Bl)  : PFx Try.prog 55 [.agg (vec8 16 f), .fn 56 [] []] (.agg (vec8 16 (mxs false f))) := by
  refine PFx_of_W (rc := rc55) (rs := rs55) Try.func55 rfl T53_ok hm (by kernel_rfl) (by kernel_rfl) (by simp [Try.ntmps55]) ?_
  simp [rc55, rs55, vec8_zero]
  refine W_forU 4 (fun _ => True) (fun c => [(2, .box (vec8 16 (upto (4 * c) (mxs false f) f))), (5, .int .i64 ((4 * c : Nat) : Int))]) trivial (by simp [upto_zero]) (fun c hc _ => ?_) fun _ => ?_
  · have hc' : ((4 * c : Nat) : Int) < 16 := by omega
    have p := colpart false f c hc
    have e := mixed false f c hc
    have t : T56 56 [.agg (colA (col f c))] = some (.agg (vec8 4 (comp (mix (col f c))))) := T56_eq (col f c)
    have s4 : 4 * c + 4 - 4 * c = 4 := by omega
    have mn : min (16 - 4 * c) 4 = 4 := by omega
    simp only [cond_false, cond_true] at e
    simp [hc', hc, cast_addn, p, e, t, s4, mn, show 4 * (c + 1) = 4 * c + 4 from rfl, -T56_eq, -splice, -Int.natCast_add, -Int.natCast_mul]
    omega
  · simp [upto_all]
noncomputable def T55 : Tab := tabAdd T53 55 (fun _ : Bl => True) (fun z => [.agg (vec8 16 z), .fn 56 [] []]) (fun z => .agg (vec8 16 (mxs false z)))
@[simp] theorem T55_eq (f : Bl)  : T55 55 [.agg (vec8 16 f), .fn 56 [] []] = some (.agg (vec8 16 (mxs false f))) := tabAdd_eq (a := f) (by intro f f' h; simp at h ⊢; exact mxs_ag _ h) trivial rfl
@[simp] theorem T55_ne {g : Nat} {xs : List AV} (h : g ≠ 55) : T55 g xs = T53 g xs := tabAdd_ne h
theorem T55_ok : Sound Try.prog T55 := tabAdd_sound T53_ok fun z _ => pf55 z 
theorem pf40 (r : Bl) (b : Bl)  : PFx Try.prog 40 [.agg (vec8 176 r), .agg (vec8 16 b)] (.agg (vec8 16 (sel r b))) := by
  refine PFx_of_W (rc := rc40) (rs := rs40) Try.func40 rfl T55_ok hm (by kernel_rfl) (by kernel_rfl) (by simp [Try.ntmps40]) ?_
  have eb : ∀ f, T53 53 [.agg (vec8 16 f), .fn 54 [] []] = some (.agg (vec8 16 (bxs false f))) := fun f => T53_eq f
  have ec : ∀ f, T55 55 [.agg (vec8 16 f), .fn 56 [] []] = some (.agg (vec8 16 (mxs false f))) := fun f => T55_eq f
  simp [rc40, rs40, vec8_zero]
  have p0 : vec8 16 (xo b r) = vec8 16 (xo b (rk r 0)) := vec8_ext fun i _ => by unfold xo rk; congr 2; omega
  refine W_forU 9 (fun _ => True) (fun k => [(3, .box (vec8 16 (st r b k))), (5, .int .i64 ((k + 1 : Nat) : Int))]) trivial (by simp [st, p0, -vec8_inj]) (fun k hk _ => ?_) fun _ => ?_
  · have e : st r b (k + 1) = xo (mxs false (turn (bxs false (st r b k)))) (rk r (k + 1)) := by rw [st, if_pos hk]
    have h1 : ((k + 1 : Nat) : Int) < 10 := by omega
    have p : ((vec8 176 r).drop ((k + 1) * 16)).take 16 = vec8 16 (rk r (k + 1)) := vec8_part 176 ((k + 1) * 16) 16 r (by omega)
    simp [h1, e, p, eb, ec, -Int.natCast_add]
    omega
  · have p : ((vec8 176 r).drop 160).take 16 = vec8 16 (rk r 10) := vec8_part 176 160 16 r (by omega)
    have e : st r b 10 = xo (turn (bxs false (st r b 9))) (rk r 10) := rfl
    simp [sel, p, e, eb, ec]
noncomputable def T40 : Tab := tabAdd T55 40 (fun _ : Bl × Bl => True) (fun z => [.agg (vec8 176 z.1), .agg (vec8 16 z.2)]) (fun z => .agg (vec8 16 (sel z.1 z.2)))
@[simp] theorem T40_eq (r : Bl) (b : Bl)  : T40 40 [.agg (vec8 176 r), .agg (vec8 16 b)] = some (.agg (vec8 16 (sel r b))) := tabAdd_eq (a := (r, b)) (by rintro ⟨f, g⟩ ⟨f', g'⟩ h; simp at h ⊢; exact sel_ag (rk_ag h.1) h.2) trivial rfl
@[simp] theorem T40_ne {g : Nat} {xs : List AV} (h : g ≠ 40) : T40 g xs = T55 g xs := tabAdd_ne h
theorem T40_ok : Sound Try.prog T40 := tabAdd_sound T55_ok fun z _ => pf40 z.1 z.2 
end Go.Proofs.Ytlihfdbfcklkmaa

