/- The program's gcm. -/
import Derived.Test.YtlihfdbfcklkmaaW0
import Derived.Test.YtlihfdbfcklkmaaWP
set_option linter.unusedVariables false
set_option linter.unusedSimpArgs false
namespace Go.Proofs.Ytlihfdbfcklkmaa
open Go.Proofs.Ytlihfdbfcklkmaa.Pad Go.Proofs.Ytlihfdbfcklkmaa.Pad.Ci Go.Proofs.Ytlihfdbfcklkmaa.Pad.Gc
open Go.Proofs.Ytlihfdbfcklkmaa.Pad.Gh (tx sumT)
/-- padlock/gcm.begin -/
def rc20 : RC :=
  (.seq
   (.reg false [⟨(some 2), .box (.t 0), none⟩,
     ⟨(some 4), .alloc (List.replicate 192 (.int .u8 0) ++ [(.int .u32 0)]), none⟩,
     ⟨(some 5), .mov (.c (.int .i64 0)), none⟩] [1, 2, 4])
   (.seq
    (.seq
     (.reg false [⟨(some 7), .mov (.t 1), none⟩,
       ⟨(some 8), .len true (.t 7), none⟩,
       ⟨(some 9), .bin .neq true (.t 8) (.c (.int .i64 12)), none⟩] [1, 2, 4, 9])
     (.cond 9
      (.seq
       (.reg false [⟨(some 10), .build (List.replicate 192 (.int .u8 0) ++ [(.int .u32 0)]) [], none⟩,
         ⟨none, .stB 4 193 (.t 10), none⟩,
         ⟨(some 5), .mov (.c (.int .i64 2)), none⟩] [4, 5])
       .ret)
      (.reg false [] [1, 2, 4])))
    (.seq
     (.reg false [⟨(some 11), .loadB 2 16 true, none⟩,
       ⟨(some 12), .call 29 [(false, (.t 11))], none⟩,
       ⟨(some 13), .build (List.replicate 192 (.int .u8 0) ++ [(.int .u32 0)]) [(0, 176, (.t 12))], none⟩,
       ⟨(some 6), .alloc (List.replicate 192 (.int .u8 0) ++ [(.int .u32 0)]), none⟩,
       ⟨none, .stB 6 193 (.t 13), none⟩] [1, 4, 6])
     (.seq
      (.reg false [⟨(some 14), .fldB 6 176, none⟩,
        ⟨(some 15), .winR 14 6 1 16 none none, none⟩,
        ⟨(some 16), .mov (.t 1), none⟩,
        ⟨(some 17), .cpy 15 6 1 (.t 16), none⟩] [4, 6])
      (.seq
       (.reg false [⟨(some 18), .loadB 6 193 true, none⟩,
         ⟨none, .stB 4 193 (.t 18), none⟩,
         ⟨(some 5), .mov (.c (.int .i64 0)), none⟩] [4, 5])
       .ret)))))
def rs20 : List RS := [.cell 4 193 true, .tmp 5]
/-- padlock/gcm.hash -/
def rc28 : RC :=
  (.seq
   (.reg false [⟨(some 1), .box (.t 0), none⟩,
     ⟨(some 2), .alloc (List.replicate 16 (.int .u8 0)), none⟩] [1, 2])
   (.seq
    (.reg false [⟨(some 3), .loadB 1 176 true, none⟩,
      ⟨(some 4), .build (List.replicate 16 (.int .u8 0)) [], none⟩,
      ⟨(some 5), .call 40 [(false, (.t 3)), (false, (.t 4))], none⟩,
      ⟨none, .stB 2 16 (.t 5), none⟩] [2])
    .ret))
def rs28 : List RS := [.cell 2 16 true]
/-- (padlock/gcm.state).keyStream$1 -/
def rc43 : RC :=
  (.seq
   (.reg false [⟨(some 1), .alloc (List.replicate 16 (.int .u8 0)), none⟩] [0, 1])
   (.seq
    (.reg false [⟨(some 3), .fldB 0 192, none⟩,
      ⟨(some 4), .loadR 3 0 1 false, none⟩,
      ⟨(some 5), .bin .shr false (.t 4) (.c (.int .u64 24)), none⟩,
      ⟨(some 6), .conv false .u8 (.t 5), none⟩,
      ⟨(some 7), .fldB 0 192, none⟩,
      ⟨(some 8), .loadR 7 0 1 false, none⟩,
      ⟨(some 9), .bin .shr false (.t 8) (.c (.int .u64 16)), none⟩,
      ⟨(some 10), .conv false .u8 (.t 9), none⟩,
      ⟨(some 11), .fldB 0 192, none⟩,
      ⟨(some 12), .loadR 11 0 1 false, none⟩,
      ⟨(some 13), .bin .shr false (.t 12) (.c (.int .u64 8)), none⟩,
      ⟨(some 14), .conv false .u8 (.t 13), none⟩,
      ⟨(some 15), .fldB 0 192, none⟩,
      ⟨(some 16), .loadR 15 0 1 false, none⟩,
      ⟨(some 17), .conv false .u8 (.t 16), none⟩,
      ⟨(some 18), .build [(.int .u8 0), (.int .u8 0), (.int .u8 0), (.int .u8 0)] [(0, 1, (.t 6)), (1, 1, (.t 10)), (2, 1, (.t 14)), (3, 1, (.t 17))], none⟩,
      ⟨(some 2), .alloc [(.int .u8 0), (.int .u8 0), (.int .u8 0), (.int .u8 0)], none⟩,
      ⟨none, .stB 2 4 (.t 18), none⟩] [0, 1, 2])
    (.seq
     (.reg true [⟨(some 19), .fldB 0 176, none⟩,
       ⟨(some 20), .winR 19 0 1 16 (some (.c (.int .i64 12))) none, none⟩,
       ⟨(some 21), .winB 2 1 4 none none, none⟩,
       ⟨(some 22), .cpyV 20 0 1 21 2, none⟩] [0, 1])
     (.seq
      (.reg false [⟨(some 23), .fldB 0 192, none⟩,
        ⟨(some 24), .loadR 23 0 1 false, none⟩,
        ⟨(some 25), .bin .add false (.t 24) (.c (.int .u32 1)), none⟩,
        ⟨(some 26), .fldB 0 192, none⟩,
        ⟨none, .stR 26 0 1 (.t 25), none⟩] [0, 1])
      (.seq
       (.reg false [⟨(some 27), .fldB 0 0, none⟩,
         ⟨(some 28), .loadR 27 0 176 true, none⟩,
         ⟨(some 29), .fldB 0 176, none⟩,
         ⟨(some 30), .loadR 29 0 16 true, none⟩,
         ⟨(some 31), .call 40 [(false, (.t 28)), (false, (.t 30))], none⟩,
         ⟨none, .stB 1 16 (.t 31), none⟩] [0, 1])
       .ret)))))
def rs43 : List RS := [.cell 1 16 true]
/-- (padlock/gcm.state).keyStream -/
def rc30 : RC :=
  (.seq
   (.reg false [⟨(some 2), .box (.t 0), none⟩,
     ⟨(some 4), .mov (.c .nilF), none⟩] [1, 2])
   (.seq
    (.reg false [⟨(some 5), .mov (.t 1), none⟩,
      ⟨(some 6), .fldB 2 192, none⟩,
      ⟨none, .stR 6 2 1 (.t 5), none⟩] [2])
    (.seq
     (.reg false [⟨(some 7), .mkC 43 2, none⟩,
       ⟨(some 4), .stealM 7, none⟩] [4])
     .ret)))
def rs30 : List RS := [.tmp 4]
/-- (padlock/gcm.state).stream -/
def rc21 : RC :=
  (.seq
   (.reg false [⟨(some 3), .box (.t 0), none⟩,
     ⟨(some 6), .mov (.c (.str [])), none⟩] [1, 2, 3])
   (.seq
    (.reg false [⟨(some 11), .loadB 3 193 true, none⟩,
      ⟨(some 12), .mov (.t 1), none⟩,
      ⟨(some 13), .call 30 [(false, (.t 11)), (false, (.t 12))], none⟩,
      ⟨(some 7), .stealM 13, none⟩] [2, 7])
    (.seq
     (.reg false [⟨(some 14), .mov (.t 2), none⟩,
       ⟨(some 15), .s2bM (.t 14), none⟩,
       ⟨(some 8), .stealM 15, none⟩] [7, 8])
     (.seq
      (.seq
       (.reg false [⟨(some 16), .al 8, none⟩,
         ⟨(some 9), .wnV 16 8 1, none⟩] [7, 8, 9])
       (.block 0
        (.loop
         (.seq
          (.seq
           (.reg false [⟨(some 17), .wnV 9 8 1, none⟩,
             ⟨(some 18), .lenM 17 8, none⟩,
             ⟨(some 19), .bin .gtr true (.t 18) (.c (.int .i64 0)), none⟩] [7, 8, 9, 19])
           (.cond 19
            (.reg false [] [7, 8, 9])
            (.seq
             (.reg false [] [8])
             (.exit 0))))
          (.block 1
           (.seq
            (.reg false [⟨(some 10), .alloc (List.replicate 16 (.int .u8 0)), none⟩] [7, 8, 9, 10])
            (.seq
             (.reg false [⟨(some 20), .winB 10 1 16 none none, none⟩,
               ⟨(some 21), .wnV 9 8 1, none⟩,
               ⟨(some 22), .cpyV 20 10 1 21 8, none⟩] [7, 8, 9, 10])
             (.seq
              (.reg true [⟨(some 23), .loadB 10 16 true, none⟩,
                ⟨(some 24), .al 7, none⟩,
                ⟨(some 25), .callC 24 7 [] [43, 54, 56, 62], none⟩,
                ⟨(some 26), .call 31 [(false, (.t 23)), (false, (.t 25))], none⟩,
                ⟨none, .stB 10 16 (.t 26), none⟩] [7, 8, 9, 10])
              (.reg false [⟨(some 27), .wnV 9 8 1, none⟩,
                ⟨(some 28), .wnV 9 8 1, none⟩,
                ⟨(some 29), .winB 10 1 16 none none, none⟩,
                ⟨(some 30), .cpyV 28 8 1 29 10, none⟩,
                ⟨(some 31), .winX 27 8 1 (some (.t 30)) none, none⟩,
                ⟨(some 9), .wnV 31 8 1, none⟩] [7, 8, 9])))))))))
      (.seq
       (.reg false [⟨(some 32), .al 8, none⟩,
         ⟨(some 33), .b2sM 32 8, none⟩,
         ⟨(some 6), .mov (.t 33), none⟩] [6])
       .ret)))))
def rs21 : List RS := [.tmp 6]
/-- (padlock/gcm.state).tag -/
def rc25 : RC :=
  (.seq
   (.reg false [⟨(some 3), .box (.t 0), none⟩,
     ⟨(some 6), .mov (.c (.str [])), none⟩] [1, 2, 3])
   (.seq
    (.reg false [⟨(some 9), .fldB 3 0, none⟩,
      ⟨(some 10), .loadR 9 3 176 true, none⟩,
      ⟨(some 11), .call 28 [(false, (.t 10))], none⟩,
      ⟨(some 12), .mov (.t 1), none⟩,
      ⟨(some 13), .mov (.t 2), none⟩,
      ⟨(some 14), .call 37 [(false, (.t 11)), (false, (.t 12)), (false, (.t 13))], none⟩,
      ⟨(some 7), .alloc (List.replicate 16 (.int .u8 0)), none⟩,
      ⟨none, .stB 7 16 (.t 14), none⟩] [3, 7])
    (.seq
     (.reg false [⟨(some 15), .loadB 3 193 true, none⟩,
       ⟨(some 16), .call 30 [(false, (.t 15)), (false, (.c (.int .u32 1)))], none⟩,
       ⟨(some 8), .stealM 16, none⟩] [7, 8])
     (.seq
      (.reg true [⟨(some 17), .loadB 7 16 true, none⟩,
        ⟨(some 18), .al 8, none⟩,
        ⟨(some 19), .callC 18 8 [] [43, 54, 56, 62], none⟩,
        ⟨(some 20), .call 31 [(false, (.t 17)), (false, (.t 19))], none⟩,
        ⟨none, .stB 7 16 (.t 20), none⟩] [7])
      (.seq
       (.reg false [⟨(some 21), .winB 7 1 16 none none, none⟩,
         ⟨(some 22), .b2sM 21 7, none⟩,
         ⟨(some 6), .mov (.t 22), none⟩] [6])
       .ret)))))
def rs25 : List RS := [.tmp 6]
/-- padlock/gcm.Stream -/
def rc10 : RC :=
  (.seq
   (.reg false [⟨(some 4), .box (.t 0), none⟩,
     ⟨(some 8), .mov (.c (.str [])), none⟩,
     ⟨(some 9), .mov (.c (.int .i64 0)), none⟩] [1, 2, 3, 4])
   (.seq
    (.reg false [⟨(some 13), .loadB 4 16 true, none⟩,
      ⟨(some 14), .mov (.t 1), none⟩,
      ⟨(some 15), .call 20 [(false, (.t 13)), (false, (.t 14))], none⟩,
      ⟨(some 12), .mov (.t 15), none⟩,
      ⟨(some 16), .ext (.t 12) 0, none⟩,
      ⟨(some 17), .ext (.t 12) 1, none⟩,
      ⟨(some 10), .alloc (List.replicate 192 (.int .u8 0) ++ [(.int .u32 0)]), none⟩,
      ⟨none, .stB 10 193 (.t 16), none⟩,
      ⟨(some 11), .mov (.t 17), none⟩] [2, 3, 10, 11])
    (.seq
     (.seq
      (.reg false [⟨(some 18), .mov (.t 11), none⟩,
        ⟨(some 19), .bin .neq true (.t 18) (.c (.int .i64 0)), none⟩] [2, 3, 10, 11, 19])
      (.cond 19
       (.seq
        (.reg false [⟨(some 20), .mov (.t 11), none⟩,
          ⟨(some 8), .mov (.c (.str [])), none⟩,
          ⟨(some 9), .mov (.t 20), none⟩] [8, 9])
        .ret)
       (.reg false [] [2, 3, 10])))
     (.seq
      (.reg false [⟨(some 21), .loadB 10 193 true, none⟩,
        ⟨(some 22), .mov (.t 2), none⟩,
        ⟨(some 23), .mov (.t 3), none⟩,
        ⟨(some 24), .call 21 [(false, (.t 21)), (false, (.t 22)), (false, (.t 23))], none⟩,
        ⟨(some 8), .mov (.t 24), none⟩,
        ⟨(some 9), .mov (.c (.int .i64 0)), none⟩] [8, 9])
      .ret))))
def rs10 : List RS := [.tmp 8, .tmp 9]
/-- padlock/gcm.Tag -/
def rc12 : RC :=
  (.seq
   (.reg false [⟨(some 4), .box (.t 0), none⟩,
     ⟨(some 8), .mov (.c (.str [])), none⟩,
     ⟨(some 9), .mov (.c (.int .i64 0)), none⟩] [1, 2, 3, 4])
   (.seq
    (.reg false [⟨(some 13), .loadB 4 16 true, none⟩,
      ⟨(some 14), .mov (.t 1), none⟩,
      ⟨(some 15), .call 20 [(false, (.t 13)), (false, (.t 14))], none⟩,
      ⟨(some 12), .mov (.t 15), none⟩,
      ⟨(some 16), .ext (.t 12) 0, none⟩,
      ⟨(some 17), .ext (.t 12) 1, none⟩,
      ⟨(some 10), .alloc (List.replicate 192 (.int .u8 0) ++ [(.int .u32 0)]), none⟩,
      ⟨none, .stB 10 193 (.t 16), none⟩,
      ⟨(some 11), .mov (.t 17), none⟩] [2, 3, 10, 11])
    (.seq
     (.seq
      (.reg false [⟨(some 18), .mov (.t 11), none⟩,
        ⟨(some 19), .bin .neq true (.t 18) (.c (.int .i64 0)), none⟩] [2, 3, 10, 11, 19])
      (.cond 19
       (.seq
        (.reg false [⟨(some 20), .mov (.t 11), none⟩,
          ⟨(some 8), .mov (.c (.str [])), none⟩,
          ⟨(some 9), .mov (.t 20), none⟩] [8, 9])
        .ret)
       (.reg false [] [2, 3, 10])))
     (.seq
      (.reg false [⟨(some 21), .loadB 10 193 true, none⟩,
        ⟨(some 22), .mov (.t 2), none⟩,
        ⟨(some 23), .mov (.t 3), none⟩,
        ⟨(some 24), .call 25 [(false, (.t 21)), (false, (.t 22)), (false, (.t 23))], none⟩,
        ⟨(some 8), .mov (.t 24), none⟩,
        ⟨(some 9), .mov (.c (.int .i64 0)), none⟩] [8, 9])
      .ret))))
def rs12 : List RS := [.tmp 8, .tmp 9]
/-- padlock/gcm.Hash -/
def rc14 : RC :=
  (.seq
   (.reg false [⟨(some 1), .box (.t 0), none⟩,
     ⟨(some 2), .alloc (List.replicate 16 (.int .u8 0)), none⟩] [1, 2])
   (.seq
    (.reg false [⟨(some 3), .loadB 1 16 true, none⟩,
      ⟨(some 4), .call 29 [(false, (.t 3))], none⟩,
      ⟨(some 5), .call 28 [(false, (.t 4))], none⟩,
      ⟨none, .stB 2 16 (.t 5), none⟩] [2])
    .ret))
def rs14 : List RS := [.cell 2 16 true]
/-- padlock/gcm.Seal -/
def rc16 : RC :=
  (.seq
   (.reg false [⟨(some 4), .box (.t 0), none⟩,
     ⟨(some 8), .mov (.c (.str [])), none⟩,
     ⟨(some 9), .mov (.c (.int .i64 0)), none⟩] [1, 2, 3, 4])
   (.seq
    (.reg false [⟨(some 14), .loadB 4 16 true, none⟩,
      ⟨(some 15), .mov (.t 1), none⟩,
      ⟨(some 16), .call 20 [(false, (.t 14)), (false, (.t 15))], none⟩,
      ⟨(some 13), .mov (.t 16), none⟩,
      ⟨(some 17), .ext (.t 13) 0, none⟩,
      ⟨(some 18), .ext (.t 13) 1, none⟩,
      ⟨(some 10), .alloc (List.replicate 192 (.int .u8 0) ++ [(.int .u32 0)]), none⟩,
      ⟨none, .stB 10 193 (.t 17), none⟩,
      ⟨(some 11), .mov (.t 18), none⟩] [2, 3, 10, 11])
    (.seq
     (.seq
      (.reg false [⟨(some 19), .mov (.t 11), none⟩,
        ⟨(some 20), .bin .neq true (.t 19) (.c (.int .i64 0)), none⟩] [2, 3, 10, 11, 20])
      (.cond 20
       (.seq
        (.reg false [⟨(some 21), .mov (.t 11), none⟩,
          ⟨(some 8), .mov (.c (.str [])), none⟩,
          ⟨(some 9), .mov (.t 21), none⟩] [8, 9])
        .ret)
       (.reg false [] [2, 3, 10])))
     (.seq
      (.reg false [⟨(some 22), .loadB 10 193 true, none⟩,
        ⟨(some 23), .mov (.t 3), none⟩,
        ⟨(some 24), .call 21 [(false, (.t 22)), (false, (.c (.int .u32 2))), (false, (.t 23))], none⟩,
        ⟨(some 12), .mov (.t 24), none⟩] [2, 10, 12])
      (.seq
       (.reg false [⟨(some 25), .mov (.t 12), none⟩,
         ⟨(some 26), .loadB 10 193 true, none⟩,
         ⟨(some 27), .mov (.t 2), none⟩,
         ⟨(some 28), .mov (.t 12), none⟩,
         ⟨(some 29), .call 25 [(false, (.t 26)), (false, (.t 27)), (false, (.t 28))], none⟩,
         ⟨(some 30), .bin .add false (.t 25) (.t 29), none⟩,
         ⟨(some 8), .mov (.t 30), none⟩,
         ⟨(some 9), .mov (.c (.int .i64 0)), none⟩] [8, 9])
       .ret)))))
def rs16 : List RS := [.tmp 8, .tmp 9]
/-- padlock/gcm.Open -/
def rc18 : RC :=
  (.seq
   (.reg false [⟨(some 4), .box (.t 0), none⟩,
     ⟨(some 8), .mov (.c (.str [])), none⟩,
     ⟨(some 9), .mov (.c (.int .i64 0)), none⟩] [1, 2, 3, 4])
   (.seq
    (.reg false [⟨(some 14), .loadB 4 16 true, none⟩,
      ⟨(some 15), .mov (.t 1), none⟩,
      ⟨(some 16), .call 20 [(false, (.t 14)), (false, (.t 15))], none⟩,
      ⟨(some 13), .mov (.t 16), none⟩,
      ⟨(some 17), .ext (.t 13) 0, none⟩,
      ⟨(some 18), .ext (.t 13) 1, none⟩,
      ⟨(some 10), .alloc (List.replicate 192 (.int .u8 0) ++ [(.int .u32 0)]), none⟩,
      ⟨none, .stB 10 193 (.t 17), none⟩,
      ⟨(some 11), .mov (.t 18), none⟩] [2, 3, 10, 11])
    (.seq
     (.seq
      (.reg false [⟨(some 19), .mov (.t 11), none⟩,
        ⟨(some 20), .bin .neq true (.t 19) (.c (.int .i64 0)), none⟩] [2, 3, 10, 11, 20])
      (.cond 20
       (.seq
        (.reg false [⟨(some 21), .mov (.t 11), none⟩,
          ⟨(some 8), .mov (.c (.str [])), none⟩,
          ⟨(some 9), .mov (.t 21), none⟩] [8, 9])
        .ret)
       (.reg false [] [2, 3, 10])))
     (.seq
      (.reg false [⟨(some 22), .mov (.t 3), none⟩,
        ⟨(some 23), .len true (.t 22), none⟩,
        ⟨(some 24), .bin .sub true (.t 23) (.c (.int .i64 16)), none⟩,
        ⟨(some 12), .mov (.t 24), none⟩] [2, 3, 10, 12])
      (.seq
       (.seq
        (.reg false [⟨(some 25), .mov (.t 12), none⟩,
          ⟨(some 26), .bin .lss true (.t 25) (.c (.int .i64 0)), none⟩] [2, 3, 10, 12, 26])
        (.cond 26
         (.seq
          (.reg false [⟨(some 8), .mov (.c (.str [])), none⟩,
            ⟨(some 9), .mov (.c (.int .i64 3)), none⟩] [8, 9])
          .ret)
         (.reg false [] [2, 3, 10, 12])))
       (.seq
        (.seq
         (.reg true [⟨(some 27), .loadB 10 193 true, none⟩,
           ⟨(some 28), .mov (.t 2), none⟩,
           ⟨(some 29), .mov (.t 3), none⟩,
           ⟨(some 30), .mov (.t 12), none⟩,
           ⟨(some 31), .ssl (.t 29) none (some (.t 30)), none⟩,
           ⟨(some 32), .call 25 [(false, (.t 27)), (false, (.t 28)), (false, (.t 31))], none⟩,
           ⟨(some 33), .mov (.t 3), none⟩,
           ⟨(some 34), .mov (.t 12), none⟩,
           ⟨(some 35), .ssl (.t 33) (some (.t 34)) none, none⟩,
           ⟨(some 36), .bin .neq false (.t 32) (.t 35), none⟩] [3, 10, 12, 36])
         (.cond 36
          (.seq
           (.reg false [⟨(some 8), .mov (.c (.str [])), none⟩,
             ⟨(some 9), .mov (.c (.int .i64 11)), none⟩] [8, 9])
           .ret)
          (.reg false [] [3, 10, 12])))
        (.seq
         (.reg true [⟨(some 37), .loadB 10 193 true, none⟩,
           ⟨(some 38), .mov (.t 3), none⟩,
           ⟨(some 39), .mov (.t 12), none⟩,
           ⟨(some 40), .ssl (.t 38) none (some (.t 39)), none⟩,
           ⟨(some 41), .call 21 [(false, (.t 37)), (false, (.c (.int .u32 2))), (false, (.t 40))], none⟩,
           ⟨(some 8), .mov (.t 41), none⟩,
           ⟨(some 9), .mov (.c (.int .i64 0)), none⟩] [8, 9])
         .ret)))))))
def rs18 : List RS := [.tmp 8, .tmp 9]
theorem bg_ag {f g : Bl} (h : ∀ i, i < 16 → f i = g i) : bg f = bg g := by funext iv; unfold bg; rw [ks_176 h]
theorem pf28 (r : Bl)  : PFx Try.prog 28 [.agg (vec8 176 r)] (.agg (vec8 16 (sel r fun _ => 0#8))) := by
  refine PFx_of_W (rc := rc28) (rs := rs28) Try.func28 rfl T19_ok hm (by kernel_rfl) (by kernel_rfl) (by simp [Try.ntmps28]) ?_
  simp [rc28, rs28, vec8_zero, -vec8_inj]
noncomputable def T28 : Tab := tabAdd T19 28 (fun _ : Bl => True) (fun z => [.agg (vec8 176 z)]) (fun z => .agg (vec8 16 (sel z fun _ => 0#8)))
@[simp] theorem T28_eq (r : Bl)  : T28 28 [.agg (vec8 176 r)] = some (.agg (vec8 16 (sel r fun _ => 0#8))) := tabAdd_eq (a := r) (fun f g h => by simp at h ⊢; exact sel_ag (rk_ag h) (Ag.refl _)) trivial rfl
@[simp] theorem T28_ne {g : Nat} {xs : List AV} (h : g ≠ 28) : T28 g xs = T19 g xs := tabAdd_ne h
theorem T28_ok : Sound Try.prog T28 := tabAdd_sound T19_ok fun z _ => pf28 z 
theorem pf14 (f : Bl)  : PFx Try.prog 14 [.agg (vec8 16 f)] (.agg (vec8 16 (Gh.blk (hsh f)))) := by
  refine PFx_of_W (rc := rc14) (rs := rs14) Try.func14 rfl T28_ok hm (by kernel_rfl) (by kernel_rfl) (by simp [Try.ntmps14]) ?_
  simp [rc14, rs14, vec8_zero, hshB, -vec8_inj]
noncomputable def T14 : Tab := tabAdd T28 14 (fun _ : Bl => True) (fun z => [.agg (vec8 16 z)]) (fun z => .agg (vec8 16 (Gh.blk (hsh z))))
@[simp] theorem T14_eq (f : Bl)  : T14 14 [.agg (vec8 16 f)] = some (.agg (vec8 16 (Gh.blk (hsh f)))) := tabAdd_eq (a := f) (fun f g h => by simp at h ⊢; rw [hsh_ag h]) trivial rfl
@[simp] theorem T14_ne {g : Nat} {xs : List AV} (h : g ≠ 14) : T14 g xs = T28 g xs := tabAdd_ne h
theorem T14_ok : Sound Try.prog T14 := tabAdd_sound T28_ok fun z _ => pf14 z 
theorem pf20 (f : Bl) (iv : List UInt8) (h : iv.length ≤ 1000000) : PFx Try.prog 20 [.agg (vec8 16 f), .str iv] (.tup [.agg (bg f iv), .int .i64 (if iv.length = 12 then 0 else 2)]) := by
  refine PFx_of_W (rc := rc20) (rs := rs20) Try.func20 rfl T14_ok hm (by kernel_rfl) (by kernel_rfl) (by simp [Try.ntmps20]) ?_
  by_cases hv : iv.length = 12
  · have hv' : (iv.length : Int) = 12 := by omega
    have e1 := put_iv (ks f) iv hv
    simp [rc20, rs20, vec8_zero, zero_st, hv, hv', bg, stA_put_rounds, e1, -splice, -List.reduceReplicate, -vec8_inj, -stA_inj]
  · have hv' : ¬ (iv.length : Int) = 12 := by omega
    simp [rc20, rs20, vec8_zero, zero_st, hv, hv', bg, -splice, -List.reduceReplicate, -vec8_inj, -stA_inj]
noncomputable def T20 : Tab := tabAdd T14 20 (fun z : Bl × (List UInt8) => z.2.length ≤ 1000000) (fun z => [.agg (vec8 16 z.1), .str z.2]) (fun z => .tup [.agg (bg z.1 z.2), .int .i64 (if z.2.length = 12 then 0 else 2)])
@[simp] theorem T20_eq (f : Bl) (iv : List UInt8) (h : iv.length ≤ 1000000) : T20 20 [.agg (vec8 16 f), .str iv] = some (.tup [.agg (bg f iv), .int .i64 (if iv.length = 12 then 0 else 2)]) := tabAdd_eq (a := (f, iv)) (by rintro ⟨f, iv⟩ ⟨f', iv'⟩ h; simp at h ⊢; rw [bg_ag h.1, h.2]; simp) h rfl
@[simp] theorem T20_ne {g : Nat} {xs : List AV} (h : g ≠ 20) : T20 g xs = T14 g xs := tabAdd_ne h
theorem T20_ok : Sound Try.prog T20 := tabAdd_sound T14_ok fun z h => pf20 z.1 z.2 h
theorem pf43B (r : Bl) (c : Bl) (n : BitVec 32)  : PFb Try.prog 43 [.box (stA r c n)] (.agg (vec8 16 (sel r (cn c n)))) (.box (stA r (cn c n) (n + 1#32))) := by
  refine PFb_of_W (rc := rc43) (rs := rs43) 0 Try.func43 rfl T20_ok hm (by kernel_rfl) (by kernel_rfl) rfl (by simp [Try.ntmps43]) rfl rfl ?_
  have i1 : IntKind.u32.wrap (bv n + 1) = bv (n + 1#32) := inc32 n
  have b1 := bv_shr32 n 24
  have b2 := bv_shr32 n 16
  have b3 := bv_shr32 n 8
  simp [rc43, rs43, vec8_zero, bld4, bv_dn8, b1, b2, b3, nb_4, stA_put_4, stA_put_number, i1, -splice, -List.reduceReplicate, -vec8_inj, -stA_inj]
noncomputable def T43B : Tab := tabAdd T20 (43 + inPlace) (fun _ : Bl × Bl × (BitVec 32) => True) (fun z => [.box (stA z.1 z.2.1 z.2.2)]) (fun z => .tup [.agg (vec8 16 (sel z.1 (cn z.2.1 z.2.2))), .box (stA z.1 (cn z.2.1 z.2.2) (z.2.2 + 1#32))])
@[simp] theorem T43B_eq (r : Bl) (c : Bl) (n : BitVec 32)  : T43B (43 + inPlace) [.box (stA r c n)] = some (.tup [.agg (vec8 16 (sel r (cn c n))), .box (stA r (cn c n) (n + 1#32))]) := tabAdd_eq (a := (r, c, n)) (by rintro ⟨r, c, n⟩ ⟨r', c', n'⟩ h; simp at h ⊢; obtain ⟨h1, h2, rfl⟩ := h; exact ⟨selr_ag h1 (cn_ag h2 n), h1, cn_ag h2 n, rfl⟩) trivial rfl
@[simp] theorem T43B_ne {g : Nat} {xs : List AV} (h : g ≠ 43 + inPlace) : T43B g xs = T20 g xs := tabAdd_ne h
theorem T43B_ok : Sound Try.prog T43B := tabAdd_soundB T20_ok fun z _ => pf43B z.1 z.2.1 z.2.2 
theorem pf30 (r : Bl) (c : Bl) (m : BitVec 32) (n : BitVec 32)  : PFx Try.prog 30 [.agg (stA r c m), .int .u32 (bv n)] (.clo 43 (stA r c n)) := by
  refine PFx_of_W (rc := rc30) (rs := rs30) Try.func30 rfl T43B_ok hm (by kernel_rfl) (by kernel_rfl) (by simp [Try.ntmps30]) ?_
  simp [rc30, rs30, stA_put_number, -splice, -stA_inj]
noncomputable def T30 : Tab := tabAdd T43B 30 (fun _ : Bl × Bl × (BitVec 32) × (BitVec 32) => True) (fun z => [.agg (stA z.1 z.2.1 z.2.2.1), .int .u32 (bv z.2.2.2)]) (fun z => .clo 43 (stA z.1 z.2.1 z.2.2.2))
@[simp] theorem T30_eq (r : Bl) (c : Bl) (m : BitVec 32) (n : BitVec 32)  : T30 30 [.agg (stA r c m), .int .u32 (bv n)] = some (.clo 43 (stA r c n)) := tabAdd_eq (a := (r, c, m, n)) (by rintro ⟨r, c, m, n⟩ ⟨r', c', m', n'⟩ h; simp at h ⊢; exact ⟨h.1.1, h.1.2.1, h.2⟩) trivial rfl
@[simp] theorem T30_ne {g : Nat} {xs : List AV} (h : g ≠ 30) : T30 g xs = T43B g xs := tabAdd_ne h
theorem T30_ok : Sound Try.prog T30 := tabAdd_sound T43B_ok fun z _ => pf30 z.1 z.2.1 z.2.2.1 z.2.2.2 
theorem pf21 (r : Bl) (c : Bl) (q : BitVec 32) (n : BitVec 32) (l : List UInt8) (h : l.length ≤ 1000000) : PFx Try.prog 21 [.agg (stA r c q), .int .u32 (bv n), .str l] (.str (strR r c n l)) := by
  refine PFx_of_W (rc := rc21) (rs := rs21) Try.func21 rfl T30_ok hm (by kernel_rfl) (by kernel_rfl) (by simp [Try.ntmps21]) ?_
  simp [rc21, rs21, vec8_zero, show l.length ≤ 4611686018427387904 by omega, bytes_tx, -stA_inj]
  refine W_forU ((l.length + 15) / 16) (fun _ => True) (fun k => [(7, .clo 43 (stA r (cs c n k) (n + BitVec.ofNat 32 k))), (8, .mrow 1 (vec8 l.length (upto (16 * k) (fun j => tx l j ^^^ pR r c n j) (tx l))) l.length), (9, .win 8 (min (16 * k) l.length) (l.length - 16 * k))]) trivial (by simp [upto_zero, cs]) (fun k hk _ => ?_) fun _ => ?_
  · have hk2 : 16 * k < l.length := by omega
    obtain ⟨L, hL⟩ : ∃ L, L = l.length := ⟨_, rfl⟩
    rw [← hL] at h hk hk2
    simp only [← hL]
    obtain ⟨m, hm⟩ : ∃ m, m = min 16 (L - 16 * k) := ⟨_, rfl⟩
    have h1 : min (16 * k) L = 16 * k := by omega
    have h2 : 0 < L - 16 * k := by omega
    have h3 : 16 * k + (L - 16 * k) ≤ L := by omega
    have h4 : m ≤ L - 16 * k := by omega
    have h4' : m ≤ 16 := by omega
    have h5 : ∃ sz, 16 * k + (L - 16 * k) * sz ≤ L := ⟨1, by omega⟩
    have hm' : min (L - 16 * k) 16 = m := by omega
    have h6 : 16 * k + m = min (16 * (k + 1)) L := by omega
    have h7 : L - 16 * k - m = L - 16 * (k + 1) := by omega
    have nk : n + BitVec.ofNat 32 (k + 1) = n + BitVec.ofNat 32 k + 1#32 := by rw [BitVec.add_assoc, ← BitVec.ofNat_add]
    have e1 : splice (vec8 16 fun _ => 0#8) 0 (vec8 m fun i => upto (16 * k) (fun j => tx l j ^^^ pR r c n j) (tx l) (16 * k + i)) = vec8 16 (fun i => if i < m then tx l (16 * k + i) else 0#8) := by
      rw [vec8_splice _ _ _ _ _ (by omega)]
      exact vec8_ext fun i hi => by
        by_cases h1 : i < m
        · rw [if_pos (by omega), if_pos h1]; unfold upto; rw [if_neg (by omega)]; simp
        · rw [if_neg (by omega), if_neg h1]
    have e2 : splice (vec8 L (upto (16 * k) (fun j => tx l j ^^^ pR r c n j) (tx l))) (16 * k) (vec8 m (xo (fun i => if i < m then tx l (16 * k + i) else 0#8) (sel r (cn c (n + BitVec.ofNat 32 k))))) = vec8 L (upto (16 * (k + 1)) (fun j => tx l j ^^^ pR r c n j) (tx l)) := by
      rw [← upto_blk L k m _ _ hm hk2]
      congr 1
      refine vec8_ext fun i hi => ?_
      unfold xo pR
      dsimp only
      rw [if_pos hi, show (16 * k + i) / 16 = k by omega, show (16 * k + i) % 16 = i by omega]
    simp [h1, h2, h3, h4, h4', h5, ← hm, hm', h6, h7, cn_cs, e1, e2, nk, -splice, -vec8_inj, -stA_inj]
    exact ⟨by omega, rfl⟩
  · have hk2 : l.length ≤ 16 * ((l.length + 15) / 16) := by omega
    have h1 : min (16 * ((l.length + 15) / 16)) l.length = l.length := by omega
    have h2 : l.length - 16 * ((l.length + 15) / 16) = 0 := by omega
    have e : vec8 l.length (upto (16 * ((l.length + 15) / 16)) (fun j => tx l j ^^^ pR r c n j) (tx l)) = bytesAV (strR r c n l) := by
      unfold strR
      rw [lst_bytes]
      exact vec8_ext fun j hj => by unfold upto; rw [if_pos (by omega)]
    have u8 : (∀ c', c' ∈ List.take l.length (bytesAV (strR r c n l)) → c'.isU8) = True := eq_true fun c' hc => bytesAV_u8 _ c' (List.mem_of_mem_take hc)
    have tk : List.take l.length (strR r c n l) = strR r c n l := List.take_of_length_le (by simp)
    simp [h1, h2, e, u8, tk, -splice, -vec8_inj, -stA_inj]
noncomputable def T21 : Tab := tabAdd T30 21 (fun z : Bl × Bl × (BitVec 32) × (BitVec 32) × (List UInt8) => z.2.2.2.2.length ≤ 1000000) (fun z => [.agg (stA z.1 z.2.1 z.2.2.1), .int .u32 (bv z.2.2.2.1), .str z.2.2.2.2]) (fun z => .str (strR z.1 z.2.1 z.2.2.2.1 z.2.2.2.2))
@[simp] theorem T21_eq (r : Bl) (c : Bl) (q : BitVec 32) (n : BitVec 32) (l : List UInt8) (h : l.length ≤ 1000000) : T21 21 [.agg (stA r c q), .int .u32 (bv n), .str l] = some (.str (strR r c n l)) := tabAdd_eq (a := (r, c, q, n, l)) (by rintro ⟨r, c, q, n, l⟩ ⟨r', c', q', n', l'⟩ h; simp at h ⊢; rw [strR_ag h.1.1 h.1.2.1, h.2.1, h.2.2]) h rfl
@[simp] theorem T21_ne {g : Nat} {xs : List AV} (h : g ≠ 21) : T21 g xs = T30 g xs := tabAdd_ne h
theorem T21_ok : Sound Try.prog T21 := tabAdd_sound T30_ok fun z h => pf21 z.1 z.2.1 z.2.2.1 z.2.2.2.1 z.2.2.2.2 h
theorem pf25 (r : Bl) (c : Bl) (q : BitVec 32) (ad : List UInt8) (l : List UInt8) (h : ad.length ≤ 100000 ∧ l.length ≤ 100000) : PFx Try.prog 25 [.agg (stA r c q), .str ad, .str l] (.str (tagR r c ad l)) := by
  refine PFx_of_W (rc := rc25) (rs := rs25) Try.func25 rfl T21_ok hm (by kernel_rfl) (by kernel_rfl) (by simp [Try.ntmps25]) ?_
  obtain ⟨h1, h2⟩ := h
  have hp : vec8 16 (sel r fun _ => 0#8) = vec8 16 (Gh.blk (Gh.pol (sel r fun _ => 0#8))) := vec8_ext fun i hi => by rw [Gh.blk_pol _ _ hi]
  have e : lst 16 (xo (Gh.blk (sumT (Gh.pol (sel r fun _ => 0#8)) ad l)) (sel r (cn c 1#32))) = tagR r c ad l := rfl
  have k1 : T30 30 [.agg (stA r c q), .int .u32 1] = some (.clo 43 (stA r c 1#32)) := T30_eq r c q 1#32
  simp [rc25, rs25, vec8_zero, hp, h1, h2, k1, lst_map, e, -splice, -vec8_inj, -stA_inj]
noncomputable def T25 : Tab := tabAdd T21 25 (fun z : Bl × Bl × (BitVec 32) × (List UInt8) × (List UInt8) => z.2.2.2.1.length ≤ 100000 ∧ z.2.2.2.2.length ≤ 100000) (fun z => [.agg (stA z.1 z.2.1 z.2.2.1), .str z.2.2.2.1, .str z.2.2.2.2]) (fun z => .str (tagR z.1 z.2.1 z.2.2.2.1 z.2.2.2.2))
@[simp] theorem T25_eq (r : Bl) (c : Bl) (q : BitVec 32) (ad : List UInt8) (l : List UInt8) (h : ad.length ≤ 100000 ∧ l.length ≤ 100000) : T25 25 [.agg (stA r c q), .str ad, .str l] = some (.str (tagR r c ad l)) := tabAdd_eq (a := (r, c, q, ad, l)) (by rintro ⟨r, c, q, n, l⟩ ⟨r', c', q', n', l'⟩ h; simp at h ⊢; rw [tagR_ag h.1.1 h.1.2.1, h.2.1, h.2.2]) h rfl
@[simp] theorem T25_ne {g : Nat} {xs : List AV} (h : g ≠ 25) : T25 g xs = T21 g xs := tabAdd_ne h
theorem T25_ok : Sound Try.prog T25 := tabAdd_sound T21_ok fun z h => pf25 z.1 z.2.1 z.2.2.1 z.2.2.2.1 z.2.2.2.2 h
theorem pf10 (f : Bl) (iv : List UInt8) (n : BitVec 32) (l : List UInt8) (h : iv.length ≤ 100000 ∧ l.length ≤ 100000) : PFx Try.prog 10 [.agg (vec8 16 f), .str iv, .int .u32 (bv n), .str l] (.tup [.str (if iv.length = 12 then strm f iv n l else []), .int .i64 (if iv.length = 12 then 0 else 2)]) := by
  refine PFx_of_W (rc := rc10) (rs := rs10) Try.func10 rfl T25_ok hm (by kernel_rfl) (by kernel_rfl) (by simp [Try.ntmps10]) ?_
  have h1 : iv.length ≤ 1000000 := by omega
  have h2 : l.length ≤ 1000000 := by omega
  by_cases hv : iv.length = 12
  · simp [rc10, rs10, h2, hv, bg, strR_c0, -splice, -vec8_inj, -stA_inj, -List.reduceReplicate]
  · simp [rc10, rs10, h1, h2, hv, bg, -splice, -vec8_inj, -stA_inj, -List.reduceReplicate]
noncomputable def T10 : Tab := tabAdd T25 10 (fun z : Bl × (List UInt8) × (BitVec 32) × (List UInt8) => z.2.1.length ≤ 100000 ∧ z.2.2.2.length ≤ 100000) (fun z => [.agg (vec8 16 z.1), .str z.2.1, .int .u32 (bv z.2.2.1), .str z.2.2.2]) (fun z => .tup [.str (if z.2.1.length = 12 then strm z.1 z.2.1 z.2.2.1 z.2.2.2 else []), .int .i64 (if z.2.1.length = 12 then 0 else 2)])
@[simp] theorem T10_eq (f : Bl) (iv : List UInt8) (n : BitVec 32) (l : List UInt8) (h : iv.length ≤ 100000 ∧ l.length ≤ 100000) : T10 10 [.agg (vec8 16 f), .str iv, .int .u32 (bv n), .str l] = some (.tup [.str (if iv.length = 12 then strm f iv n l else []), .int .i64 (if iv.length = 12 then 0 else 2)]) := tabAdd_eq (a := (f, iv, n, l)) (by rintro ⟨f, iv, n, l⟩ ⟨f', iv', n', l'⟩ h; simp at h ⊢; rw [strm_ag h.1, h.2.1, h.2.2.1, h.2.2.2]; simp) h rfl
@[simp] theorem T10_ne {g : Nat} {xs : List AV} (h : g ≠ 10) : T10 g xs = T25 g xs := tabAdd_ne h
theorem T10_ok : Sound Try.prog T10 := tabAdd_sound T25_ok fun z h => pf10 z.1 z.2.1 z.2.2.1 z.2.2.2 h
theorem pf12 (f : Bl) (iv : List UInt8) (ad : List UInt8) (l : List UInt8) (h : iv.length ≤ 100000 ∧ ad.length ≤ 100000 ∧ l.length ≤ 100000) : PFx Try.prog 12 [.agg (vec8 16 f), .str iv, .str ad, .str l] (.tup [.str (if iv.length = 12 then tag f iv ad l else []), .int .i64 (if iv.length = 12 then 0 else 2)]) := by
  refine PFx_of_W (rc := rc12) (rs := rs12) Try.func12 rfl T10_ok hm (by kernel_rfl) (by kernel_rfl) (by simp [Try.ntmps12]) ?_
  obtain ⟨h1, h2, h3⟩ := h
  have h1' : iv.length ≤ 1000000 := by omega
  by_cases hv : iv.length = 12
  · simp [rc12, rs12, h2, h3, hv, bg, tagR_c0, -splice, -vec8_inj, -stA_inj, -List.reduceReplicate]
  · simp [rc12, rs12, h1', h2, h3, hv, bg, -splice, -vec8_inj, -stA_inj, -List.reduceReplicate]
noncomputable def T12 : Tab := tabAdd T10 12 (fun z : Bl × (List UInt8) × (List UInt8) × (List UInt8) => z.2.1.length ≤ 100000 ∧ z.2.2.1.length ≤ 100000 ∧ z.2.2.2.length ≤ 100000) (fun z => [.agg (vec8 16 z.1), .str z.2.1, .str z.2.2.1, .str z.2.2.2]) (fun z => .tup [.str (if z.2.1.length = 12 then tag z.1 z.2.1 z.2.2.1 z.2.2.2 else []), .int .i64 (if z.2.1.length = 12 then 0 else 2)])
@[simp] theorem T12_eq (f : Bl) (iv : List UInt8) (ad : List UInt8) (l : List UInt8) (h : iv.length ≤ 100000 ∧ ad.length ≤ 100000 ∧ l.length ≤ 100000) : T12 12 [.agg (vec8 16 f), .str iv, .str ad, .str l] = some (.tup [.str (if iv.length = 12 then tag f iv ad l else []), .int .i64 (if iv.length = 12 then 0 else 2)]) := tabAdd_eq (a := (f, iv, ad, l)) (by rintro ⟨f, iv, n, l⟩ ⟨f', iv', n', l'⟩ h; simp at h ⊢; rw [tag_ag h.1, h.2.1, h.2.2.1, h.2.2.2]; simp) h rfl
@[simp] theorem T12_ne {g : Nat} {xs : List AV} (h : g ≠ 12) : T12 g xs = T10 g xs := tabAdd_ne h
theorem T12_ok : Sound Try.prog T12 := tabAdd_sound T10_ok fun z h => pf12 z.1 z.2.1 z.2.2.1 z.2.2.2 h
theorem pf16 (f : Bl) (iv : List UInt8) (ad : List UInt8) (l : List UInt8) (h : iv.length ≤ 100000 ∧ ad.length ≤ 100000 ∧ l.length ≤ 100000) : PFx Try.prog 16 [.agg (vec8 16 f), .str iv, .str ad, .str l] (.tup [.str (if iv.length = 12 then sld f iv ad l else []), .int .i64 (if iv.length = 12 then 0 else 2)]) := by
  refine PFx_of_W (rc := rc16) (rs := rs16) Try.func16 rfl T12_ok hm (by kernel_rfl) (by kernel_rfl) (by simp [Try.ntmps16]) ?_
  obtain ⟨h1, h2, h3⟩ := h
  have h1' : iv.length ≤ 1000000 := by omega
  have h3' : l.length ≤ 1000000 := by omega
  by_cases hv : iv.length = 12
  · have k1 : ∀ q, T21 21 [.agg (stA (ks f) (c0 iv) q), .int .u32 2, .str l] = some (.str (strm f iv 2#32 l)) := fun q => (T21_eq (ks f) (c0 iv) q 2#32 l h3').trans (by rw [strR_c0])
    simp [rc16, rs16, h2, h3, h3', hv, bg, k1, tagR_c0, sld, -splice, -vec8_inj, -stA_inj, -List.reduceReplicate]
    omega
  · simp [rc16, rs16, h1', h2, h3, hv, bg, -splice, -vec8_inj, -stA_inj, -List.reduceReplicate]
noncomputable def T16 : Tab := tabAdd T12 16 (fun z : Bl × (List UInt8) × (List UInt8) × (List UInt8) => z.2.1.length ≤ 100000 ∧ z.2.2.1.length ≤ 100000 ∧ z.2.2.2.length ≤ 100000) (fun z => [.agg (vec8 16 z.1), .str z.2.1, .str z.2.2.1, .str z.2.2.2]) (fun z => .tup [.str (if z.2.1.length = 12 then sld z.1 z.2.1 z.2.2.1 z.2.2.2 else []), .int .i64 (if z.2.1.length = 12 then 0 else 2)])
@[simp] theorem T16_eq (f : Bl) (iv : List UInt8) (ad : List UInt8) (l : List UInt8) (h : iv.length ≤ 100000 ∧ ad.length ≤ 100000 ∧ l.length ≤ 100000) : T16 16 [.agg (vec8 16 f), .str iv, .str ad, .str l] = some (.tup [.str (if iv.length = 12 then sld f iv ad l else []), .int .i64 (if iv.length = 12 then 0 else 2)]) := tabAdd_eq (a := (f, iv, ad, l)) (by rintro ⟨f, iv, n, l⟩ ⟨f', iv', n', l'⟩ h; simp at h ⊢; rw [h.2.1, h.2.2.1, h.2.2.2]; unfold sld; rw [strm_ag h.1, tag_ag h.1]; simp) h rfl
@[simp] theorem T16_ne {g : Nat} {xs : List AV} (h : g ≠ 16) : T16 g xs = T12 g xs := tabAdd_ne h
theorem T16_ok : Sound Try.prog T16 := tabAdd_sound T12_ok fun z h => pf16 z.1 z.2.1 z.2.2.1 z.2.2.2 h
theorem pf18 (f : Bl) (iv : List UInt8) (ad : List UInt8) (l : List UInt8) (h : iv.length ≤ 100000 ∧ ad.length ≤ 100000 ∧ l.length ≤ 100000) : PFx Try.prog 18 [.agg (vec8 16 f), .str iv, .str ad, .str l] (.tup [.str (opT f iv ad l), .int .i64 (opE f iv ad l)]) := by
  refine PFx_of_W (rc := rc18) (rs := rs18) Try.func18 rfl T16_ok hm (by kernel_rfl) (by kernel_rfl) (by simp [Try.ntmps18]) ?_
  obtain ⟨h1, h2, h3⟩ := h
  have h1' : iv.length ≤ 1000000 := by omega
  by_cases hv : iv.length = 12
  · have hv' : (iv.length : Int) = 12 := by omega
    by_cases h16 : l.length < 16
    · have h16' : (l.length : Int) - 16 < 0 := by omega
      simp [rc18, rs18, hv, hv', bg, h16, h16', opT, opE, -splice, -vec8_inj, -stA_inj, -List.reduceReplicate]
      omega
    · have s1 : (l.length : Int) - 16 = ((l.length - 16 : Nat) : Int) := by omega
      have h16' : ¬ ((l.length - 16 : Nat) : Int) < 0 := by omega
      have b1 : l.take (l.length - 16) = body l := rfl
      have b2 : l.drop (l.length - 16) = foot l := rfl
      have bl : (body l).length ≤ 100000 := by unfold body; rw [List.length_take]; omega
      have k1 : ∀ q, T21 21 [.agg (stA (ks f) (c0 iv) q), .int .u32 2, .str (body l)] = some (.str (strm f iv 2#32 (body l))) := fun q => (T21_eq (ks f) (c0 iv) q 2#32 (body l) (by omega)).trans (by rw [strR_c0])
      have q1 : ((l.length - 16 : Nat) : Int) ≤ (l.length : Int) := by omega
      by_cases hf : tag f iv ad (body l) = foot l
      · simp [rc18, rs18, hv, hv', bg, h2, bl, h16, h16', s1, b1, b2, k1, tagR_c0, q1, hf, opT, opE, -splice, -vec8_inj, -stA_inj, -List.reduceReplicate]
        omega
      · simp [rc18, rs18, hv, hv', bg, h2, bl, h16, h16', s1, b1, b2, k1, tagR_c0, q1, hf, opT, opE, -splice, -vec8_inj, -stA_inj, -List.reduceReplicate]
        omega
  · have hv' : ¬ (iv.length : Int) = 12 := by omega
    simp [rc18, rs18, h1', hv, hv', bg, opT, opE, -splice, -vec8_inj, -stA_inj, -List.reduceReplicate]
noncomputable def T18 : Tab := tabAdd T16 18 (fun z : Bl × (List UInt8) × (List UInt8) × (List UInt8) => z.2.1.length ≤ 100000 ∧ z.2.2.1.length ≤ 100000 ∧ z.2.2.2.length ≤ 100000) (fun z => [.agg (vec8 16 z.1), .str z.2.1, .str z.2.2.1, .str z.2.2.2]) (fun z => .tup [.str (opT z.1 z.2.1 z.2.2.1 z.2.2.2), .int .i64 (opE z.1 z.2.1 z.2.2.1 z.2.2.2)])
@[simp] theorem T18_eq (f : Bl) (iv : List UInt8) (ad : List UInt8) (l : List UInt8) (h : iv.length ≤ 100000 ∧ ad.length ≤ 100000 ∧ l.length ≤ 100000) : T18 18 [.agg (vec8 16 f), .str iv, .str ad, .str l] = some (.tup [.str (opT f iv ad l), .int .i64 (opE f iv ad l)]) := tabAdd_eq (a := (f, iv, ad, l)) (by rintro ⟨f, iv, n, l⟩ ⟨f', iv', n', l'⟩ h; simp at h ⊢; rw [h.2.1, h.2.2.1, h.2.2.2]; unfold opT opE; rw [strm_ag h.1, tag_ag h.1]; simp) h rfl
@[simp] theorem T18_ne {g : Nat} {xs : List AV} (h : g ≠ 18) : T18 g xs = T16 g xs := tabAdd_ne h
theorem T18_ok : Sound Try.prog T18 := tabAdd_sound T16_ok fun z h => pf18 z.1 z.2.1 z.2.2.1 z.2.2.2 h
end Go.Proofs.Ytlihfdbfcklkmaa

