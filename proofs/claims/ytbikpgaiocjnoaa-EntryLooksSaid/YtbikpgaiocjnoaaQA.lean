/- quill: the document's answer, and the program: numbers and rows, laid and taken. -/
import Derived.Test.YtbikpgaiocjnoaaB0
import Derived.Test.YtbikpgaiocjnoaaQW
import Derived.Test.YtbikpgaiocjnoaaE20
import Derived.Shelf.Pu.Clone
set_option linter.unusedVariables false
set_option linter.unusedSimpArgs false
namespace Go.Proofs.Ytbikpgaiocjnoaa
open Go.Proofs.Ytbikpgaiocjnoaa.Pad Go.Shelf Go.RowKit
/-- padlock/padlockref01.Stands -/
def rc53 : RC :=
  (.seq
   (.reg false [⟨(some 1), .box (.t 0), none⟩,
     ⟨(some 2), .mov (.c (.bool false)), none⟩] [1])
   (.seq
    (.reg false [⟨(some 3), .fldB 1 1, none⟩,
      ⟨(some 4), .loadR 3 1 1 false, none⟩,
      ⟨(some 5), .bin .geq true (.t 4) (.c (.int .i64 0)), none⟩,
      ⟨(some 6), .mov (.t 5), none⟩,
      ⟨(some 7), .fldB 1 1, (some (6, true))⟩,
      ⟨(some 8), .loadR 7 1 1 false, (some (6, true))⟩,
      ⟨(some 9), .fldB 1 0, (some (6, true))⟩,
      ⟨(some 10), .loadR 9 1 1 false, (some (6, true))⟩,
      ⟨(some 11), .len true (.t 10), (some (6, true))⟩,
      ⟨(some 12), .bin .leq true (.t 8) (.t 11), (some (6, true))⟩,
      ⟨(some 13), .pick (.t 6) (.t 12) (.c (.bool false)), none⟩,
      ⟨(some 2), .mov (.t 13), none⟩] [2])
    .ret))
def rs53 : List RS := [.tmp 2]
/-- padlock/padlockref01.bad -/
def rc68 : RC :=
  (.seq
   (.reg false [⟨(some 2), .box (.t 0), none⟩,
     ⟨(some 4), .alloc [(.str []), (.int .i64 0), (.int .i64 0)], none⟩] [1, 2, 4])
   (.seq
    (.reg false [⟨(some 5), .fldB 2 0, none⟩,
      ⟨(some 6), .loadR 5 2 1 false, none⟩,
      ⟨(some 7), .fldB 2 1, none⟩,
      ⟨(some 8), .loadR 7 2 1 false, none⟩,
      ⟨(some 9), .mov (.t 1), none⟩,
      ⟨(some 10), .build [(.str []), (.int .i64 0), (.int .i64 0)] [(0, 1, (.t 6)), (1, 1, (.t 8)), (2, 1, (.t 9))], none⟩,
      ⟨none, .stB 4 3 (.t 10), none⟩] [4])
    .ret))
def rs68 : List RS := [.cell 4 3 true]
/-- padlock/padlockref01.TakeNum -/
def rc51 : RC :=
  (.seq
   (.reg false [⟨(some 2), .box (.t 0), none⟩,
     ⟨(some 4), .mov (.c (.int .u64 0)), none⟩,
     ⟨(some 5), .alloc [(.str []), (.int .i64 0), (.int .i64 0)], none⟩] [1, 2, 5])
   (.seq
    (.seq
     (.reg false [⟨(some 8), .fldB 2 2, none⟩,
       ⟨(some 9), .loadR 8 2 1 false, none⟩,
       ⟨(some 10), .bin .neq true (.t 9) (.c (.int .i64 0)), none⟩] [1, 2, 5, 10])
     (.cond 10
      (.seq
       (.reg true [⟨(some 11), .loadB 2 3 true, none⟩,
         ⟨(some 4), .mov (.c (.int .u64 0)), none⟩,
         ⟨none, .stB 5 3 (.t 11), none⟩] [4, 5])
       .ret)
      (.reg false [] [1, 2, 5])))
    (.seq
     (.seq
      (.reg false [⟨(some 12), .loadB 2 3 true, none⟩,
        ⟨(some 13), .call 53 [(false, (.t 12))], none⟩,
        ⟨(some 14), .un .not (.t 13), none⟩,
        ⟨(some 15), .mov (.t 14), none⟩,
        ⟨(some 16), .mov (.t 1), (some (15, false))⟩,
        ⟨(some 17), .bin .lss true (.t 16) (.c (.int .i64 1)), (some (15, false))⟩,
        ⟨(some 18), .pick (.t 15) (.c (.bool true)) (.t 17), none⟩,
        ⟨(some 19), .mov (.t 18), none⟩,
        ⟨(some 20), .mov (.t 1), (some (19, false))⟩,
        ⟨(some 21), .bin .gtr true (.t 20) (.c (.int .i64 8)), (some (19, false))⟩,
        ⟨(some 22), .pick (.t 19) (.c (.bool true)) (.t 21), none⟩] [1, 2, 5, 22])
      (.cond 22
       (.seq
        (.reg false [⟨(some 23), .loadB 2 3 true, none⟩,
          ⟨(some 24), .call 68 [(false, (.t 23)), (false, (.c (.int .i64 2)))], none⟩,
          ⟨(some 4), .mov (.c (.int .u64 0)), none⟩,
          ⟨none, .stB 5 3 (.t 24), none⟩] [4, 5])
        .ret)
       (.reg false [] [1, 2, 5])))
     (.seq
      (.seq
       (.reg false [⟨(some 25), .fldB 2 0, none⟩,
         ⟨(some 26), .loadR 25 2 1 false, none⟩,
         ⟨(some 27), .len true (.t 26), none⟩,
         ⟨(some 28), .fldB 2 1, none⟩,
         ⟨(some 29), .loadR 28 2 1 false, none⟩,
         ⟨(some 30), .bin .sub true (.t 27) (.t 29), none⟩,
         ⟨(some 31), .mov (.t 1), none⟩,
         ⟨(some 32), .bin .lss true (.t 30) (.t 31), none⟩] [1, 2, 5, 32])
       (.cond 32
        (.seq
         (.reg false [⟨(some 33), .loadB 2 3 true, none⟩,
           ⟨(some 34), .call 68 [(false, (.t 33)), (false, (.c (.int .i64 3)))], none⟩,
           ⟨(some 4), .mov (.c (.int .u64 0)), none⟩,
           ⟨none, .stB 5 3 (.t 34), none⟩] [4, 5])
         .ret)
        (.reg false [] [1, 2, 5])))
      (.seq
       (.reg false [⟨(some 6), .mov (.c (.int .u64 0)), none⟩] [1, 2, 5, 6])
       (.seq
        (.seq
         (.reg false [⟨(some 7), .mov (.c (.int .i64 0)), none⟩] [1, 2, 5, 6, 7])
         (.block 0
          (.loop
           (.seq
            (.seq
             (.reg false [⟨(some 35), .mov (.t 7), none⟩,
               ⟨(some 36), .mov (.t 1), none⟩,
               ⟨(some 37), .bin .lss true (.t 35) (.t 36), none⟩] [1, 2, 5, 6, 7, 37])
             (.cond 37
              (.reg false [] [1, 2, 5, 6, 7])
              (.seq
               (.reg false [] [1, 2, 5, 6])
               (.exit 0))))
            (.seq
             (.block 1
              (.reg false [⟨(some 40), .mov (.t 6), none⟩,
                ⟨(some 41), .bin .mul false (.c (.int .u64 256)) (.t 40), none⟩,
                ⟨(some 42), .fldB 2 0, none⟩,
                ⟨(some 43), .loadR 42 2 1 false, none⟩,
                ⟨(some 44), .fldB 2 1, none⟩,
                ⟨(some 45), .loadR 44 2 1 false, none⟩,
                ⟨(some 46), .mov (.t 7), none⟩,
                ⟨(some 47), .bin .add true (.t 45) (.t 46), none⟩,
                ⟨(some 48), .sidx (.t 43) (.t 47), none⟩,
                ⟨(some 49), .conv true .u64 (.t 48), none⟩,
                ⟨(some 50), .bin .add false (.t 41) (.t 49), none⟩,
                ⟨(some 6), .mov (.t 50), none⟩] [1, 2, 5, 6, 7]))
             (.reg false [⟨(some 38), .mov (.t 7), none⟩,
               ⟨(some 39), .bin .add true (.t 38) (.c (.int .i64 1)), none⟩,
               ⟨(some 7), .mov (.t 39), none⟩] [1, 2, 5, 6, 7]))))))
        (.seq
         (.reg true [⟨(some 51), .mov (.t 6), none⟩,
           ⟨(some 52), .fldB 2 0, none⟩,
           ⟨(some 53), .loadR 52 2 1 false, none⟩,
           ⟨(some 54), .fldB 2 1, none⟩,
           ⟨(some 55), .loadR 54 2 1 false, none⟩,
           ⟨(some 56), .mov (.t 1), none⟩,
           ⟨(some 57), .bin .add true (.t 55) (.t 56), none⟩,
           ⟨(some 58), .build [(.str []), (.int .i64 0), (.int .i64 0)] [(0, 1, (.t 53)), (1, 1, (.t 57)), (2, 1, (.c (.int .i64 0)))], none⟩,
           ⟨(some 4), .mov (.t 51), none⟩,
           ⟨none, .stB 5 3 (.t 58), none⟩] [4, 5])
         .ret)))))))
def rs51 : List RS := [.tmp 4, .cell 5 3 true]
/-- padlock/padlockref01.TakeRow -/
def rc52 : RC :=
  (.seq
   (.reg false [⟨(some 1), .box (.t 0), none⟩,
     ⟨(some 2), .mov (.c (.str [])), none⟩,
     ⟨(some 3), .alloc [(.str []), (.int .i64 0), (.int .i64 0)], none⟩] [1, 3])
   (.seq
    (.reg false [⟨(some 7), .loadB 1 3 true, none⟩,
      ⟨(some 8), .call 51 [(false, (.t 7)), (false, (.c (.int .i64 2)))], none⟩,
      ⟨(some 6), .mov (.t 8), none⟩,
      ⟨(some 9), .ext (.t 6) 0, none⟩,
      ⟨(some 10), .ext (.t 6) 1, none⟩,
      ⟨(some 5), .alloc [(.str []), (.int .i64 0), (.int .i64 0)], none⟩,
      ⟨(some 4), .mov (.t 9), none⟩,
      ⟨none, .stB 5 3 (.t 10), none⟩] [1, 3, 4, 5])
    (.seq
     (.seq
      (.reg false [⟨(some 11), .fldB 5 2, none⟩,
        ⟨(some 12), .loadR 11 5 1 false, none⟩,
        ⟨(some 13), .bin .neq true (.t 12) (.c (.int .i64 0)), none⟩] [1, 3, 4, 5, 13])
      (.cond 13
       (.seq
        (.reg true [⟨(some 14), .loadB 5 3 true, none⟩,
          ⟨(some 2), .mov (.c (.str [])), none⟩,
          ⟨none, .stB 3 3 (.t 14), none⟩] [2, 3])
        .ret)
       (.reg false [] [1, 3, 4, 5])))
     (.seq
      (.seq
       (.reg false [⟨(some 15), .fldB 5 0, none⟩,
         ⟨(some 16), .loadR 15 5 1 false, none⟩,
         ⟨(some 17), .len true (.t 16), none⟩,
         ⟨(some 18), .fldB 5 1, none⟩,
         ⟨(some 19), .loadR 18 5 1 false, none⟩,
         ⟨(some 20), .bin .sub true (.t 17) (.t 19), none⟩,
         ⟨(some 21), .mov (.t 4), none⟩,
         ⟨(some 22), .conv true .i64 (.t 21), none⟩,
         ⟨(some 23), .bin .lss true (.t 20) (.t 22), none⟩] [1, 3, 4, 5, 23])
       (.cond 23
        (.seq
         (.reg false [⟨(some 24), .loadB 1 3 true, none⟩,
           ⟨(some 25), .call 68 [(false, (.t 24)), (false, (.c (.int .i64 3)))], none⟩,
           ⟨(some 2), .mov (.c (.str [])), none⟩,
           ⟨none, .stB 3 3 (.t 25), none⟩] [2, 3])
         .ret)
        (.reg false [] [3, 4, 5])))
      (.seq
       (.reg true [⟨(some 26), .fldB 5 0, none⟩,
         ⟨(some 27), .loadR 26 5 1 false, none⟩,
         ⟨(some 28), .fldB 5 1, none⟩,
         ⟨(some 29), .loadR 28 5 1 false, none⟩,
         ⟨(some 30), .fldB 5 1, none⟩,
         ⟨(some 31), .loadR 30 5 1 false, none⟩,
         ⟨(some 32), .mov (.t 4), none⟩,
         ⟨(some 33), .conv true .i64 (.t 32), none⟩,
         ⟨(some 34), .bin .add true (.t 31) (.t 33), none⟩,
         ⟨(some 35), .ssl (.t 27) (some (.t 29)) (some (.t 34)), none⟩,
         ⟨(some 36), .fldB 5 0, none⟩,
         ⟨(some 37), .loadR 36 5 1 false, none⟩,
         ⟨(some 38), .fldB 5 1, none⟩,
         ⟨(some 39), .loadR 38 5 1 false, none⟩,
         ⟨(some 40), .mov (.t 4), none⟩,
         ⟨(some 41), .conv true .i64 (.t 40), none⟩,
         ⟨(some 42), .bin .add true (.t 39) (.t 41), none⟩,
         ⟨(some 43), .build [(.str []), (.int .i64 0), (.int .i64 0)] [(0, 1, (.t 37)), (1, 1, (.t 42)), (2, 1, (.c (.int .i64 0)))], none⟩,
         ⟨(some 2), .mov (.t 35), none⟩,
         ⟨none, .stB 3 3 (.t 43), none⟩] [2, 3])
       .ret)))))
def rs52 : List RS := [.tmp 2, .cell 3 3 true]
/-- padlock/padlockref01.End -/
def rc35 : RC :=
  (.seq
   (.reg false [⟨(some 1), .box (.t 0), none⟩,
     ⟨(some 2), .mov (.c (.int .i64 0)), none⟩] [1])
   (.seq
    (.seq
     (.reg false [⟨(some 3), .fldB 1 2, none⟩,
       ⟨(some 4), .loadR 3 1 1 false, none⟩,
       ⟨(some 5), .bin .neq true (.t 4) (.c (.int .i64 0)), none⟩] [1, 5])
     (.cond 5
      (.seq
       (.reg false [⟨(some 6), .fldB 1 2, none⟩,
         ⟨(some 7), .loadR 6 1 1 false, none⟩,
         ⟨(some 2), .mov (.t 7), none⟩] [2])
       .ret)
      (.reg false [] [1])))
    (.seq
     (.seq
      (.reg false [⟨(some 8), .loadB 1 3 true, none⟩,
        ⟨(some 9), .call 53 [(false, (.t 8))], none⟩,
        ⟨(some 10), .un .not (.t 9), none⟩] [1, 10])
      (.cond 10
       (.seq
        (.reg false [⟨(some 2), .mov (.c (.int .i64 2)), none⟩] [2])
        .ret)
       (.reg false [] [1])))
     (.seq
      (.seq
       (.reg false [⟨(some 11), .fldB 1 1, none⟩,
         ⟨(some 12), .loadR 11 1 1 false, none⟩,
         ⟨(some 13), .fldB 1 0, none⟩,
         ⟨(some 14), .loadR 13 1 1 false, none⟩,
         ⟨(some 15), .len true (.t 14), none⟩,
         ⟨(some 16), .bin .neq true (.t 12) (.t 15), none⟩] [16])
       (.cond 16
        (.seq
         (.reg false [⟨(some 2), .mov (.c (.int .i64 4)), none⟩] [2])
         .ret)
        (.reg false [] [])))
      (.seq
       (.reg false [⟨(some 2), .mov (.c (.int .i64 0)), none⟩] [2])
       .ret)))))
def rs35 : List RS := [.tmp 2]
/-- padlock/padlockref01.Num -/
def rc30 : RC :=
  (.seq
   (.reg false [⟨(some 6), .nilR 1, none⟩] [0, 1, 2])
   (.seq
    (.reg false [⟨(some 11), .mkSl 1 0 [] [], none⟩,
      ⟨(some 12), .mov (.t 0), none⟩,
      ⟨(some 13), .app 1 1 (.t 11) (.t 12), none⟩,
      ⟨(some 7), .steal 13, none⟩] [1, 2, 7])
    (.seq
     (.seq
      (.reg false [⟨(some 14), .mov (.t 1), none⟩,
        ⟨(some 15), .bin .lss true (.t 14) (.c (.int .i64 1)), none⟩,
        ⟨(some 16), .mov (.t 15), none⟩,
        ⟨(some 17), .mov (.t 1), (some (16, false))⟩,
        ⟨(some 18), .bin .gtr true (.t 17) (.c (.int .i64 8)), (some (16, false))⟩,
        ⟨(some 19), .pick (.t 16) (.c (.bool true)) (.t 18), none⟩] [1, 2, 7, 19])
      (.cond 19
       (.seq
        (.reg false [⟨(some 20), .steal 7, none⟩,
          ⟨(some 6), .steal 20, none⟩] [6])
        .ret)
       (.reg false [] [1, 2, 7])))
     (.seq
      (.seq
       (.reg false [⟨(some 21), .mov (.t 1), none⟩,
         ⟨(some 22), .bin .sub true (.t 21) (.c (.int .i64 1)), none⟩,
         ⟨(some 8), .mov (.t 22), none⟩] [2, 7, 8])
       (.block 0
        (.loop
         (.seq
          (.seq
           (.reg false [⟨(some 23), .mov (.t 8), none⟩,
             ⟨(some 24), .bin .geq true (.t 23) (.c (.int .i64 0)), none⟩] [2, 7, 8, 24])
           (.cond 24
            (.reg false [] [2, 7, 8])
            (.seq
             (.reg false [] [7])
             (.exit 0))))
          (.seq
           (.block 1
            (.seq
             (.reg false [⟨(some 27), .mov (.t 2), none⟩,
               ⟨(some 9), .mov (.t 27), none⟩] [2, 7, 8, 9])
             (.seq
              (.seq
               (.reg false [⟨(some 10), .mov (.c (.int .i64 0)), none⟩] [2, 7, 8, 9, 10])
               (.block 2
                (.loop
                 (.seq
                  (.seq
                   (.reg false [⟨(some 28), .mov (.t 10), none⟩,
                     ⟨(some 29), .mov (.t 8), none⟩,
                     ⟨(some 30), .bin .lss true (.t 28) (.t 29), none⟩] [2, 7, 8, 9, 10, 30])
                   (.cond 30
                    (.reg false [] [2, 7, 8, 9, 10])
                    (.seq
                     (.reg false [] [2, 7, 8, 9])
                     (.exit 2))))
                  (.seq
                   (.block 3
                    (.reg false [⟨(some 33), .mov (.t 9), none⟩,
                      ⟨(some 34), .bin .quo false (.t 33) (.c (.int .u64 256)), none⟩,
                      ⟨(some 9), .mov (.t 34), none⟩] [2, 7, 8, 9, 10]))
                   (.reg false [⟨(some 31), .mov (.t 10), none⟩,
                     ⟨(some 32), .bin .add true (.t 31) (.c (.int .i64 1)), none⟩,
                     ⟨(some 10), .mov (.t 32), none⟩] [2, 7, 8, 9, 10]))))))
              (.reg false [⟨(some 35), .steal 7, none⟩,
                ⟨(some 36), .mov (.t 9), none⟩,
                ⟨(some 37), .bin .rem false (.t 36) (.c (.int .u64 256)), none⟩,
                ⟨(some 38), .conv false .u8 (.t 37), none⟩,
                ⟨(some 39), .mkSl 1 1 [(.int .u8 0)] [(0, 1, (.t 38))], none⟩,
                ⟨(some 40), .app 1 1 (.t 35) (.t 39), none⟩,
                ⟨(some 7), .steal 40, none⟩] [2, 7, 8]))))
           (.reg false [⟨(some 25), .mov (.t 8), none⟩,
             ⟨(some 26), .bin .sub true (.t 25) (.c (.int .i64 1)), none⟩,
             ⟨(some 8), .mov (.t 26), none⟩] [2, 7, 8]))))))
      (.seq
       (.reg false [⟨(some 41), .steal 7, none⟩,
         ⟨(some 6), .steal 41, none⟩] [6])
       .ret)))))
def rs30 : List RS := [.tmp 6]
/-- padlock/padlockref01.Row -/
def rc31 : RC :=
  (.seq
   (.reg false [⟨(some 4), .nilR 1, none⟩,
     ⟨(some 5), .mov (.c (.int .i64 0)), none⟩] [0, 1])
   (.seq
    (.seq
     (.reg false [⟨(some 6), .mov (.t 1), none⟩,
       ⟨(some 7), .len true (.t 6), none⟩,
       ⟨(some 8), .bin .gtr true (.t 7) (.c (.int .i64 65535)), none⟩] [0, 1, 8])
     (.cond 8
      (.seq
       (.reg false [⟨(some 4), .nilR 1, none⟩,
         ⟨(some 5), .mov (.c (.int .i64 5)), none⟩] [4, 5])
       .ret)
      (.reg false [] [0, 1])))
    (.seq
     (.reg false [⟨(some 9), .mov (.t 0), none⟩,
       ⟨(some 10), .mov (.t 1), none⟩,
       ⟨(some 11), .len true (.t 10), none⟩,
       ⟨(some 12), .conv true .u64 (.t 11), none⟩,
       ⟨(some 13), .call 30 [(false, (.t 9)), (false, (.c (.int .i64 2))), (false, (.t 12))], none⟩,
       ⟨(some 14), .mov (.t 1), none⟩,
       ⟨(some 15), .app 1 1 (.t 13) (.t 14), none⟩,
       ⟨(some 4), .steal 15, none⟩,
       ⟨(some 5), .mov (.c (.int .i64 0)), none⟩] [4, 5])
     .ret)))
def rs31 : List RS := [.tmp 4, .tmp 5]
/-- padlock/quill.isSize -/
def rc63 : RC :=
  (.seq
   (.reg false [⟨(some 2), .mov (.c (.bool false)), none⟩] [0])
   (.seq
    (.reg false [⟨(some 3), .mov (.t 0), none⟩,
      ⟨(some 4), .bin .geq true (.t 3) (.c (.int .i64 1)), none⟩,
      ⟨(some 5), .mov (.t 4), none⟩,
      ⟨(some 6), .mov (.t 0), (some (5, true))⟩,
      ⟨(some 7), .bin .leq true (.t 6) (.c (.int .i64 8)), (some (5, true))⟩,
      ⟨(some 8), .pick (.t 5) (.t 7) (.c (.bool false)), none⟩,
      ⟨(some 2), .mov (.t 8), none⟩] [2])
    .ret))
def rs63 : List RS := [.tmp 2]
/-- padlock/quill.copyOf -/
def rc71 : RC :=
  (.seq
   (.reg false [⟨(some 4), .nilR 1, none⟩] [0, 1])
   (.seq
    (.reg false [⟨(some 5), .mov (.t 0), none⟩,
      ⟨(some 6), .len false (.t 5), none⟩,
      ⟨(some 7), .mov (.t 1), none⟩,
      ⟨(some 8), .bin .add true (.t 6) (.t 7), none⟩,
      ⟨(some 9), .make 1 1 [(.int .u8 0)] (.c (.int .i64 0)) (.t 8), none⟩,
      ⟨(some 10), .mov (.t 0), none⟩,
      ⟨(some 11), .app 1 1 (.t 9) (.t 10), none⟩,
      ⟨(some 4), .steal 11, none⟩] [4])
    .ret))
def rs71 : List RS := [.tmp 4]
/-- padlock/quill.addNum -/
def rc72 : RC :=
  (.seq
   (.reg false [⟨(some 6), .nilR 1, none⟩] [0, 1, 2])
   (.seq
    (.seq
     (.reg false [⟨(some 8), .mov (.t 1), none⟩,
       ⟨(some 9), .bin .sub true (.t 8) (.c (.int .i64 1)), none⟩,
       ⟨(some 7), .mov (.t 9), none⟩] [0, 2, 7])
     (.block 0
      (.loop
       (.seq
        (.seq
         (.reg false [⟨(some 10), .mov (.t 7), none⟩,
           ⟨(some 11), .bin .geq true (.t 10) (.c (.int .i64 0)), none⟩] [0, 2, 7, 11])
         (.cond 11
          (.reg false [] [0, 2, 7])
          (.seq
           (.reg false [] [0])
           (.exit 0))))
        (.seq
         (.block 1
          (.reg false [⟨(some 14), .steal 0, none⟩,
            ⟨(some 15), .mov (.t 2), none⟩,
            ⟨(some 16), .mov (.t 7), none⟩,
            ⟨(some 17), .bin .mul true (.c (.int .i64 8)) (.t 16), none⟩,
            ⟨(some 18), .bin .shr false (.t 15) (.t 17), none⟩,
            ⟨(some 19), .conv false .u8 (.t 18), none⟩,
            ⟨(some 20), .mkSl 1 1 [(.int .u8 0)] [(0, 1, (.t 19))], none⟩,
            ⟨(some 21), .app 1 1 (.t 14) (.t 20), none⟩,
            ⟨(some 0), .steal 21, none⟩] [0, 2, 7]))
         (.reg false [⟨(some 12), .mov (.t 7), none⟩,
           ⟨(some 13), .bin .sub true (.t 12) (.c (.int .i64 1)), none⟩,
           ⟨(some 7), .mov (.t 13), none⟩] [0, 2, 7]))))))
    (.seq
     (.reg false [⟨(some 22), .steal 0, none⟩,
       ⟨(some 6), .steal 22, none⟩] [6])
     .ret)))
def rs72 : List RS := [.tmp 6]
/-- padlock/quill.addRow -/
def rc73 : RC :=
  (.seq
   (.reg false [⟨(some 4), .nilR 1, none⟩] [0, 1])
   (.seq
    (.reg false [⟨(some 5), .steal 0, none⟩,
      ⟨(some 6), .mov (.t 1), none⟩,
      ⟨(some 7), .len true (.t 6), none⟩,
      ⟨(some 8), .conv true .u64 (.t 7), none⟩,
      ⟨(some 9), .call 72 [(true, (.t 5)), (false, (.c (.int .i64 2))), (false, (.t 8))], none⟩,
      ⟨(some 10), .mov (.t 1), none⟩,
      ⟨(some 11), .app 1 1 (.t 9) (.t 10), none⟩,
      ⟨(some 4), .steal 11, none⟩] [4])
    .ret))
def rs73 : List RS := [.tmp 4]
/-- padlock/quill.Num -/
def rc59 : RC :=
  (.seq
   (.reg false [⟨(some 6), .nilR 1, none⟩] [0, 1, 2])
   (.seq
    (.seq
     (.reg false [⟨(some 7), .mov (.t 1), none⟩,
       ⟨(some 8), .call 63 [(false, (.t 7))], none⟩,
       ⟨(some 9), .un .not (.t 8), none⟩] [0, 1, 2, 9])
     (.cond 9
      (.seq
       (.reg false [⟨(some 10), .mov (.t 0), none⟩,
         ⟨(some 11), .call 71 [(false, (.t 10)), (false, (.c (.int .i64 0)))], none⟩,
         ⟨(some 6), .steal 11, none⟩] [6])
       .ret)
      (.reg false [] [0, 1, 2])))
    (.seq
     (.reg false [⟨(some 12), .mov (.t 0), none⟩,
       ⟨(some 13), .mov (.t 1), none⟩,
       ⟨(some 14), .call 71 [(false, (.t 12)), (false, (.t 13))], none⟩,
       ⟨(some 15), .mov (.t 1), none⟩,
       ⟨(some 16), .mov (.t 2), none⟩,
       ⟨(some 17), .call 72 [(true, (.t 14)), (false, (.t 15)), (false, (.t 16))], none⟩,
       ⟨(some 6), .steal 17, none⟩] [6])
     .ret)))
def rs59 : List RS := [.tmp 6]
/-- padlock/quill.Row -/
def rc60 : RC :=
  (.seq
   (.reg false [⟨(some 4), .nilR 1, none⟩,
     ⟨(some 5), .mov (.c (.int .i64 0)), none⟩] [0, 1])
   (.seq
    (.seq
     (.reg false [⟨(some 6), .mov (.t 1), none⟩,
       ⟨(some 7), .len true (.t 6), none⟩,
       ⟨(some 8), .bin .gtr true (.t 7) (.c (.int .i64 65535)), none⟩] [0, 1, 8])
     (.cond 8
      (.seq
       (.reg false [⟨(some 4), .nilR 1, none⟩,
         ⟨(some 5), .mov (.c (.int .i64 5)), none⟩] [4, 5])
       .ret)
      (.reg false [] [0, 1])))
    (.seq
     (.reg false [⟨(some 9), .mov (.t 0), none⟩,
       ⟨(some 10), .mov (.t 1), none⟩,
       ⟨(some 11), .len true (.t 10), none⟩,
       ⟨(some 12), .bin .add true (.c (.int .i64 2)) (.t 11), none⟩,
       ⟨(some 13), .call 71 [(false, (.t 9)), (false, (.t 12))], none⟩,
       ⟨(some 14), .mov (.t 1), none⟩,
       ⟨(some 15), .call 73 [(true, (.t 13)), (false, (.t 14))], none⟩,
       ⟨(some 4), .steal 15, none⟩,
       ⟨(some 5), .mov (.c (.int .i64 0)), none⟩] [4, 5])
     .ret)))
def rs60 : List RS := [.tmp 4, .tmp 5]
/-- (padlock/quill.Scan).valid -/
def rc49 : RC :=
  (.seq
   (.reg false [⟨(some 1), .box (.t 0), none⟩,
     ⟨(some 2), .mov (.c (.bool false)), none⟩] [1])
   (.seq
    (.reg false [⟨(some 3), .fldB 1 1, none⟩,
      ⟨(some 4), .loadR 3 1 1 false, none⟩,
      ⟨(some 5), .bin .geq true (.t 4) (.c (.int .i64 0)), none⟩,
      ⟨(some 6), .mov (.t 5), none⟩,
      ⟨(some 7), .fldB 1 1, (some (6, true))⟩,
      ⟨(some 8), .loadR 7 1 1 false, (some (6, true))⟩,
      ⟨(some 9), .fldB 1 0, (some (6, true))⟩,
      ⟨(some 10), .loadR 9 1 1 false, (some (6, true))⟩,
      ⟨(some 11), .len true (.t 10), (some (6, true))⟩,
      ⟨(some 12), .bin .leq true (.t 8) (.t 11), (some (6, true))⟩,
      ⟨(some 13), .pick (.t 6) (.t 12) (.c (.bool false)), none⟩,
      ⟨(some 2), .mov (.t 13), none⟩] [2])
    .ret))
def rs49 : List RS := [.tmp 2]
/-- (padlock/quill.Scan).left -/
def rc50 : RC :=
  (.seq
   (.reg false [⟨(some 1), .box (.t 0), none⟩,
     ⟨(some 2), .mov (.c (.int .i64 0)), none⟩] [1])
   (.seq
    (.reg false [⟨(some 3), .fldB 1 0, none⟩,
      ⟨(some 4), .loadR 3 1 1 false, none⟩,
      ⟨(some 5), .len true (.t 4), none⟩,
      ⟨(some 6), .fldB 1 1, none⟩,
      ⟨(some 7), .loadR 6 1 1 false, none⟩,
      ⟨(some 8), .bin .sub true (.t 5) (.t 7), none⟩,
      ⟨(some 2), .mov (.t 8), none⟩] [2])
    .ret))
def rs50 : List RS := [.tmp 2]
/-- (padlock/quill.Scan).fail -/
def rc64 : RC :=
  (.seq
   (.reg false [⟨(some 2), .box (.t 0), none⟩,
     ⟨(some 4), .alloc [(.str []), (.int .i64 0), (.int .i64 0)], none⟩] [1, 2, 4])
   (.seq
    (.reg false [⟨(some 5), .mov (.t 1), none⟩,
      ⟨(some 6), .fldB 2 2, none⟩,
      ⟨none, .stR 6 2 1 (.t 5), none⟩] [2, 4])
    (.seq
     (.reg false [⟨(some 7), .loadB 2 3 true, none⟩,
       ⟨none, .stB 4 3 (.t 7), none⟩] [4])
     .ret)))
def rs64 : List RS := [.cell 4 3 true]
/-- (padlock/quill.Scan).cut -/
def rc65 : RC :=
  (.seq
   (.reg false [⟨(some 2), .box (.t 0), none⟩,
     ⟨(some 4), .mov (.c (.str [])), none⟩] [1, 2])
   (.seq
    (.reg false [⟨(some 5), .fldB 2 0, none⟩,
      ⟨(some 6), .loadR 5 2 1 false, none⟩,
      ⟨(some 7), .fldB 2 1, none⟩,
      ⟨(some 8), .loadR 7 2 1 false, none⟩,
      ⟨(some 9), .mov (.t 1), none⟩,
      ⟨(some 10), .ssl (.t 6) (some (.t 8)) (some (.t 9)), none⟩,
      ⟨(some 11), .call 74 [(false, (.t 10))], none⟩,
      ⟨(some 4), .mov (.t 11), none⟩] [4])
    .ret))
def rs65 : List RS := [.tmp 4]
/-- (padlock/quill.Scan).Num -/
def rc44 : RC :=
  (.seq
   (.reg false [⟨(some 2), .box (.t 0), none⟩,
     ⟨(some 4), .mov (.c (.int .u64 0)), none⟩,
     ⟨(some 5), .alloc [(.str []), (.int .i64 0), (.int .i64 0)], none⟩] [1, 2, 5])
   (.seq
    (.seq
     (.reg false [⟨(some 7), .fldB 2 2, none⟩,
       ⟨(some 8), .loadR 7 2 1 false, none⟩,
       ⟨(some 9), .bin .neq true (.t 8) (.c (.int .i64 0)), none⟩] [1, 2, 5, 9])
     (.cond 9
      (.seq
       (.reg true [⟨(some 10), .loadB 2 3 true, none⟩,
         ⟨(some 4), .mov (.c (.int .u64 0)), none⟩,
         ⟨none, .stB 5 3 (.t 10), none⟩] [4, 5])
       .ret)
      (.reg false [] [1, 2, 5])))
    (.seq
     (.seq
      (.reg false [⟨(some 11), .loadB 2 3 true, none⟩,
        ⟨(some 12), .call 49 [(false, (.t 11))], none⟩,
        ⟨(some 13), .un .not (.t 12), none⟩,
        ⟨(some 14), .mov (.t 13), none⟩,
        ⟨(some 15), .mov (.t 1), (some (14, false))⟩,
        ⟨(some 16), .call 63 [(false, (.t 15))], (some (14, false))⟩,
        ⟨(some 17), .un .not (.t 16), (some (14, false))⟩,
        ⟨(some 18), .pick (.t 14) (.c (.bool true)) (.t 17), none⟩] [1, 2, 5, 18])
      (.cond 18
       (.seq
        (.reg false [⟨(some 19), .loadB 2 3 true, none⟩,
          ⟨(some 20), .call 64 [(false, (.t 19)), (false, (.c (.int .i64 2)))], none⟩,
          ⟨(some 4), .mov (.c (.int .u64 0)), none⟩,
          ⟨none, .stB 5 3 (.t 20), none⟩] [4, 5])
        .ret)
       (.reg false [] [1, 2, 5])))
     (.seq
      (.seq
       (.reg false [⟨(some 21), .loadB 2 3 true, none⟩,
         ⟨(some 22), .call 50 [(false, (.t 21))], none⟩,
         ⟨(some 23), .mov (.t 1), none⟩,
         ⟨(some 24), .bin .lss true (.t 22) (.t 23), none⟩] [1, 2, 5, 24])
       (.cond 24
        (.seq
         (.reg false [⟨(some 25), .loadB 2 3 true, none⟩,
           ⟨(some 26), .call 64 [(false, (.t 25)), (false, (.c (.int .i64 3)))], none⟩,
           ⟨(some 4), .mov (.c (.int .u64 0)), none⟩,
           ⟨none, .stB 5 3 (.t 26), none⟩] [4, 5])
         .ret)
        (.reg false [] [1, 2, 5])))
      (.seq
       (.reg false [⟨(some 6), .mov (.c (.int .u64 0)), none⟩] [1, 2, 5, 6])
       (.seq
        (.seq
         (.reg false [⟨(some 27), .mov (.t 1), none⟩,
           ⟨(some 28), .mov (.c (.int .i64 0)), none⟩] [2, 5, 6, 27, 28])
         (.block 0
          (.loop
           (.seq
            (.reg false [⟨(some 29), .bin .lss true (.t 28) (.t 27), none⟩] [2, 5, 6, 27, 28, 29])
            (.seq
             (.cond 29
              (.reg false [] [2, 5, 6, 27, 28])
              (.seq
               (.reg false [] [2, 5, 6])
               (.exit 0)))
             (.seq
              (.block 1
               (.seq
                (.reg false [⟨(some 30), .mov (.t 6), none⟩,
                  ⟨(some 31), .bin .shl false (.t 30) (.c (.int .u64 8)), none⟩,
                  ⟨(some 32), .fldB 2 0, none⟩,
                  ⟨(some 33), .loadR 32 2 1 false, none⟩,
                  ⟨(some 34), .fldB 2 1, none⟩,
                  ⟨(some 35), .loadR 34 2 1 false, none⟩,
                  ⟨(some 36), .sidx (.t 33) (.t 35), none⟩,
                  ⟨(some 37), .conv true .u64 (.t 36), none⟩,
                  ⟨(some 38), .bin .or false (.t 31) (.t 37), none⟩,
                  ⟨(some 6), .mov (.t 38), none⟩] [2, 5, 6, 27, 28])
                (.reg false [⟨(some 39), .fldB 2 1, none⟩,
                  ⟨(some 40), .loadR 39 2 1 false, none⟩,
                  ⟨(some 41), .bin .add true (.t 40) (.c (.int .i64 1)), none⟩,
                  ⟨(some 42), .fldB 2 1, none⟩,
                  ⟨none, .stR 42 2 1 (.t 41), none⟩] [2, 5, 6, 27, 28])))
              (.reg false [⟨(some 43), .bin .add true (.t 28) (.c (.int .i64 1)), none⟩,
                ⟨(some 28), .mov (.t 43), none⟩] [2, 5, 6, 27, 28])))))))
        (.seq
         (.reg true [⟨(some 44), .mov (.t 6), none⟩,
           ⟨(some 45), .loadB 2 3 true, none⟩,
           ⟨(some 4), .mov (.t 44), none⟩,
           ⟨none, .stB 5 3 (.t 45), none⟩] [4, 5])
         .ret)))))))
def rs44 : List RS := [.tmp 4, .cell 5 3 true]
/-- (padlock/quill.Scan).Row -/
def rc45 : RC :=
  (.seq
   (.reg false [⟨(some 1), .box (.t 0), none⟩,
     ⟨(some 2), .mov (.c (.str [])), none⟩,
     ⟨(some 3), .alloc [(.str []), (.int .i64 0), (.int .i64 0)], none⟩] [1, 3])
   (.seq
    (.reg false [⟨(some 9), .loadB 1 3 true, none⟩,
      ⟨(some 10), .call 44 [(false, (.t 9)), (false, (.c (.int .i64 2)))], none⟩,
      ⟨(some 8), .mov (.t 10), none⟩,
      ⟨(some 11), .ext (.t 8) 0, none⟩,
      ⟨(some 12), .ext (.t 8) 1, none⟩,
      ⟨(some 5), .alloc [(.str []), (.int .i64 0), (.int .i64 0)], none⟩,
      ⟨(some 4), .mov (.t 11), none⟩,
      ⟨none, .stB 5 3 (.t 12), none⟩] [1, 3, 4, 5])
    (.seq
     (.seq
      (.reg false [⟨(some 13), .fldB 5 2, none⟩,
        ⟨(some 14), .loadR 13 5 1 false, none⟩,
        ⟨(some 15), .bin .neq true (.t 14) (.c (.int .i64 0)), none⟩] [1, 3, 4, 5, 15])
      (.cond 15
       (.seq
        (.reg true [⟨(some 16), .loadB 5 3 true, none⟩,
          ⟨(some 2), .mov (.c (.str [])), none⟩,
          ⟨none, .stB 3 3 (.t 16), none⟩] [2, 3])
        .ret)
       (.reg false [] [1, 3, 4, 5])))
     (.seq
      (.seq
       (.reg false [⟨(some 17), .loadB 5 3 true, none⟩,
         ⟨(some 18), .call 50 [(false, (.t 17))], none⟩,
         ⟨(some 19), .mov (.t 4), none⟩,
         ⟨(some 20), .conv true .i64 (.t 19), none⟩,
         ⟨(some 21), .bin .lss true (.t 18) (.t 20), none⟩] [1, 3, 4, 5, 21])
       (.cond 21
        (.seq
         (.reg false [⟨(some 22), .loadB 1 3 true, none⟩,
           ⟨(some 23), .call 64 [(false, (.t 22)), (false, (.c (.int .i64 3)))], none⟩,
           ⟨(some 2), .mov (.c (.str [])), none⟩,
           ⟨none, .stB 3 3 (.t 23), none⟩] [2, 3])
         .ret)
        (.reg false [] [3, 4, 5])))
      (.seq
       (.reg false [⟨(some 24), .fldB 5 1, none⟩,
         ⟨(some 25), .loadR 24 5 1 false, none⟩,
         ⟨(some 26), .mov (.t 4), none⟩,
         ⟨(some 27), .conv true .i64 (.t 26), none⟩,
         ⟨(some 28), .bin .add true (.t 25) (.t 27), none⟩,
         ⟨(some 6), .mov (.t 28), none⟩] [3, 5, 6])
       (.seq
        (.reg false [⟨(some 29), .loadB 5 3 true, none⟩,
          ⟨(some 30), .mov (.t 6), none⟩,
          ⟨(some 31), .call 65 [(false, (.t 29)), (false, (.t 30))], none⟩,
          ⟨(some 7), .mov (.t 31), none⟩] [3, 5, 6, 7])
        (.seq
         (.reg false [⟨(some 32), .mov (.t 6), none⟩,
           ⟨(some 33), .fldB 5 1, none⟩,
           ⟨none, .stR 33 5 1 (.t 32), none⟩] [3, 5, 7])
         (.seq
          (.reg true [⟨(some 34), .mov (.t 7), none⟩,
            ⟨(some 35), .loadB 5 3 true, none⟩,
            ⟨(some 2), .mov (.t 34), none⟩,
            ⟨none, .stB 3 3 (.t 35), none⟩] [2, 3])
          .ret))))))))
def rs45 : List RS := [.tmp 2, .cell 3 3 true]
-- 92 (padlock/quill.Scan).Rest: no body
/-- (padlock/quill.Scan).End -/
def rc33 : RC :=
  (.seq
   (.reg false [⟨(some 1), .box (.t 0), none⟩,
     ⟨(some 2), .mov (.c (.int .i64 0)), none⟩] [1])
   (.seq
    (.block 0
     (.seq
      (.reg false [⟨(some 4), .fldB 1 2, none⟩,
        ⟨(some 5), .loadR 4 1 1 false, none⟩,
        ⟨(some 6), .bin .neq true (.t 5) (.c (.int .i64 0)), none⟩,
        ⟨(some 3), .mov (.t 6), none⟩] [1, 3])
      (.cond 3
       (.seq
        (.reg false [⟨(some 7), .fldB 1 2, none⟩,
          ⟨(some 8), .loadR 7 1 1 false, none⟩,
          ⟨(some 2), .mov (.t 8), none⟩] [2])
        .ret)
       (.seq
        (.reg false [⟨(some 10), .loadB 1 3 true, none⟩,
          ⟨(some 11), .call 49 [(false, (.t 10))], none⟩,
          ⟨(some 12), .un .not (.t 11), none⟩,
          ⟨(some 9), .mov (.t 12), none⟩] [1, 9])
        (.cond 9
         (.seq
          (.reg false [⟨(some 2), .mov (.c (.int .i64 2)), none⟩] [2])
          .ret)
         (.seq
          (.reg false [⟨(some 14), .loadB 1 3 true, none⟩,
            ⟨(some 15), .call 50 [(false, (.t 14))], none⟩,
            ⟨(some 16), .bin .gtr true (.t 15) (.c (.int .i64 0)), none⟩,
            ⟨(some 13), .mov (.t 16), none⟩] [13])
          (.cond 13
           (.seq
            (.reg false [⟨(some 2), .mov (.c (.int .i64 4)), none⟩] [2])
            .ret)
           (.reg false [] []))))))))
    (.seq
     (.reg false [⟨(some 2), .mov (.c (.int .i64 0)), none⟩] [2])
     .ret)))
def rs33 : List RS := [.tmp 2]
/-- strings.Clone -/
def rc74 : RC :=
  (.seq
   (.reg false [⟨(some 2), .mov (.c (.str [])), none⟩] [0])
   (.seq
    (.reg false [⟨(some 3), .mov (.t 0), none⟩,
      ⟨(some 4), .call 75 [(false, (.t 3))], none⟩,
      ⟨(some 2), .mov (.t 4), none⟩] [2])
    .ret))
def rs74 : List RS := [.tmp 2]
theorem pf53 (t : List UInt8) (a : Int) (b : Int)  : PFx Try.prog 53 [.agg [.str t, .int .i64 a, .int .i64 b]] (.bool (decide (0 ≤ a ∧ a ≤ t.length))) := by
  refine PFx_of_W (rc := rc53) (rs := rs53) Try.func53 rfl tabNil_sound hm (by kernel_rfl) (by kernel_rfl) (by simp [Try.ntmps53]) ?_
  simp [rc53, rs53]
noncomputable def T53 : Tab := tabAdd tabNil 53 (fun _ : (List UInt8) × Int × Int => True) (fun z => [.agg [.str z.1, .int .i64 z.2.1, .int .i64 z.2.2]]) (fun z => .bool (decide (0 ≤ z.2.1 ∧ z.2.1 ≤ z.1.length)))
@[simp] theorem T53_eq (t : List UInt8) (a : Int) (b : Int)  : T53 53 [.agg [.str t, .int .i64 a, .int .i64 b]] = some (.bool (decide (0 ≤ a ∧ a ≤ t.length))) := tabAdd_eq (a := (t, a, b)) (by simp +contextual [Int.natCast_inj]) trivial rfl
@[simp] theorem T53_ne {g : Nat} {xs : List AV} (h : g ≠ 53) : T53 g xs = tabNil g xs := tabAdd_ne h
theorem T53_ok : Sound Try.prog T53 := tabAdd_sound tabNil_sound fun z _ => pf53 z.1 z.2.1 z.2.2 
theorem pf68 (t : List UInt8) (a : Int) (b : Int) (e : Int)  : PFx Try.prog 68 [.agg [.str t, .int .i64 a, .int .i64 b], .int .i64 e] (.agg [.str t, .int .i64 a, .int .i64 e]) := by
  refine PFx_of_W (rc := rc68) (rs := rs68) Try.func68 rfl T53_ok hm (by kernel_rfl) (by kernel_rfl) (by simp [Try.ntmps68]) ?_
  simp [rc68, rs68]
noncomputable def T68 : Tab := tabAdd T53 68 (fun _ : (List UInt8) × Int × Int × Int => True) (fun z => [.agg [.str z.1, .int .i64 z.2.1, .int .i64 z.2.2.1], .int .i64 z.2.2.2]) (fun z => .agg [.str z.1, .int .i64 z.2.1, .int .i64 z.2.2.2])
@[simp] theorem T68_eq (t : List UInt8) (a : Int) (b : Int) (e : Int)  : T68 68 [.agg [.str t, .int .i64 a, .int .i64 b], .int .i64 e] = some (.agg [.str t, .int .i64 a, .int .i64 e]) := tabAdd_eq (a := (t, a, b, e)) (by simp +contextual [Int.natCast_inj]) trivial rfl
@[simp] theorem T68_ne {g : Nat} {xs : List AV} (h : g ≠ 68) : T68 g xs = T53 g xs := tabAdd_ne h
theorem T68_ok : Sound Try.prog T68 := tabAdd_sound T53_ok fun z _ => pf68 z.1 z.2.1 z.2.2.1 z.2.2.2 
theorem pf51 (t : List UInt8) (a : Int) (b : Int) (size : Int) (h : t.length ≤ 1000000) : PFx Try.prog 51 [.agg [.str t, .int .i64 a, .int .i64 b], .int .i64 size] (.tup [.int .u64 (takeNum t a b size).1, .agg [.str t, .int .i64 (takeNum t a b size).2.1, .int .i64 (takeNum t a b size).2.2]]) := by
  refine PFx_of_W (rc := rc51) (rs := rs51) Try.func51 rfl T68_ok hm (by kernel_rfl) (by kernel_rfl) (by simp [Try.ntmps51]) ?_
  by_cases hb : b = 0
  · subst hb
    by_cases hv : (0 ≤ a ∧ a ≤ t.length) ∧ 1 ≤ size ∧ size ≤ 8
    · obtain ⟨⟨v1, v2⟩, v3, v4⟩ := hv
      have v3' : ¬ size < 1 := by omega
      have v4' : ¬ 8 < size := by omega
      by_cases hs : (t.length : Int) - a < size
      · have e : takeNum t a 0 size = (0, a, 3) := by
          unfold takeNum; rw [if_neg (by simp), if_neg (by omega), if_pos hs]
        simp [rc51, rs51, v1, v2, v3', v4', h, hs, e]
        omega
      · have e : takeNum t a 0 size = (numOf ((t.drop a.toNat).take size.toNat), a + size, 0) := by
          unfold takeNum; rw [if_neg (by simp), if_neg (by omega), if_neg hs]
        simp [rc51, rs51, v1, v2, v3', v4', h, hs]
        refine ⟨by omega, ?_⟩
        refine W_forU size.toNat (fun _ => True) (fun k => [(6, .int .u64 (numOf ((t.drop a.toNat).take k))), (7, .int .i64 k)]) trivial (by simp [numOf]) (fun k hk _ => ?_) fun _ => ?_
        · have g1 : (k : Int) < size := by omega
          have g2 : 0 ≤ a + k := by omega
          have g3 : a + k < t.length := by omega
          have gt : (a + (k : Int)).toNat = a.toNat + k := by omega
          have hi : (a + (k : Int)).toNat < t.length := by omega
          have st := num_step (t := t) (i := a.toNat) (k := k) (by omega)
          have ge : t.getD (a.toNat + k) 0 = t[(a + (k : Int)).toNat] := by
            rw [← gt, List.getD_eq_getElem?_getD, List.getElem?_eq_getElem hi]; rfl
          have lt := num_lt7 (t := t) (i := a.toNat) (k := k) (by omega)
          have bl := (t[(a + (k : Int)).toNat]).toNat_lt
          rw [ge] at st
          simp [g1, g2, g3]
          refine ⟨by omega, by omega, by omega, ?_⟩
          rw [st]
          generalize numOf ((t.drop a.toNat).take k) = m at lt ⊢
          rw [u64_wrap, u64_wrap, Int.emod_eq_of_lt (a := 256 * (m : Int)) (by omega) (by omega), Int.emod_eq_of_lt (by omega) (by omega)]
          omega
        · have g1 : ¬ (size.toNat : Int) < size := by omega
          simp [g1, e]
          omega
    · have e : takeNum t a 0 size = (0, a, 2) := by
        unfold takeNum; rw [if_neg (by simp), if_pos (by omega)]
      have hv' : ¬ (0 ≤ a ∧ a ≤ (t.length : Int)) ∨ ¬ (1 ≤ size ∧ size ≤ 8) := by omega
      simp [rc51, rs51, e, -W_condI, ↓W_cond]
      intro h1 h2 h3 h4; omega
  · have e : takeNum t a b size = (0, a, b) := by unfold takeNum; rw [if_pos hb]
    simp [rc51, rs51, hb, e]
noncomputable def T51 : Tab := tabAdd T68 51 (fun z : (List UInt8) × Int × Int × Int => z.1.length ≤ 1000000) (fun z => [.agg [.str z.1, .int .i64 z.2.1, .int .i64 z.2.2.1], .int .i64 z.2.2.2]) (fun z => .tup [.int .u64 (takeNum z.1 z.2.1 z.2.2.1 z.2.2.2).1, .agg [.str z.1, .int .i64 (takeNum z.1 z.2.1 z.2.2.1 z.2.2.2).2.1, .int .i64 (takeNum z.1 z.2.1 z.2.2.1 z.2.2.2).2.2]])
@[simp] theorem T51_eq (t : List UInt8) (a : Int) (b : Int) (size : Int) (h : t.length ≤ 1000000) : T51 51 [.agg [.str t, .int .i64 a, .int .i64 b], .int .i64 size] = some (.tup [.int .u64 (takeNum t a b size).1, .agg [.str t, .int .i64 (takeNum t a b size).2.1, .int .i64 (takeNum t a b size).2.2]]) := tabAdd_eq (a := (t, a, b, size)) (by simp +contextual [Int.natCast_inj]) h rfl
@[simp] theorem T51_ne {g : Nat} {xs : List AV} (h : g ≠ 51) : T51 g xs = T68 g xs := tabAdd_ne h
theorem T51_ok : Sound Try.prog T51 := tabAdd_sound T68_ok fun z h => pf51 z.1 z.2.1 z.2.2.1 z.2.2.2 h
theorem pf52 (t : List UInt8) (a : Int) (b : Int) (h : t.length ≤ 1000000) : PFx Try.prog 52 [.agg [.str t, .int .i64 a, .int .i64 b]] (.tup [.str (takeRow t a b).1, .agg [.str t, .int .i64 (takeRow t a b).2.1, .int .i64 (takeRow t a b).2.2]]) := by
  refine PFx_of_W (rc := rc52) (rs := rs52) Try.func52 rfl T51_ok hm (by kernel_rfl) (by kernel_rfl) (by simp [Try.ntmps52]) ?_
  have e := T51_eq t a b 2 h
  have l2 := takeNum_lt2 (t := t) (a := a) (b := b)
  by_cases hb : (takeNum t a b 2).2.2 = 0
  · obtain ⟨k1, k2, _, _, k3, k4, _⟩ := takeNum_ok hb
    subst k1
    obtain ⟨n, hn⟩ : ∃ n, takeNum t a 0 2 = (n, a + 2, 0) := ⟨(takeNum t a 0 2).1, Prod.ext rfl (Prod.ext k3 hb)⟩
    rw [hn] at e l2
    simp only at e l2
    by_cases hs : (t.length : Int) - (a + 2) < n
    · have er : takeRow t a 0 = ([], a, 3) := by unfold takeRow; rw [hn, if_neg (by simp), if_pos hs]
      simp [rc52, rs52, e, er, hs]
      omega
    · have er : takeRow t a 0 = ((t.take (a + 2 + n).toNat).drop (a + 2).toNat, a + 2 + n, 0) := by unfold takeRow; rw [hn, if_neg (by simp), if_neg hs]
      simp [rc52, rs52, e, hs, er]
      exact ⟨by omega, by omega, by omega, by omega, by omega, by omega⟩
  · have er : takeRow t a b = ([], (takeNum t a b 2).2.1, (takeNum t a b 2).2.2) := by unfold takeRow; rw [if_pos hb]
    simp [rc52, rs52, e, hb, er]
noncomputable def T52 : Tab := tabAdd T51 52 (fun z : (List UInt8) × Int × Int => z.1.length ≤ 1000000) (fun z => [.agg [.str z.1, .int .i64 z.2.1, .int .i64 z.2.2]]) (fun z => .tup [.str (takeRow z.1 z.2.1 z.2.2).1, .agg [.str z.1, .int .i64 (takeRow z.1 z.2.1 z.2.2).2.1, .int .i64 (takeRow z.1 z.2.1 z.2.2).2.2]])
@[simp] theorem T52_eq (t : List UInt8) (a : Int) (b : Int) (h : t.length ≤ 1000000) : T52 52 [.agg [.str t, .int .i64 a, .int .i64 b]] = some (.tup [.str (takeRow t a b).1, .agg [.str t, .int .i64 (takeRow t a b).2.1, .int .i64 (takeRow t a b).2.2]]) := tabAdd_eq (a := (t, a, b)) (by simp +contextual [Int.natCast_inj]) h rfl
@[simp] theorem T52_ne {g : Nat} {xs : List AV} (h : g ≠ 52) : T52 g xs = T51 g xs := tabAdd_ne h
theorem T52_ok : Sound Try.prog T52 := tabAdd_sound T51_ok fun z h => pf52 z.1 z.2.1 z.2.2 h
theorem pf35 (t : List UInt8) (a : Int) (b : Int) (h : t.length ≤ 1000000) : PFx Try.prog 35 [.agg [.str t, .int .i64 a, .int .i64 b]] (.int .i64 (endOf t a b)) := by
  refine PFx_of_W (rc := rc35) (rs := rs35) Try.func35 rfl T52_ok hm (by kernel_rfl) (by kernel_rfl) (by simp [Try.ntmps35]) ?_
  by_cases hb : b = 0
  · subst hb
    by_cases hv : 0 ≤ a ∧ a ≤ t.length
    · by_cases hl : a < t.length
      · have hl' : ¬ a = (t.length : Int) := by omega
        simp [rc35, rs35, hv.1, hv.2, endOf, hl, hl']
      · have hl' : a = (t.length : Int) := by omega
        simp [rc35, rs35, hl', endOf]
    · have hv' : ¬ (0 ≤ a ∧ a ≤ (t.length : Int)) := hv
      simp [rc35, rs35, hv', endOf]
  · simp [rc35, rs35, hb, endOf]
noncomputable def T35 : Tab := tabAdd T52 35 (fun z : (List UInt8) × Int × Int => z.1.length ≤ 1000000) (fun z => [.agg [.str z.1, .int .i64 z.2.1, .int .i64 z.2.2]]) (fun z => .int .i64 (endOf z.1 z.2.1 z.2.2))
@[simp] theorem T35_eq (t : List UInt8) (a : Int) (b : Int) (h : t.length ≤ 1000000) : T35 35 [.agg [.str t, .int .i64 a, .int .i64 b]] = some (.int .i64 (endOf t a b)) := tabAdd_eq (a := (t, a, b)) (by simp +contextual [Int.natCast_inj]) h rfl
@[simp] theorem T35_ne {g : Nat} {xs : List AV} (h : g ≠ 35) : T35 g xs = T52 g xs := tabAdd_ne h
theorem T35_ok : Sound Try.prog T35 := tabAdd_sound T52_ok fun z h => pf35 z.1 z.2.1 z.2.2 h
theorem pf30 (l : List UInt8) (size : Int) (v : Nat) (h : l.length ≤ 100000 ∧ v < 18446744073709551616) : PFx Try.prog 30 [.sl (bytesAV l) l.length, .int .i64 size, .int .u64 v] (.row 1 (bytesAV (numB l size v)) (numB l size v).length) := by
  refine PFx_of_W (rc := rc30) (rs := rs30) Try.func30 rfl T35_ok hm (by kernel_rfl) (by kernel_rfl) (by simp [Try.ntmps30]) ?_
  by_cases hs : 1 ≤ size ∧ size ≤ 8
  · obtain ⟨K, rfl⟩ : ∃ K : Nat, size = K := ⟨size.toNat, by omega⟩
    have s1 : ¬ (K : Int) < 1 := by omega
    have s2 : ¬ 8 < (K : Int) := by omega
    have e1 : (beB K v).take K = beB K v := List.take_of_length_le (by simp)
    simp [rc30, rs30, s1, s2]
    refine ⟨by omega, by omega, ?_⟩
    refine W_forU K (fun _ => True) (fun k => [(7, .row 1 (bytesAV (l ++ (beB K v).take k)) (l.length + k)), (8, .int .i64 ((K : Int) - 1 - k))]) trivial (by simp) (fun k hk _ => ?_) fun _ => ?_
    · have g1 : (k : Int) ≤ (K : Int) - 1 := by omega
      simp [g1]
      refine W_forU (K - 1 - k) (fun _ => True) (fun j => [(9, .int .u64 (v / 256 ^ j : Nat)), (10, .int .i64 j)]) trivial (by simp) (fun j hj _ => ?_) fun _ => ?_
      · have g2 : (j : Int) < (K : Int) - 1 - k := by omega
        have e := Nat.div_div_eq_div_mul v (256 ^ j) 256
        rw [← Nat.pow_succ] at e
        have e2 : v / 256 ^ (j + 1) ≤ v := Nat.div_le_self ..
        have e3 : IntKind.u64.wrap ((v / 256 ^ (j + 1) : Nat) : Int) = ((v / 256 ^ (j + 1) : Nat) : Int) := by
          rw [u64_wrap]
          generalize v / 256 ^ (j + 1) = q at e2 ⊢
          omega
        have e4 : ((v / 256 ^ j : Nat) : Int).tdiv 256 = ((v / 256 ^ (j + 1) : Nat) : Int) := by rw [← e]; rfl
        simp [g2, e4, e3, -Int.natCast_ediv]
        omega
      · have g2 : ¬ ((K - 1 - k : Nat) : Int) < (K : Int) - 1 - k := by omega
        obtain ⟨q, hq⟩ : ∃ q, q = v / 256 ^ (K - 1 - k) := ⟨_, rfl⟩
        have e4 : ((q : Nat) : Int).tmod 256 = ((q % 256 : Nat) : Int) := tmod_nat q 256
        have e5 : IntKind.u8.wrap ((q % 256 : Nat) : Int) = ((q % 256 : Nat) : Int) := by rw [u8_wrap]; omega
        simp [g2, ← hq, e4, e5, -Int.natCast_ediv, -Int.natCast_emod]
        refine ⟨⟨by omega, by omega, by omega⟩, by omega, ⟨?_, by omega⟩, by omega⟩
        rw [beB_take v K k hk, ← List.append_assoc, bytesAV_app (l ++ _), ← bytesAV_single _ (Nat.mod_lt _ (by omega)), hq]
    · have g1 : ¬ (K : Int) ≤ (K : Int) - 1 := by omega
      simp [g1, e1, numB, hs]
  · simp [rc30, rs30, numB, hs, -W_condI, ↓W_cond]
    omega
noncomputable def T30 : Tab := tabAdd T35 30 (fun z : (List UInt8) × Int × Nat => z.1.length ≤ 100000 ∧ z.2.2 < 18446744073709551616) (fun z => [.sl (bytesAV z.1) z.1.length, .int .i64 z.2.1, .int .u64 z.2.2]) (fun z => .row 1 (bytesAV (numB z.1 z.2.1 z.2.2)) (numB z.1 z.2.1 z.2.2).length)
@[simp] theorem T30_eq (l : List UInt8) (size : Int) (v : Nat) (h : l.length ≤ 100000 ∧ v < 18446744073709551616) : T30 30 [.sl (bytesAV l) l.length, .int .i64 size, .int .u64 v] = some (.row 1 (bytesAV (numB l size v)) (numB l size v).length) := tabAdd_eq (a := (l, size, v)) (by simp +contextual [Int.natCast_inj]) h rfl
@[simp] theorem T30_ne {g : Nat} {xs : List AV} (h : g ≠ 30) : T30 g xs = T35 g xs := tabAdd_ne h
theorem T30_ok : Sound Try.prog T30 := tabAdd_sound T35_ok fun z h => pf30 z.1 z.2.1 z.2.2 h
theorem pf31 (l : List UInt8) (s : List UInt8) (h : l.length ≤ 10000 ∧ s.length ≤ 65535) : PFx Try.prog 31 [.sl (bytesAV l) l.length, .str s] (.tup [.sl (bytesAV (l ++ rowB s)) (l.length + (2 + s.length)), .int .i64 0]) := by
  refine PFx_of_W (rc := rc31) (rs := rs31) Try.func31 rfl T30_ok hm (by kernel_rfl) (by kernel_rfl) (by simp [Try.ntmps31]) ?_
  have h1 : ¬ (65535 : Int) < s.length := by omega
  have e := T30_eq l 2 s.length ⟨by omega, by omega⟩
  rw [show (2 : Int) = ((2 : Nat) : Int) from rfl, numB_in l 2 s.length (by omega)] at e
  have u : IntKind.u64.wrap (s.length : Int) = s.length := by rw [u64_wrap]; omega
  simp only [show ((2 : Nat) : Int) = 2 from rfl, List.length_append, beB_len] at e
  simp [rc31, rs31, h1, u, e, rowB, bytesAV_app]
  omega
noncomputable def T31 : Tab := tabAdd T30 31 (fun z : (List UInt8) × (List UInt8) => z.1.length ≤ 10000 ∧ z.2.length ≤ 65535) (fun z => [.sl (bytesAV z.1) z.1.length, .str z.2]) (fun z => .tup [.sl (bytesAV (z.1 ++ rowB z.2)) (z.1.length + (2 + z.2.length)), .int .i64 0])
@[simp] theorem T31_eq (l : List UInt8) (s : List UInt8) (h : l.length ≤ 10000 ∧ s.length ≤ 65535) : T31 31 [.sl (bytesAV l) l.length, .str s] = some (.tup [.sl (bytesAV (l ++ rowB s)) (l.length + (2 + s.length)), .int .i64 0]) := tabAdd_eq (a := (l, s)) (by simp +contextual [Int.natCast_inj]) h rfl
@[simp] theorem T31_ne {g : Nat} {xs : List AV} (h : g ≠ 31) : T31 g xs = T30 g xs := tabAdd_ne h
theorem T31_ok : Sound Try.prog T31 := tabAdd_sound T30_ok fun z h => pf31 z.1 z.2 h
theorem pf63 (n : Int)  : PFx Try.prog 63 [.int .i64 n] (.bool (decide (1 ≤ n ∧ n ≤ 8))) := by
  refine PFx_of_W (rc := rc63) (rs := rs63) Try.func63 rfl T31_ok hm (by kernel_rfl) (by kernel_rfl) (by simp [Try.ntmps63]) ?_
  simp [rc63, rs63]
noncomputable def T63 : Tab := tabAdd T31 63 (fun _ : Int => True) (fun z => [.int .i64 z]) (fun z => .bool (decide (1 ≤ z ∧ z ≤ 8)))
@[simp] theorem T63_eq (n : Int)  : T63 63 [.int .i64 n] = some (.bool (decide (1 ≤ n ∧ n ≤ 8))) := tabAdd_eq (a := n) (by simp +contextual [Int.natCast_inj]) trivial rfl
@[simp] theorem T63_ne {g : Nat} {xs : List AV} (h : g ≠ 63) : T63 g xs = T31 g xs := tabAdd_ne h
theorem T63_ok : Sound Try.prog T63 := tabAdd_sound T31_ok fun z _ => pf63 z 
theorem pf71 (l : List UInt8) (m : Int) (h : 0 ≤ m ∧ l.length + m ≤ 1000000) : PFx Try.prog 71 [.sl (bytesAV l) l.length, .int .i64 m] (.row 1 (bytesAV l) l.length) := by
  refine PFx_of_W (rc := rc71) (rs := rs71) Try.func71 rfl T63_ok hm (by kernel_rfl) (by kernel_rfl) (by simp [Try.ntmps71]) ?_
  simp [rc71, rs71]
  omega
noncomputable def T71 : Tab := tabAdd T63 71 (fun z : (List UInt8) × Int => 0 ≤ z.2 ∧ z.1.length + z.2 ≤ 1000000) (fun z => [.sl (bytesAV z.1) z.1.length, .int .i64 z.2]) (fun z => .row 1 (bytesAV z.1) z.1.length)
@[simp] theorem T71_eq (l : List UInt8) (m : Int) (h : 0 ≤ m ∧ l.length + m ≤ 1000000) : T71 71 [.sl (bytesAV l) l.length, .int .i64 m] = some (.row 1 (bytesAV l) l.length) := tabAdd_eq (a := (l, m)) (by simp +contextual [Int.natCast_inj]) h rfl
@[simp] theorem T71_ne {g : Nat} {xs : List AV} (h : g ≠ 71) : T71 g xs = T63 g xs := tabAdd_ne h
theorem T71_ok : Sound Try.prog T71 := tabAdd_sound T63_ok fun z h => pf71 z.1 z.2 h
theorem pf72 (l : List UInt8) (K : Nat) (v : Nat) (h : K ≤ 8 ∧ l.length ≤ 1000000 ∧ v < 18446744073709551616) : PFx Try.prog 72 [.row 1 (bytesAV l) l.length, .int .i64 K, .int .u64 v] (.row 1 (bytesAV (l ++ beB K v)) (l.length + K)) := by
  refine PFx_of_W (rc := rc72) (rs := rs72) Try.func72 rfl T71_ok hm (by kernel_rfl) (by kernel_rfl) (by simp [Try.ntmps72]) ?_
  have e1 : (beB K v).take K = beB K v := List.take_of_length_le (by simp)
  simp [rc72, rs72]
  refine ⟨by omega, ?_⟩
  refine W_forU K (fun _ => True) (fun k => [(0, .row 1 (bytesAV (l ++ (beB K v).take k)) (l.length + k)), (7, .int .i64 ((K : Int) - 1 - k))]) trivial (by simp) (fun k hk _ => ?_) fun _ => ?_
  · have g1 : (k : Int) ≤ (K : Int) - 1 := by omega
    have f := u8_fdiv v (K - 1 - k) (by omega)
    rw [show ((K - 1 - k : Nat) : Int) = (K : Int) - 1 - k by omega] at f
    simp [g1, f, -Int.natCast_ediv, -Int.natCast_emod]
    refine ⟨by omega, by omega, ⟨by omega, by omega, by omega⟩, by omega, ⟨?_, by omega⟩, by omega⟩
    rw [beB_take v K k hk, ← List.append_assoc, bytesAV_app (l ++ _), ← bytesAV_single _ (Nat.mod_lt _ (by omega))]
  · have g1 : ¬ (K : Int) ≤ (K : Int) - 1 := by omega
    simp [g1, e1]
noncomputable def T72 : Tab := tabAdd T71 72 (fun z : (List UInt8) × Nat × Nat => z.2.1 ≤ 8 ∧ z.1.length ≤ 1000000 ∧ z.2.2 < 18446744073709551616) (fun z => [.row 1 (bytesAV z.1) z.1.length, .int .i64 z.2.1, .int .u64 z.2.2]) (fun z => .row 1 (bytesAV (z.1 ++ beB z.2.1 z.2.2)) (z.1.length + z.2.1))
@[simp] theorem T72_eq (l : List UInt8) (K : Nat) (v : Nat) (h : K ≤ 8 ∧ l.length ≤ 1000000 ∧ v < 18446744073709551616) : T72 72 [.row 1 (bytesAV l) l.length, .int .i64 K, .int .u64 v] = some (.row 1 (bytesAV (l ++ beB K v)) (l.length + K)) := tabAdd_eq (a := (l, K, v)) (by simp +contextual [Int.natCast_inj]) h rfl
@[simp] theorem T72_ne {g : Nat} {xs : List AV} (h : g ≠ 72) : T72 g xs = T71 g xs := tabAdd_ne h
theorem T72_ok : Sound Try.prog T72 := tabAdd_sound T71_ok fun z h => pf72 z.1 z.2.1 z.2.2 h
theorem pf73 (l : List UInt8) (s : List UInt8) (h : l.length ≤ 900000 ∧ s.length ≤ 65535) : PFx Try.prog 73 [.row 1 (bytesAV l) l.length, .str s] (.row 1 (bytesAV (l ++ rowB s)) (l.length + (2 + s.length))) := by
  refine PFx_of_W (rc := rc73) (rs := rs73) Try.func73 rfl T72_ok hm (by kernel_rfl) (by kernel_rfl) (by simp [Try.ntmps73]) ?_
  have e := T72_eq l 2 s.length ⟨by omega, by omega, by omega⟩
  have u : IntKind.u64.wrap (s.length : Int) = s.length := by rw [u64_wrap]; omega
  rw [show ((2 : Nat) : Int) = 2 from rfl] at e
  simp [rc73, rs73, u, e, rowB, bytesAV_app]
  omega
noncomputable def T73 : Tab := tabAdd T72 73 (fun z : (List UInt8) × (List UInt8) => z.1.length ≤ 900000 ∧ z.2.length ≤ 65535) (fun z => [.row 1 (bytesAV z.1) z.1.length, .str z.2]) (fun z => .row 1 (bytesAV (z.1 ++ rowB z.2)) (z.1.length + (2 + z.2.length)))
@[simp] theorem T73_eq (l : List UInt8) (s : List UInt8) (h : l.length ≤ 900000 ∧ s.length ≤ 65535) : T73 73 [.row 1 (bytesAV l) l.length, .str s] = some (.row 1 (bytesAV (l ++ rowB s)) (l.length + (2 + s.length))) := tabAdd_eq (a := (l, s)) (by simp +contextual [Int.natCast_inj]) h rfl
@[simp] theorem T73_ne {g : Nat} {xs : List AV} (h : g ≠ 73) : T73 g xs = T72 g xs := tabAdd_ne h
theorem T73_ok : Sound Try.prog T73 := tabAdd_sound T72_ok fun z h => pf73 z.1 z.2 h
theorem pf59 (l : List UInt8) (size : Int) (v : Nat) (h : l.length ≤ 900000 ∧ v < 18446744073709551616) : PFx Try.prog 59 [.sl (bytesAV l) l.length, .int .i64 size, .int .u64 v] (.row 1 (bytesAV (numB l size v)) (numB l size v).length) := by
  refine PFx_of_W (rc := rc59) (rs := rs59) Try.func59 rfl T73_ok hm (by kernel_rfl) (by kernel_rfl) (by simp [Try.ntmps59]) ?_
  by_cases hs : 1 ≤ size ∧ size ≤ 8
  · obtain ⟨K, rfl⟩ : ∃ K : Nat, size = K := ⟨size.toNat, by omega⟩
    have e1 := T71_eq l K (by omega)
    have e2 := T72_eq l K v ⟨by omega, by omega, h.2⟩
    rw [numB_in l K v (by omega)]
    simp [rc59, rs59, hs, e1, e2]
  · have e1 := T71_eq l 0 (by omega)
    simp [rc59, rs59, hs, e1, numB]
noncomputable def T59 : Tab := tabAdd T73 59 (fun z : (List UInt8) × Int × Nat => z.1.length ≤ 900000 ∧ z.2.2 < 18446744073709551616) (fun z => [.sl (bytesAV z.1) z.1.length, .int .i64 z.2.1, .int .u64 z.2.2]) (fun z => .row 1 (bytesAV (numB z.1 z.2.1 z.2.2)) (numB z.1 z.2.1 z.2.2).length)
@[simp] theorem T59_eq (l : List UInt8) (size : Int) (v : Nat) (h : l.length ≤ 900000 ∧ v < 18446744073709551616) : T59 59 [.sl (bytesAV l) l.length, .int .i64 size, .int .u64 v] = some (.row 1 (bytesAV (numB l size v)) (numB l size v).length) := tabAdd_eq (a := (l, size, v)) (by simp +contextual [Int.natCast_inj]) h rfl
@[simp] theorem T59_ne {g : Nat} {xs : List AV} (h : g ≠ 59) : T59 g xs = T73 g xs := tabAdd_ne h
theorem T59_ok : Sound Try.prog T59 := tabAdd_sound T73_ok fun z h => pf59 z.1 z.2.1 z.2.2 h
theorem pf60 (l : List UInt8) (s : List UInt8) (h : l.length ≤ 900000 ∧ s.length ≤ 65535) : PFx Try.prog 60 [.sl (bytesAV l) l.length, .str s] (.tup [.sl (bytesAV (l ++ rowB s)) (l.length + (2 + s.length)), .int .i64 0]) := by
  refine PFx_of_W (rc := rc60) (rs := rs60) Try.func60 rfl T59_ok hm (by kernel_rfl) (by kernel_rfl) (by simp [Try.ntmps60]) ?_
  have h1 : ¬ (65535 : Int) < s.length := by omega
  have e1 := T71_eq l (2 + s.length) (by omega)
  have e2 := T73_eq l s h
  simp [rc60, rs60, h1, e1, e2]
  omega
noncomputable def T60 : Tab := tabAdd T59 60 (fun z : (List UInt8) × (List UInt8) => z.1.length ≤ 900000 ∧ z.2.length ≤ 65535) (fun z => [.sl (bytesAV z.1) z.1.length, .str z.2]) (fun z => .tup [.sl (bytesAV (z.1 ++ rowB z.2)) (z.1.length + (2 + z.2.length)), .int .i64 0])
@[simp] theorem T60_eq (l : List UInt8) (s : List UInt8) (h : l.length ≤ 900000 ∧ s.length ≤ 65535) : T60 60 [.sl (bytesAV l) l.length, .str s] = some (.tup [.sl (bytesAV (l ++ rowB s)) (l.length + (2 + s.length)), .int .i64 0]) := tabAdd_eq (a := (l, s)) (by simp +contextual [Int.natCast_inj]) h rfl
@[simp] theorem T60_ne {g : Nat} {xs : List AV} (h : g ≠ 60) : T60 g xs = T59 g xs := tabAdd_ne h
theorem T60_ok : Sound Try.prog T60 := tabAdd_sound T59_ok fun z h => pf60 z.1 z.2 h
theorem pf49 (t : List UInt8) (a : Int) (b : Int)  : PFx Try.prog 49 [.agg [.str t, .int .i64 a, .int .i64 b]] (.bool (decide (0 ≤ a ∧ a ≤ t.length))) := by
  refine PFx_of_W (rc := rc49) (rs := rs49) Try.func49 rfl T60_ok hm (by kernel_rfl) (by kernel_rfl) (by simp [Try.ntmps49]) ?_
  simp [rc49, rs49]
noncomputable def T49 : Tab := tabAdd T60 49 (fun _ : (List UInt8) × Int × Int => True) (fun z => [.agg [.str z.1, .int .i64 z.2.1, .int .i64 z.2.2]]) (fun z => .bool (decide (0 ≤ z.2.1 ∧ z.2.1 ≤ z.1.length)))
@[simp] theorem T49_eq (t : List UInt8) (a : Int) (b : Int)  : T49 49 [.agg [.str t, .int .i64 a, .int .i64 b]] = some (.bool (decide (0 ≤ a ∧ a ≤ t.length))) := tabAdd_eq (a := (t, a, b)) (by simp +contextual [Int.natCast_inj]) trivial rfl
@[simp] theorem T49_ne {g : Nat} {xs : List AV} (h : g ≠ 49) : T49 g xs = T60 g xs := tabAdd_ne h
theorem T49_ok : Sound Try.prog T49 := tabAdd_sound T60_ok fun z _ => pf49 z.1 z.2.1 z.2.2 
theorem pf50 (t : List UInt8) (a : Int) (b : Int) (h : 0 ≤ a ∧ a ≤ t.length ∧ t.length ≤ 1000000) : PFx Try.prog 50 [.agg [.str t, .int .i64 a, .int .i64 b]] (.int .i64 (t.length - a)) := by
  refine PFx_of_W (rc := rc50) (rs := rs50) Try.func50 rfl T49_ok hm (by kernel_rfl) (by kernel_rfl) (by simp [Try.ntmps50]) ?_
  simp [rc50, rs50]
  omega
noncomputable def T50 : Tab := tabAdd T49 50 (fun z : (List UInt8) × Int × Int => 0 ≤ z.2.1 ∧ z.2.1 ≤ z.1.length ∧ z.1.length ≤ 1000000) (fun z => [.agg [.str z.1, .int .i64 z.2.1, .int .i64 z.2.2]]) (fun z => .int .i64 (z.1.length - z.2.1))
@[simp] theorem T50_eq (t : List UInt8) (a : Int) (b : Int) (h : 0 ≤ a ∧ a ≤ t.length ∧ t.length ≤ 1000000) : T50 50 [.agg [.str t, .int .i64 a, .int .i64 b]] = some (.int .i64 (t.length - a)) := tabAdd_eq (a := (t, a, b)) (by simp +contextual [Int.natCast_inj]) h rfl
@[simp] theorem T50_ne {g : Nat} {xs : List AV} (h : g ≠ 50) : T50 g xs = T49 g xs := tabAdd_ne h
theorem T50_ok : Sound Try.prog T50 := tabAdd_sound T49_ok fun z h => pf50 z.1 z.2.1 z.2.2 h
theorem pf64 (t : List UInt8) (a : Int) (b : Int) (e : Int)  : PFx Try.prog 64 [.agg [.str t, .int .i64 a, .int .i64 b], .int .i64 e] (.agg [.str t, .int .i64 a, .int .i64 e]) := by
  refine PFx_of_W (rc := rc64) (rs := rs64) Try.func64 rfl T50_ok hm (by kernel_rfl) (by kernel_rfl) (by simp [Try.ntmps64]) ?_
  simp [rc64, rs64]
noncomputable def T64 : Tab := tabAdd T50 64 (fun _ : (List UInt8) × Int × Int × Int => True) (fun z => [.agg [.str z.1, .int .i64 z.2.1, .int .i64 z.2.2.1], .int .i64 z.2.2.2]) (fun z => .agg [.str z.1, .int .i64 z.2.1, .int .i64 z.2.2.2])
@[simp] theorem T64_eq (t : List UInt8) (a : Int) (b : Int) (e : Int)  : T64 64 [.agg [.str t, .int .i64 a, .int .i64 b], .int .i64 e] = some (.agg [.str t, .int .i64 a, .int .i64 e]) := tabAdd_eq (a := (t, a, b, e)) (by simp +contextual [Int.natCast_inj]) trivial rfl
@[simp] theorem T64_ne {g : Nat} {xs : List AV} (h : g ≠ 64) : T64 g xs = T50 g xs := tabAdd_ne h
theorem T64_ok : Sound Try.prog T64 := tabAdd_sound T50_ok fun z _ => pf64 z.1 z.2.1 z.2.2.1 z.2.2.2 
def renPu : Go.Shelf.Ren := { f := fun n => match n with | 0 => 0 | 1 => 1 | 2 => 2 | 25 => 75 | 41 => 76 | 42 => 77 | 43 => 78 | 44 => 79 | 45 => 80 | 46 => 81 | 47 => 82 | 48 => 83 | 49 => 84 | 50 => 85 | 51 => 86 | 52 => 87 | 53 => 88 | 54 => 89 | 55 => 90 | 59 => 93 | n => n, t := fun n => match n with | 0 => 0 | 1 => 1 | 2 => 2 | 3 => 3 | 4 => 4 | 5 => 5 | 6 => 6 | 7 => 7 | 8 => 8 | 9 => 9 | 10 => 10 | 11 => 11 | 12 => 12 | 13 => 13 | 14 => 14 | 15 => 15 | 16 => 16 | 17 => 17 | 18 => 18 | 19 => 19 | 20 => 20 | 21 => 21 | 22 => 22 | 36 => 110 | 37 => 30 | 38 => 43 | 42 => 119 | 46 => 111 | 47 => 120 | 60 => 127 | 62 => 108 | 67 => 121 | 68 => 122 | 69 => 123 | 70 => 124 | 71 => 125 | 72 => 126 | 73 => 94 | 74 => 128 | 75 => 129 | 76 => 130 | 77 => 131 | 78 => 132 | 79 => 133 | 80 => 134 | 81 => 135 | n => n, g := fun n => match n with  | n => n }
theorem laysClone : LaysPu.n25 Try.prog renPu := by
  constructor
  all_goals first | kernel_rfl | (intro w; kernel_rfl)
theorem cloneIn_pf (l : List UInt8) (h : l.length ≤ 1000000) : PFx Try.prog 75 [.str l] (.str l) :=
  pf_of_str fun w => AnyPu.stringslite_Clone laysClone ⟨l.toArray⟩ w (by show l.toArray.size ≤ _; simp; omega)
noncomputable def T75 : Tab := tabAdd T64 75 (fun z : (List UInt8) => z.length ≤ 1000000) (fun z => [.str z]) (fun z => .str z)
@[simp] theorem T75_eq (l : List UInt8) (h : l.length ≤ 1000000) : T75 75 [.str l] = some (.str l) := tabAdd_eq (a := l) (by simp +contextual [Int.natCast_inj]) h rfl
@[simp] theorem T75_ne {g : Nat} {xs : List AV} (h : g ≠ 75) : T75 g xs = T64 g xs := tabAdd_ne h
theorem T75_ok : Sound Try.prog T75 := tabAdd_sound T64_ok fun z h => cloneIn_pf z h
theorem pf74 (l : List UInt8) (h : l.length ≤ 1000000) : PFx Try.prog 74 [.str l] (.str l) := by
  refine PFx_of_W (rc := rc74) (rs := rs74) Try.func74 rfl T75_ok hm (by kernel_rfl) (by kernel_rfl) (by simp [Try.ntmps74]) ?_
  simp [rc74, rs74, h]
noncomputable def T74 : Tab := tabAdd T75 74 (fun z : (List UInt8) => z.length ≤ 1000000) (fun z => [.str z]) (fun z => .str z)
@[simp] theorem T74_eq (l : List UInt8) (h : l.length ≤ 1000000) : T74 74 [.str l] = some (.str l) := tabAdd_eq (a := l) (by simp +contextual [Int.natCast_inj]) h rfl
@[simp] theorem T74_ne {g : Nat} {xs : List AV} (h : g ≠ 74) : T74 g xs = T75 g xs := tabAdd_ne h
theorem T74_ok : Sound Try.prog T74 := tabAdd_sound T75_ok fun z h => pf74 z h
theorem pf65 (t : List UInt8) (a : Int) (b : Int) (e : Int) (h : 0 ≤ a ∧ a ≤ e ∧ e ≤ t.length ∧ t.length ≤ 1000000) : PFx Try.prog 65 [.agg [.str t, .int .i64 a, .int .i64 b], .int .i64 e] (.str ((t.take e.toNat).drop a.toNat)) := by
  refine PFx_of_W (rc := rc65) (rs := rs65) Try.func65 rfl T74_ok hm (by kernel_rfl) (by kernel_rfl) (by simp [Try.ntmps65]) ?_
  have q : ((t.take e.toNat).drop a.toNat).length ≤ 1000000 := by simp; omega
  have e := T74_eq _ q
  simp [rc65, rs65, e]
  omega
noncomputable def T65 : Tab := tabAdd T74 65 (fun z : (List UInt8) × Int × Int × Int => 0 ≤ z.2.1 ∧ z.2.1 ≤ z.2.2.2 ∧ z.2.2.2 ≤ z.1.length ∧ z.1.length ≤ 1000000) (fun z => [.agg [.str z.1, .int .i64 z.2.1, .int .i64 z.2.2.1], .int .i64 z.2.2.2]) (fun z => .str ((z.1.take z.2.2.2.toNat).drop z.2.1.toNat))
@[simp] theorem T65_eq (t : List UInt8) (a : Int) (b : Int) (e : Int) (h : 0 ≤ a ∧ a ≤ e ∧ e ≤ t.length ∧ t.length ≤ 1000000) : T65 65 [.agg [.str t, .int .i64 a, .int .i64 b], .int .i64 e] = some (.str ((t.take e.toNat).drop a.toNat)) := tabAdd_eq (a := (t, a, b, e)) (by simp +contextual [Int.natCast_inj]) h rfl
@[simp] theorem T65_ne {g : Nat} {xs : List AV} (h : g ≠ 65) : T65 g xs = T74 g xs := tabAdd_ne h
theorem T65_ok : Sound Try.prog T65 := tabAdd_sound T74_ok fun z h => pf65 z.1 z.2.1 z.2.2.1 z.2.2.2 h
theorem pf44 (t : List UInt8) (a : Int) (b : Int) (size : Int) (h : t.length ≤ 1000000) : PFx Try.prog 44 [.agg [.str t, .int .i64 a, .int .i64 b], .int .i64 size] (.tup [.int .u64 (takeNum t a b size).1, .agg [.str t, .int .i64 (takeNum t a b size).2.1, .int .i64 (takeNum t a b size).2.2]]) := by
  refine PFx_of_W (rc := rc44) (rs := rs44) Try.func44 rfl T65_ok hm (by kernel_rfl) (by kernel_rfl) (by simp [Try.ntmps44]) ?_
  by_cases hb : b = 0
  · subst hb
    by_cases hv : (0 ≤ a ∧ a ≤ t.length) ∧ 1 ≤ size ∧ size ≤ 8
    · obtain ⟨⟨v1, v2⟩, v3, v4⟩ := hv
      by_cases hs : (t.length : Int) - a < size
      · have e : takeNum t a 0 size = (0, a, 3) := by
          unfold takeNum; rw [if_neg (by simp), if_neg (by omega), if_pos hs]
        simp [rc44, rs44, v1, v2, v3, v4, h, hs, e]
      · have e : takeNum t a 0 size = (numOf ((t.drop a.toNat).take size.toNat), a + size, 0) := by
          unfold takeNum; rw [if_neg (by simp), if_neg (by omega), if_neg hs]
        simp [rc44, rs44, v1, v2, v3, v4, h, hs]
        refine W_forU size.toNat (fun _ => True) (fun k => [(2, .box [.str t, .int .i64 (a + k), .int .i64 0]), (6, .int .u64 (numOf ((t.drop a.toNat).take k))), (28, .int .i64 k)]) trivial (by simp [numOf]) (fun k hk _ => ?_) fun _ => ?_
        · have g1 : (k : Int) < size := by omega
          have g2 : 0 ≤ a + k := by omega
          have g3 : a + k < t.length := by omega
          have gt : (a + (k : Int)).toNat = a.toNat + k := by omega
          have hi : (a + (k : Int)).toNat < t.length := by omega
          have st := num_step (t := t) (i := a.toNat) (k := k) (by omega)
          have ge : t.getD (a.toNat + k) 0 = t[(a + (k : Int)).toNat] := by
            rw [← gt, List.getD_eq_getElem?_getD, List.getElem?_eq_getElem hi]; rfl
          have lt := num_lt7 (t := t) (i := a.toNat) (k := k) (by omega)
          have bl := (t[(a + (k : Int)).toNat]).toNat_lt
          rw [ge] at st
          simp [g1, g2, g3]
          refine ⟨by omega, by omega, by omega, by omega, ?_⟩
          rw [st]
          generalize numOf ((t.drop a.toNat).take k) = m at lt ⊢
          rw [show (2 : Int) ^ min 8 IntKind.u64.bits = 256 from rfl, u64_wrap, Int.emod_eq_of_lt (by omega) (by omega), or_byte m _ (by omega) (by omega)]
          omega
        · have g1 : ¬ (size.toNat : Int) < size := by omega
          simp [g1, e]
          omega
    · have e : takeNum t a 0 size = (0, a, 2) := by
        unfold takeNum; rw [if_neg (by simp), if_pos (by omega)]
      have hv' : ¬ (0 ≤ a ∧ a ≤ (t.length : Int)) ∨ ¬ (1 ≤ size ∧ size ≤ 8) := by omega
      simp [rc44, rs44, e, -W_condI, ↓W_cond]
      omega
  · have e : takeNum t a b size = (0, a, b) := by unfold takeNum; rw [if_pos hb]
    simp [rc44, rs44, hb, e]
noncomputable def T44 : Tab := tabAdd T65 44 (fun z : (List UInt8) × Int × Int × Int => z.1.length ≤ 1000000) (fun z => [.agg [.str z.1, .int .i64 z.2.1, .int .i64 z.2.2.1], .int .i64 z.2.2.2]) (fun z => .tup [.int .u64 (takeNum z.1 z.2.1 z.2.2.1 z.2.2.2).1, .agg [.str z.1, .int .i64 (takeNum z.1 z.2.1 z.2.2.1 z.2.2.2).2.1, .int .i64 (takeNum z.1 z.2.1 z.2.2.1 z.2.2.2).2.2]])
@[simp] theorem T44_eq (t : List UInt8) (a : Int) (b : Int) (size : Int) (h : t.length ≤ 1000000) : T44 44 [.agg [.str t, .int .i64 a, .int .i64 b], .int .i64 size] = some (.tup [.int .u64 (takeNum t a b size).1, .agg [.str t, .int .i64 (takeNum t a b size).2.1, .int .i64 (takeNum t a b size).2.2]]) := tabAdd_eq (a := (t, a, b, size)) (by simp +contextual [Int.natCast_inj]) h rfl
@[simp] theorem T44_ne {g : Nat} {xs : List AV} (h : g ≠ 44) : T44 g xs = T65 g xs := tabAdd_ne h
theorem T44_ok : Sound Try.prog T44 := tabAdd_sound T65_ok fun z h => pf44 z.1 z.2.1 z.2.2.1 z.2.2.2 h
theorem pf45 (t : List UInt8) (a : Int) (b : Int) (h : t.length ≤ 1000000) : PFx Try.prog 45 [.agg [.str t, .int .i64 a, .int .i64 b]] (.tup [.str (takeRow t a b).1, .agg [.str t, .int .i64 (takeRow t a b).2.1, .int .i64 (takeRow t a b).2.2]]) := by
  refine PFx_of_W (rc := rc45) (rs := rs45) Try.func45 rfl T44_ok hm (by kernel_rfl) (by kernel_rfl) (by simp [Try.ntmps45]) ?_
  have e := T44_eq t a b 2 h
  have l2 := takeNum_lt2 (t := t) (a := a) (b := b)
  by_cases hb : (takeNum t a b 2).2.2 = 0
  · obtain ⟨k1, k2, _, _, k3, k4, _⟩ := takeNum_ok hb
    subst k1
    obtain ⟨n, hn⟩ : ∃ n, takeNum t a 0 2 = (n, a + 2, 0) := ⟨(takeNum t a 0 2).1, Prod.ext rfl (Prod.ext k3 hb)⟩
    rw [hn] at e l2
    simp only at e l2
    have e36 := T50_eq t (a + 2) 0 ⟨by omega, by omega, h⟩
    by_cases hs : (t.length : Int) - (a + 2) < n
    · have er : takeRow t a 0 = ([], a, 3) := by unfold takeRow; rw [hn, if_neg (by simp), if_pos hs]
      simp [rc45, rs45, e, e36, er, hs]
      omega
    · have er : takeRow t a 0 = ((t.take (a + 2 + n).toNat).drop (a + 2).toNat, a + 2 + n, 0) := by unfold takeRow; rw [hn, if_neg (by simp), if_neg hs]
      have e34 := T65_eq t (a + 2) 0 (a + 2 + n) ⟨by omega, by omega, by omega, h⟩
      simp [rc45, rs45, e, e36, e34, hs, er]
      omega
  · have er : takeRow t a b = ([], (takeNum t a b 2).2.1, (takeNum t a b 2).2.2) := by unfold takeRow; rw [if_pos hb]
    simp [rc45, rs45, e, hb, er]
noncomputable def T45 : Tab := tabAdd T44 45 (fun z : (List UInt8) × Int × Int => z.1.length ≤ 1000000) (fun z => [.agg [.str z.1, .int .i64 z.2.1, .int .i64 z.2.2]]) (fun z => .tup [.str (takeRow z.1 z.2.1 z.2.2).1, .agg [.str z.1, .int .i64 (takeRow z.1 z.2.1 z.2.2).2.1, .int .i64 (takeRow z.1 z.2.1 z.2.2).2.2]])
@[simp] theorem T45_eq (t : List UInt8) (a : Int) (b : Int) (h : t.length ≤ 1000000) : T45 45 [.agg [.str t, .int .i64 a, .int .i64 b]] = some (.tup [.str (takeRow t a b).1, .agg [.str t, .int .i64 (takeRow t a b).2.1, .int .i64 (takeRow t a b).2.2]]) := tabAdd_eq (a := (t, a, b)) (by simp +contextual [Int.natCast_inj]) h rfl
@[simp] theorem T45_ne {g : Nat} {xs : List AV} (h : g ≠ 45) : T45 g xs = T44 g xs := tabAdd_ne h
theorem T45_ok : Sound Try.prog T45 := tabAdd_sound T44_ok fun z h => pf45 z.1 z.2.1 z.2.2 h
theorem pf33 (t : List UInt8) (a : Int) (b : Int) (h : t.length ≤ 1000000) : PFx Try.prog 33 [.agg [.str t, .int .i64 a, .int .i64 b]] (.int .i64 (endOf t a b)) := by
  refine PFx_of_W (rc := rc33) (rs := rs33) Try.func33 rfl T45_ok hm (by kernel_rfl) (by kernel_rfl) (by simp [Try.ntmps33]) ?_
  by_cases hb : b = 0
  · subst hb
    by_cases hv : 0 ≤ a ∧ a ≤ t.length
    · have e36 := T50_eq t a 0 ⟨hv.1, hv.2, h⟩
      simp [rc33, rs33, hv.1, hv.2, e36, endOf]
    · have hv' : ¬ (0 ≤ a ∧ a ≤ (t.length : Int)) := hv
      simp [rc33, rs33, hv', endOf]
  · simp [rc33, rs33, hb, endOf]
noncomputable def T33 : Tab := tabAdd T45 33 (fun z : (List UInt8) × Int × Int => z.1.length ≤ 1000000) (fun z => [.agg [.str z.1, .int .i64 z.2.1, .int .i64 z.2.2]]) (fun z => .int .i64 (endOf z.1 z.2.1 z.2.2))
@[simp] theorem T33_eq (t : List UInt8) (a : Int) (b : Int) (h : t.length ≤ 1000000) : T33 33 [.agg [.str t, .int .i64 a, .int .i64 b]] = some (.int .i64 (endOf t a b)) := tabAdd_eq (a := (t, a, b)) (by simp +contextual [Int.natCast_inj]) h rfl
@[simp] theorem T33_ne {g : Nat} {xs : List AV} (h : g ≠ 33) : T33 g xs = T45 g xs := tabAdd_ne h
theorem T33_ok : Sound Try.prog T33 := tabAdd_sound T45_ok fun z h => pf33 z.1 z.2.1 z.2.2 h
end Go.Proofs.Ytbikpgaiocjnoaa

