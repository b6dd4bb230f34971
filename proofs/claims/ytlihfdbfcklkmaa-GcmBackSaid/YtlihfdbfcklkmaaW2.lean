/- The laws of gcm. -/
import Derived.Test.YtlihfdbfcklkmaaW1
import Derived.Test.YtlihfdbfcklkmaaWN
set_option linter.unusedVariables false
set_option linter.unusedSimpArgs false
namespace Go.Proofs.Ytlihfdbfcklkmaa
open Go.Proofs.Ytlihfdbfcklkmaa.Pad Go.Proofs.Ytlihfdbfcklkmaa.Pad.Ci Go.Proofs.Ytlihfdbfcklkmaa.Pad.Gc
open Go.Proofs.Ytlihfdbfcklkmaa.Pad.Gh (tx sumT)
/-- padlock/padlocklaw09.over -/
def rc8 : RC :=
  (.seq
   (.reg false [⟨(some 1), .box (.t 0), none⟩,
     ⟨(some 2), .mov (.c (.bool false)), none⟩] [1])
   (.seq
    (.reg false [⟨(some 3), .fldB 1 0, none⟩,
      ⟨(some 4), .loadR 3 1 1 false, none⟩,
      ⟨(some 5), .len true (.t 4), none⟩,
      ⟨(some 6), .bin .gtr true (.t 5) (.c (.int .i64 20)), none⟩,
      ⟨(some 7), .mov (.t 6), none⟩,
      ⟨(some 8), .fldB 1 1, (some (7, false))⟩,
      ⟨(some 9), .loadR 8 1 1 false, (some (7, false))⟩,
      ⟨(some 10), .len true (.t 9), (some (7, false))⟩,
      ⟨(some 11), .bin .gtr true (.t 10) (.c (.int .i64 60)), (some (7, false))⟩,
      ⟨(some 12), .pick (.t 7) (.c (.bool true)) (.t 11), none⟩,
      ⟨(some 13), .mov (.t 12), none⟩,
      ⟨(some 14), .fldB 1 2, (some (13, false))⟩,
      ⟨(some 15), .loadR 14 1 1 false, (some (13, false))⟩,
      ⟨(some 16), .len true (.t 15), (some (13, false))⟩,
      ⟨(some 17), .bin .gtr true (.t 16) (.c (.int .i64 60)), (some (13, false))⟩,
      ⟨(some 18), .pick (.t 13) (.c (.bool true)) (.t 17), none⟩,
      ⟨(some 2), .mov (.t 18), none⟩] [2])
    .ret))
def rs8 : List RS := [.tmp 2]
/-- padlock/padlocklaw09.awake -/
def rc9 : RC :=
  (.seq
   (.reg false [⟨(some 0), .mov (.c (.bool false)), none⟩] [])
   (.seq
    (.reg false [⟨(some 1), .alloc (List.replicate 16 (.int .u8 0)), none⟩] [1])
    (.seq
     (.reg false [⟨(some 13), .make 1 1 [(.int .u8 0)] (.c (.int .i64 12)) (.c (.int .i64 12)), none⟩,
       ⟨(some 14), .b2s (.t 13), none⟩,
       ⟨(some 2), .mov (.t 14), none⟩] [1, 2])
     (.seq
      (.reg false [⟨(some 16), .loadB 1 16 true, none⟩,
        ⟨(some 17), .mov (.t 2), none⟩,
        ⟨(some 18), .call 16 [(false, (.t 16)), (false, (.t 17)), (false, (.c (.str []))), (false, (.c (.str [])))], none⟩,
        ⟨(some 15), .mov (.t 18), none⟩,
        ⟨(some 19), .ext (.t 15) 0, none⟩,
        ⟨(some 20), .ext (.t 15) 1, none⟩,
        ⟨(some 3), .mov (.t 19), none⟩,
        ⟨(some 4), .mov (.t 20), none⟩] [1, 2, 3, 4])
      (.seq
       (.reg false [⟨(some 22), .loadB 1 16 true, none⟩,
         ⟨(some 23), .mov (.t 2), none⟩,
         ⟨(some 24), .mov (.t 3), none⟩,
         ⟨(some 25), .call 18 [(false, (.t 22)), (false, (.t 23)), (false, (.c (.str []))), (false, (.t 24))], none⟩,
         ⟨(some 21), .mov (.t 25), none⟩,
         ⟨(some 26), .ext (.t 21) 0, none⟩,
         ⟨(some 27), .ext (.t 21) 1, none⟩,
         ⟨(some 5), .mov (.t 26), none⟩,
         ⟨(some 6), .mov (.t 27), none⟩] [1, 2, 3, 4, 5, 6])
       (.seq
        (.reg false [⟨(some 29), .loadB 1 16 true, none⟩,
          ⟨(some 30), .mov (.t 2), none⟩,
          ⟨(some 31), .mov (.t 3), none⟩,
          ⟨(some 32), .call 18 [(false, (.t 29)), (false, (.t 30)), (false, (.c (.str [120]))), (false, (.t 31))], none⟩,
          ⟨(some 28), .mov (.t 32), none⟩,
          ⟨(some 33), .ext (.t 28) 0, none⟩,
          ⟨(some 34), .ext (.t 28) 1, none⟩,
          ⟨(some 7), .mov (.t 33), none⟩,
          ⟨(some 8), .mov (.t 34), none⟩] [1, 2, 3, 4, 5, 6, 8])
        (.seq
         (.reg false [⟨(some 36), .loadB 1 16 true, none⟩,
           ⟨(some 37), .call 16 [(false, (.t 36)), (false, (.c (.str [115, 104, 111, 114, 116]))), (false, (.c (.str []))), (false, (.c (.str [])))], none⟩,
           ⟨(some 35), .mov (.t 37), none⟩,
           ⟨(some 38), .ext (.t 35) 0, none⟩,
           ⟨(some 39), .ext (.t 35) 1, none⟩,
           ⟨(some 9), .mov (.t 38), none⟩,
           ⟨(some 10), .mov (.t 39), none⟩] [1, 2, 3, 4, 5, 6, 8, 10])
         (.seq
          (.reg false [⟨(some 41), .loadB 1 16 true, none⟩,
            ⟨(some 42), .mov (.t 2), none⟩,
            ⟨(some 43), .call 18 [(false, (.t 41)), (false, (.t 42)), (false, (.c (.str []))), (false, (.c (.str [115, 104, 111, 114, 116])))], none⟩,
            ⟨(some 40), .mov (.t 43), none⟩,
            ⟨(some 44), .ext (.t 40) 0, none⟩,
            ⟨(some 45), .ext (.t 40) 1, none⟩,
            ⟨(some 11), .mov (.t 44), none⟩,
            ⟨(some 12), .mov (.t 45), none⟩] [1, 3, 4, 5, 6, 8, 10, 12])
          (.seq
           (.reg false [⟨(some 46), .mov (.t 4), none⟩,
             ⟨(some 47), .bin .eql true (.t 46) (.c (.int .i64 0)), none⟩,
             ⟨(some 48), .mov (.t 47), none⟩,
             ⟨(some 49), .mov (.t 3), (some (48, true))⟩,
             ⟨(some 50), .len true (.t 49), (some (48, true))⟩,
             ⟨(some 51), .bin .eql true (.t 50) (.c (.int .i64 16)), (some (48, true))⟩,
             ⟨(some 52), .pick (.t 48) (.t 51) (.c (.bool false)), none⟩,
             ⟨(some 53), .mov (.t 52), none⟩,
             ⟨(some 54), .mov (.t 3), (some (53, true))⟩,
             ⟨(some 55), .sidx (.t 54) (.c (.int .i64 0)), (some (53, true))⟩,
             ⟨(some 56), .bin .eql false (.t 55) (.c (.int .u8 88)), (some (53, true))⟩,
             ⟨(some 57), .pick (.t 53) (.t 56) (.c (.bool false)), none⟩,
             ⟨(some 58), .mov (.t 57), none⟩,
             ⟨(some 59), .mov (.t 5), (some (58, true))⟩,
             ⟨(some 60), .bin .eql false (.t 59) (.c (.str [])), (some (58, true))⟩,
             ⟨(some 61), .pick (.t 58) (.t 60) (.c (.bool false)), none⟩,
             ⟨(some 62), .mov (.t 61), none⟩,
             ⟨(some 63), .mov (.t 6), (some (62, true))⟩,
             ⟨(some 64), .bin .eql true (.t 63) (.c (.int .i64 0)), (some (62, true))⟩,
             ⟨(some 65), .pick (.t 62) (.t 64) (.c (.bool false)), none⟩,
             ⟨(some 66), .mov (.t 65), none⟩,
             ⟨(some 67), .mov (.t 8), (some (66, true))⟩,
             ⟨(some 68), .bin .eql true (.t 67) (.c (.int .i64 11)), (some (66, true))⟩,
             ⟨(some 69), .pick (.t 66) (.t 68) (.c (.bool false)), none⟩,
             ⟨(some 70), .mov (.t 69), none⟩,
             ⟨(some 71), .mov (.t 10), (some (70, true))⟩,
             ⟨(some 72), .bin .eql true (.t 71) (.c (.int .i64 2)), (some (70, true))⟩,
             ⟨(some 73), .pick (.t 70) (.t 72) (.c (.bool false)), none⟩,
             ⟨(some 74), .mov (.t 73), none⟩,
             ⟨(some 75), .mov (.t 12), (some (74, true))⟩,
             ⟨(some 76), .bin .eql true (.t 75) (.c (.int .i64 3)), (some (74, true))⟩,
             ⟨(some 77), .pick (.t 74) (.t 76) (.c (.bool false)), none⟩,
             ⟨(some 78), .mov (.t 77), none⟩,
             ⟨(some 79), .pick (.t 78) (.c (.bool true)) (.c (.bool false)), none⟩,
             ⟨(some 80), .mov (.t 79), none⟩,
             ⟨(some 81), .loadB 1 16 true, (some (80, true))⟩,
             ⟨(some 82), .call 14 [(false, (.t 81))], (some (80, true))⟩,
             ⟨(some 83), .aidx 1 16 false (.t 82) (.c (.int .i64 0)), (some (80, true))⟩,
             ⟨(some 84), .bin .eql false (.t 83) (.c (.int .u8 102)), (some (80, true))⟩,
             ⟨(some 85), .pick (.t 80) (.t 84) (.c (.bool false)), none⟩,
             ⟨(some 86), .mov (.t 85), none⟩,
             ⟨(some 87), .pick (.t 86) (.c (.bool true)) (.c (.bool false)), none⟩,
             ⟨(some 0), .mov (.t 87), none⟩] [0])
           .ret)))))))))
def rs9 : List RS := [.tmp 0]
/-- padlock/padlocklaw09.GcmStreams -/
def rc3 : RC :=
  (.seq
   (.reg false [⟨(some 3), .box (.t 0), none⟩,
     ⟨(some 4), .box (.t 1), none⟩,
     ⟨(some 6), .mov (.c (.bool false)), none⟩] [2, 3, 4])
   (.seq
    (.seq
     (.reg false [⟨(some 16), .loadB 4 3 true, none⟩,
       ⟨(some 17), .call 8 [(false, (.t 16))], none⟩] [2, 3, 4, 17])
     (.cond 17
      (.seq
       (.reg false [⟨(some 18), .call 9 [], none⟩,
         ⟨(some 6), .mov (.t 18), none⟩] [6])
       .ret)
      (.reg false [] [2, 3, 4])))
    (.seq
     (.reg false [⟨(some 19), .loadB 3 16 true, none⟩,
       ⟨(some 7), .alloc (List.replicate 16 (.int .u8 0)), none⟩,
       ⟨none, .stB 7 16 (.t 19), none⟩] [2, 3, 4, 7])
     (.seq
      (.reg false [⟨(some 21), .loadB 7 16 true, none⟩,
        ⟨(some 22), .fldB 4 0, none⟩,
        ⟨(some 23), .loadR 22 4 1 false, none⟩,
        ⟨(some 24), .mov (.t 2), none⟩,
        ⟨(some 25), .fldB 4 2, none⟩,
        ⟨(some 26), .loadR 25 4 1 false, none⟩,
        ⟨(some 27), .call 10 [(false, (.t 21)), (false, (.t 23)), (false, (.t 24)), (false, (.t 26))], none⟩,
        ⟨(some 20), .mov (.t 27), none⟩,
        ⟨(some 28), .ext (.t 20) 0, none⟩,
        ⟨(some 29), .ext (.t 20) 1, none⟩,
        ⟨(some 8), .mov (.t 28), none⟩,
        ⟨(some 9), .mov (.t 29), none⟩] [2, 3, 4, 7, 8, 9])
      (.seq
       (.reg false [⟨(some 31), .loadB 3 16 true, none⟩,
         ⟨(some 32), .fldB 4 0, none⟩,
         ⟨(some 33), .loadR 32 4 1 false, none⟩,
         ⟨(some 34), .mov (.t 2), none⟩,
         ⟨(some 35), .fldB 4 2, none⟩,
         ⟨(some 36), .loadR 35 4 1 false, none⟩,
         ⟨(some 37), .call 11 [(false, (.t 31)), (false, (.t 33)), (false, (.t 34)), (false, (.t 36))], none⟩,
         ⟨(some 30), .mov (.t 37), none⟩,
         ⟨(some 38), .ext (.t 30) 0, none⟩,
         ⟨(some 39), .ext (.t 30) 1, none⟩,
         ⟨(some 10), .mov (.t 38), none⟩,
         ⟨(some 11), .mov (.t 39), none⟩] [3, 4, 7, 8, 9, 10, 11])
       (.seq
        (.reg false [⟨(some 41), .loadB 7 16 true, none⟩,
          ⟨(some 42), .fldB 4 0, none⟩,
          ⟨(some 43), .loadR 42 4 1 false, none⟩,
          ⟨(some 44), .fldB 4 1, none⟩,
          ⟨(some 45), .loadR 44 4 1 false, none⟩,
          ⟨(some 46), .fldB 4 2, none⟩,
          ⟨(some 47), .loadR 46 4 1 false, none⟩,
          ⟨(some 48), .call 12 [(false, (.t 41)), (false, (.t 43)), (false, (.t 45)), (false, (.t 47))], none⟩,
          ⟨(some 40), .mov (.t 48), none⟩,
          ⟨(some 49), .ext (.t 40) 0, none⟩,
          ⟨(some 50), .ext (.t 40) 1, none⟩,
          ⟨(some 12), .mov (.t 49), none⟩,
          ⟨(some 13), .mov (.t 50), none⟩] [3, 4, 7, 8, 9, 10, 11, 12, 13])
        (.seq
         (.reg false [⟨(some 52), .loadB 3 16 true, none⟩,
           ⟨(some 53), .fldB 4 0, none⟩,
           ⟨(some 54), .loadR 53 4 1 false, none⟩,
           ⟨(some 55), .fldB 4 1, none⟩,
           ⟨(some 56), .loadR 55 4 1 false, none⟩,
           ⟨(some 57), .fldB 4 2, none⟩,
           ⟨(some 58), .loadR 57 4 1 false, none⟩,
           ⟨(some 59), .call 13 [(false, (.t 52)), (false, (.t 54)), (false, (.t 56)), (false, (.t 58))], none⟩,
           ⟨(some 51), .mov (.t 59), none⟩,
           ⟨(some 60), .ext (.t 51) 0, none⟩,
           ⟨(some 61), .ext (.t 51) 1, none⟩,
           ⟨(some 14), .mov (.t 60), none⟩,
           ⟨(some 15), .mov (.t 61), none⟩] [3, 7, 8, 9, 10, 11, 12, 13, 14, 15])
         (.seq
          (.reg true [⟨(some 62), .mov (.t 8), none⟩,
            ⟨(some 63), .mov (.t 10), none⟩,
            ⟨(some 64), .bin .eql false (.t 62) (.t 63), none⟩,
            ⟨(some 65), .mov (.t 64), none⟩,
            ⟨(some 66), .mov (.t 9), (some (65, true))⟩,
            ⟨(some 67), .mov (.t 11), (some (65, true))⟩,
            ⟨(some 68), .bin .eql true (.t 66) (.t 67), (some (65, true))⟩,
            ⟨(some 69), .pick (.t 65) (.t 68) (.c (.bool false)), none⟩,
            ⟨(some 70), .mov (.t 69), none⟩,
            ⟨(some 71), .mov (.t 12), (some (70, true))⟩,
            ⟨(some 72), .mov (.t 14), (some (70, true))⟩,
            ⟨(some 73), .bin .eql false (.t 71) (.t 72), (some (70, true))⟩,
            ⟨(some 74), .pick (.t 70) (.t 73) (.c (.bool false)), none⟩,
            ⟨(some 75), .mov (.t 74), none⟩,
            ⟨(some 76), .mov (.t 13), (some (75, true))⟩,
            ⟨(some 77), .mov (.t 15), (some (75, true))⟩,
            ⟨(some 78), .bin .eql true (.t 76) (.t 77), (some (75, true))⟩,
            ⟨(some 79), .pick (.t 75) (.t 78) (.c (.bool false)), none⟩,
            ⟨(some 80), .mov (.t 79), none⟩,
            ⟨(some 81), .loadB 7 16 true, (some (80, true))⟩,
            ⟨(some 82), .call 14 [(false, (.t 81))], (some (80, true))⟩,
            ⟨(some 83), .loadB 3 16 true, (some (80, true))⟩,
            ⟨(some 84), .call 15 [(false, (.t 83))], (some (80, true))⟩,
            ⟨(some 85), .beq false (some (List.replicate 16 .i)) (.t 82) (.t 84), (some (80, true))⟩,
            ⟨(some 86), .pick (.t 80) (.t 85) (.c (.bool false)), none⟩,
            ⟨(some 87), .mov (.t 86), none⟩,
            ⟨(some 88), .call 9 [], (some (87, true))⟩,
            ⟨(some 89), .pick (.t 87) (.t 88) (.c (.bool false)), none⟩,
            ⟨(some 6), .mov (.t 89), none⟩] [6])
          .ret))))))))
def rs3 : List RS := [.tmp 6]
/-- padlock/padlocklaw09.GcmSeals -/
def rc4 : RC :=
  (.seq
   (.reg false [⟨(some 2), .box (.t 0), none⟩,
     ⟨(some 3), .box (.t 1), none⟩,
     ⟨(some 4), .mov (.c (.bool false)), none⟩] [2, 3])
   (.seq
    (.seq
     (.reg false [⟨(some 14), .loadB 3 3 true, none⟩,
       ⟨(some 15), .call 8 [(false, (.t 14))], none⟩] [2, 3, 15])
     (.cond 15
      (.seq
       (.reg false [⟨(some 16), .call 9 [], none⟩,
         ⟨(some 4), .mov (.t 16), none⟩] [4])
       .ret)
      (.reg false [] [2, 3])))
    (.seq
     (.reg false [⟨(some 17), .loadB 2 16 true, none⟩,
       ⟨(some 5), .alloc (List.replicate 16 (.int .u8 0)), none⟩,
       ⟨none, .stB 5 16 (.t 17), none⟩] [2, 3, 5])
     (.seq
      (.reg false [⟨(some 19), .loadB 5 16 true, none⟩,
        ⟨(some 20), .fldB 3 0, none⟩,
        ⟨(some 21), .loadR 20 3 1 false, none⟩,
        ⟨(some 22), .fldB 3 1, none⟩,
        ⟨(some 23), .loadR 22 3 1 false, none⟩,
        ⟨(some 24), .fldB 3 2, none⟩,
        ⟨(some 25), .loadR 24 3 1 false, none⟩,
        ⟨(some 26), .call 16 [(false, (.t 19)), (false, (.t 21)), (false, (.t 23)), (false, (.t 25))], none⟩,
        ⟨(some 18), .mov (.t 26), none⟩,
        ⟨(some 27), .ext (.t 18) 0, none⟩,
        ⟨(some 28), .ext (.t 18) 1, none⟩,
        ⟨(some 6), .mov (.t 27), none⟩,
        ⟨(some 7), .mov (.t 28), none⟩] [2, 3, 5, 6, 7])
      (.seq
       (.reg false [⟨(some 30), .loadB 2 16 true, none⟩,
         ⟨(some 31), .fldB 3 0, none⟩,
         ⟨(some 32), .loadR 31 3 1 false, none⟩,
         ⟨(some 33), .fldB 3 1, none⟩,
         ⟨(some 34), .loadR 33 3 1 false, none⟩,
         ⟨(some 35), .fldB 3 2, none⟩,
         ⟨(some 36), .loadR 35 3 1 false, none⟩,
         ⟨(some 37), .call 17 [(false, (.t 30)), (false, (.t 32)), (false, (.t 34)), (false, (.t 36))], none⟩,
         ⟨(some 29), .mov (.t 37), none⟩,
         ⟨(some 38), .ext (.t 29) 0, none⟩,
         ⟨(some 39), .ext (.t 29) 1, none⟩,
         ⟨(some 8), .mov (.t 38), none⟩,
         ⟨(some 9), .mov (.t 39), none⟩] [2, 3, 5, 6, 7, 8, 9])
       (.seq
        (.reg false [⟨(some 41), .loadB 5 16 true, none⟩,
          ⟨(some 42), .fldB 3 0, none⟩,
          ⟨(some 43), .loadR 42 3 1 false, none⟩,
          ⟨(some 44), .fldB 3 1, none⟩,
          ⟨(some 45), .loadR 44 3 1 false, none⟩,
          ⟨(some 46), .fldB 3 2, none⟩,
          ⟨(some 47), .loadR 46 3 1 false, none⟩,
          ⟨(some 48), .call 18 [(false, (.t 41)), (false, (.t 43)), (false, (.t 45)), (false, (.t 47))], none⟩,
          ⟨(some 40), .mov (.t 48), none⟩,
          ⟨(some 49), .ext (.t 40) 0, none⟩,
          ⟨(some 50), .ext (.t 40) 1, none⟩,
          ⟨(some 10), .mov (.t 49), none⟩,
          ⟨(some 11), .mov (.t 50), none⟩] [2, 3, 6, 7, 8, 9, 10, 11])
        (.seq
         (.reg false [⟨(some 52), .loadB 2 16 true, none⟩,
           ⟨(some 53), .fldB 3 0, none⟩,
           ⟨(some 54), .loadR 53 3 1 false, none⟩,
           ⟨(some 55), .fldB 3 1, none⟩,
           ⟨(some 56), .loadR 55 3 1 false, none⟩,
           ⟨(some 57), .fldB 3 2, none⟩,
           ⟨(some 58), .loadR 57 3 1 false, none⟩,
           ⟨(some 59), .call 19 [(false, (.t 52)), (false, (.t 54)), (false, (.t 56)), (false, (.t 58))], none⟩,
           ⟨(some 51), .mov (.t 59), none⟩,
           ⟨(some 60), .ext (.t 51) 0, none⟩,
           ⟨(some 61), .ext (.t 51) 1, none⟩,
           ⟨(some 12), .mov (.t 60), none⟩,
           ⟨(some 13), .mov (.t 61), none⟩] [6, 7, 8, 9, 10, 11, 12, 13])
         (.seq
          (.reg false [⟨(some 62), .mov (.t 6), none⟩,
            ⟨(some 63), .mov (.t 8), none⟩,
            ⟨(some 64), .bin .eql false (.t 62) (.t 63), none⟩,
            ⟨(some 65), .mov (.t 64), none⟩,
            ⟨(some 66), .mov (.t 7), (some (65, true))⟩,
            ⟨(some 67), .mov (.t 9), (some (65, true))⟩,
            ⟨(some 68), .bin .eql true (.t 66) (.t 67), (some (65, true))⟩,
            ⟨(some 69), .pick (.t 65) (.t 68) (.c (.bool false)), none⟩,
            ⟨(some 70), .mov (.t 69), none⟩,
            ⟨(some 71), .mov (.t 10), (some (70, true))⟩,
            ⟨(some 72), .mov (.t 12), (some (70, true))⟩,
            ⟨(some 73), .bin .eql false (.t 71) (.t 72), (some (70, true))⟩,
            ⟨(some 74), .pick (.t 70) (.t 73) (.c (.bool false)), none⟩,
            ⟨(some 75), .mov (.t 74), none⟩,
            ⟨(some 76), .mov (.t 11), (some (75, true))⟩,
            ⟨(some 77), .mov (.t 13), (some (75, true))⟩,
            ⟨(some 78), .bin .eql true (.t 76) (.t 77), (some (75, true))⟩,
            ⟨(some 79), .pick (.t 75) (.t 78) (.c (.bool false)), none⟩,
            ⟨(some 80), .mov (.t 79), none⟩,
            ⟨(some 81), .call 9 [], (some (80, true))⟩,
            ⟨(some 82), .pick (.t 80) (.t 81) (.c (.bool false)), none⟩,
            ⟨(some 4), .mov (.t 82), none⟩] [4])
          .ret))))))))
def rs4 : List RS := [.tmp 4]
/-- padlock/padlocklaw09.GcmBack -/
def rc5 : RC :=
  (.seq
   (.reg false [⟨(some 3), .box (.t 0), none⟩,
     ⟨(some 4), .box (.t 1), none⟩,
     ⟨(some 6), .mov (.c (.bool false)), none⟩] [2, 3, 4])
   (.seq
    (.seq
     (.reg false [⟨(some 15), .loadB 4 3 true, none⟩,
       ⟨(some 16), .call 8 [(false, (.t 15))], none⟩,
       ⟨(some 17), .mov (.t 16), none⟩,
       ⟨(some 18), .fldB 4 0, (some (17, false))⟩,
       ⟨(some 19), .loadR 18 4 1 false, (some (17, false))⟩,
       ⟨(some 20), .len true (.t 19), (some (17, false))⟩,
       ⟨(some 21), .bin .neq true (.t 20) (.c (.int .i64 12)), (some (17, false))⟩,
       ⟨(some 22), .pick (.t 17) (.c (.bool true)) (.t 21), none⟩,
       ⟨(some 23), .mov (.t 22), none⟩,
       ⟨(some 24), .mov (.t 2), (some (23, false))⟩,
       ⟨(some 25), .len true (.t 24), (some (23, false))⟩,
       ⟨(some 26), .bin .gtr true (.t 25) (.c (.int .i64 60)), (some (23, false))⟩,
       ⟨(some 27), .pick (.t 23) (.c (.bool true)) (.t 26), none⟩] [2, 3, 4, 27])
     (.cond 27
      (.seq
       (.reg false [⟨(some 28), .call 9 [], none⟩,
         ⟨(some 6), .mov (.t 28), none⟩] [6])
       .ret)
      (.reg false [] [2, 3, 4])))
    (.seq
     (.reg false [⟨(some 29), .loadB 3 16 true, none⟩,
       ⟨(some 7), .alloc (List.replicate 16 (.int .u8 0)), none⟩,
       ⟨none, .stB 7 16 (.t 29), none⟩] [2, 4, 7])
     (.seq
      (.reg false [⟨(some 31), .loadB 7 16 true, none⟩,
        ⟨(some 32), .fldB 4 0, none⟩,
        ⟨(some 33), .loadR 32 4 1 false, none⟩,
        ⟨(some 34), .fldB 4 1, none⟩,
        ⟨(some 35), .loadR 34 4 1 false, none⟩,
        ⟨(some 36), .fldB 4 2, none⟩,
        ⟨(some 37), .loadR 36 4 1 false, none⟩,
        ⟨(some 38), .call 16 [(false, (.t 31)), (false, (.t 33)), (false, (.t 35)), (false, (.t 37))], none⟩,
        ⟨(some 30), .mov (.t 38), none⟩,
        ⟨(some 39), .ext (.t 30) 0, none⟩,
        ⟨(some 40), .ext (.t 30) 1, none⟩,
        ⟨(some 8), .mov (.t 39), none⟩,
        ⟨(some 9), .mov (.t 40), none⟩] [2, 4, 7, 8, 9])
      (.seq
       (.reg false [⟨(some 42), .loadB 7 16 true, none⟩,
         ⟨(some 43), .fldB 4 0, none⟩,
         ⟨(some 44), .loadR 43 4 1 false, none⟩,
         ⟨(some 45), .fldB 4 1, none⟩,
         ⟨(some 46), .loadR 45 4 1 false, none⟩,
         ⟨(some 47), .mov (.t 8), none⟩,
         ⟨(some 48), .call 18 [(false, (.t 42)), (false, (.t 44)), (false, (.t 46)), (false, (.t 47))], none⟩,
         ⟨(some 41), .mov (.t 48), none⟩,
         ⟨(some 49), .ext (.t 41) 0, none⟩,
         ⟨(some 50), .ext (.t 41) 1, none⟩,
         ⟨(some 10), .mov (.t 49), none⟩,
         ⟨(some 11), .mov (.t 50), none⟩] [2, 4, 7, 8, 9, 10, 11])
       (.seq
        (.reg false [⟨(some 52), .loadB 7 16 true, none⟩,
          ⟨(some 53), .fldB 4 0, none⟩,
          ⟨(some 54), .loadR 53 4 1 false, none⟩,
          ⟨(some 55), .fldB 4 1, none⟩,
          ⟨(some 56), .loadR 55 4 1 false, none⟩,
          ⟨(some 57), .mov (.t 2), none⟩,
          ⟨(some 58), .call 16 [(false, (.t 52)), (false, (.t 54)), (false, (.t 56)), (false, (.t 57))], none⟩,
          ⟨(some 51), .mov (.t 58), none⟩,
          ⟨(some 59), .ext (.t 51) 0, none⟩,
          ⟨(some 60), .ext (.t 51) 1, none⟩,
          ⟨(some 12), .mov (.t 59), none⟩,
          ⟨(some 13), .mov (.t 60), none⟩] [2, 4, 8, 9, 10, 11, 12, 13])
        (.seq
         (.seq
          (.reg false [⟨(some 61), .mov (.t 9), none⟩,
            ⟨(some 62), .bin .neq true (.t 61) (.c (.int .i64 0)), none⟩,
            ⟨(some 63), .mov (.t 62), none⟩,
            ⟨(some 64), .mov (.t 11), (some (63, false))⟩,
            ⟨(some 65), .bin .neq true (.t 64) (.c (.int .i64 0)), (some (63, false))⟩,
            ⟨(some 66), .pick (.t 63) (.c (.bool true)) (.t 65), none⟩,
            ⟨(some 67), .mov (.t 66), none⟩,
            ⟨(some 68), .mov (.t 13), (some (67, false))⟩,
            ⟨(some 69), .bin .neq true (.t 68) (.c (.int .i64 0)), (some (67, false))⟩,
            ⟨(some 70), .pick (.t 67) (.c (.bool true)) (.t 69), none⟩,
            ⟨(some 71), .mov (.t 70), none⟩,
            ⟨(some 72), .mov (.t 10), (some (71, false))⟩,
            ⟨(some 73), .fldB 4 2, (some (71, false))⟩,
            ⟨(some 74), .loadR 73 4 1 false, (some (71, false))⟩,
            ⟨(some 75), .bin .neq false (.t 72) (.t 74), (some (71, false))⟩,
            ⟨(some 76), .pick (.t 71) (.c (.bool true)) (.t 75), none⟩,
            ⟨(some 77), .mov (.t 76), none⟩,
            ⟨(some 78), .mov (.t 8), (some (77, false))⟩,
            ⟨(some 79), .len true (.t 78), (some (77, false))⟩,
            ⟨(some 80), .fldB 4 2, (some (77, false))⟩,
            ⟨(some 81), .loadR 80 4 1 false, (some (77, false))⟩,
            ⟨(some 82), .len true (.t 81), (some (77, false))⟩,
            ⟨(some 83), .bin .add true (.t 82) (.c (.int .i64 16)), (some (77, false))⟩,
            ⟨(some 84), .bin .neq true (.t 79) (.t 83), (some (77, false))⟩,
            ⟨(some 85), .pick (.t 77) (.c (.bool true)) (.t 84), none⟩,
            ⟨(some 86), .mov (.t 85), none⟩,
            ⟨(some 87), .mov (.t 12), (some (86, false))⟩,
            ⟨(some 88), .len true (.t 87), (some (86, false))⟩,
            ⟨(some 89), .mov (.t 2), (some (86, false))⟩,
            ⟨(some 90), .len true (.t 89), (some (86, false))⟩,
            ⟨(some 91), .bin .add true (.t 90) (.c (.int .i64 16)), (some (86, false))⟩,
            ⟨(some 92), .bin .neq true (.t 88) (.t 91), (some (86, false))⟩,
            ⟨(some 93), .pick (.t 86) (.c (.bool true)) (.t 92), none⟩] [2, 4, 8, 12, 93])
          (.cond 93
           (.seq
            (.reg false [⟨(some 6), .mov (.c (.bool false)), none⟩] [6])
            .ret)
           (.reg false [] [2, 4, 8, 12])))
         (.seq
          (.seq
           (.reg false [⟨(some 14), .mov (.c (.int .i64 0)), none⟩] [2, 4, 8, 12, 14])
           (.block 0
            (.loop
             (.seq
              (.seq
               (.reg false [⟨(some 94), .mov (.t 14), none⟩,
                 ⟨(some 95), .mov (.t 2), none⟩,
                 ⟨(some 96), .len true (.t 95), none⟩,
                 ⟨(some 97), .bin .lss true (.t 94) (.t 96), none⟩,
                 ⟨(some 98), .mov (.t 97), none⟩,
                 ⟨(some 99), .mov (.t 14), (some (98, true))⟩,
                 ⟨(some 100), .fldB 4 2, (some (98, true))⟩,
                 ⟨(some 101), .loadR 100 4 1 false, (some (98, true))⟩,
                 ⟨(some 102), .len true (.t 101), (some (98, true))⟩,
                 ⟨(some 103), .bin .lss true (.t 99) (.t 102), (some (98, true))⟩,
                 ⟨(some 104), .pick (.t 98) (.t 103) (.c (.bool false)), none⟩] [2, 4, 8, 12, 14, 104])
               (.cond 104
                (.reg false [] [2, 4, 8, 12, 14])
                (.seq
                 (.reg false [] [])
                 (.exit 0))))
              (.seq
               (.block 1
                (.seq
                 (.reg true [⟨(some 107), .mov (.t 8), none⟩,
                   ⟨(some 108), .mov (.t 14), none⟩,
                   ⟨(some 109), .sidx (.t 107) (.t 108), none⟩,
                   ⟨(some 110), .mov (.t 12), none⟩,
                   ⟨(some 111), .mov (.t 14), none⟩,
                   ⟨(some 112), .sidx (.t 110) (.t 111), none⟩,
                   ⟨(some 113), .bin .xor false (.t 109) (.t 112), none⟩,
                   ⟨(some 114), .mov (.t 2), none⟩,
                   ⟨(some 115), .mov (.t 14), none⟩,
                   ⟨(some 116), .sidx (.t 114) (.t 115), none⟩,
                   ⟨(some 117), .fldB 4 2, none⟩,
                   ⟨(some 118), .loadR 117 4 1 false, none⟩,
                   ⟨(some 119), .mov (.t 14), none⟩,
                   ⟨(some 120), .sidx (.t 118) (.t 119), none⟩,
                   ⟨(some 121), .bin .xor false (.t 116) (.t 120), none⟩,
                   ⟨(some 122), .bin .neq false (.t 113) (.t 121), none⟩] [2, 4, 8, 12, 14, 122])
                 (.cond 122
                  (.seq
                   (.reg false [⟨(some 6), .mov (.c (.bool false)), none⟩] [6])
                   .ret)
                  (.reg false [] [2, 4, 8, 12, 14]))))
               (.reg false [⟨(some 105), .mov (.t 14), none⟩,
                 ⟨(some 106), .bin .add true (.t 105) (.c (.int .i64 1)), none⟩,
                 ⟨(some 14), .mov (.t 106), none⟩] [2, 4, 8, 12, 14]))))))
          (.seq
           (.reg false [⟨(some 123), .call 9 [], none⟩,
             ⟨(some 6), .mov (.t 123), none⟩] [6])
           .ret)))))))))
def rs5 : List RS := [.tmp 6]
/-- padlock/padlocklaw09.GcmTells -/
def rc6 : RC :=
  (.seq
   (.reg false [⟨(some 3), .box (.t 0), none⟩,
     ⟨(some 4), .box (.t 1), none⟩,
     ⟨(some 5), .box (.t 2), none⟩,
     ⟨(some 6), .mov (.c (.bool false)), none⟩] [3, 4, 5])
   (.seq
    (.reg false [⟨(some 13), .loadB 3 16 true, none⟩,
      ⟨(some 7), .alloc (List.replicate 16 (.int .u8 0)), none⟩,
      ⟨none, .stB 7 16 (.t 13), none⟩] [4, 5, 7])
    (.seq
     (.seq
      (.reg false [⟨(some 14), .loadB 4 3 true, none⟩,
        ⟨(some 15), .call 8 [(false, (.t 14))], none⟩,
        ⟨(some 16), .mov (.t 15), none⟩,
        ⟨(some 17), .fldB 4 0, (some (16, false))⟩,
        ⟨(some 18), .loadR 17 4 1 false, (some (16, false))⟩,
        ⟨(some 19), .len true (.t 18), (some (16, false))⟩,
        ⟨(some 20), .bin .neq true (.t 19) (.c (.int .i64 12)), (some (16, false))⟩,
        ⟨(some 21), .pick (.t 16) (.c (.bool true)) (.t 20), none⟩,
        ⟨(some 22), .mov (.t 21), none⟩,
        ⟨(some 23), .loadB 7 16 true, (some (22, false))⟩,
        ⟨(some 24), .call 14 [(false, (.t 23))], (some (22, false))⟩,
        ⟨(some 25), .build (List.replicate 16 (.int .u8 0)) [], (some (22, false))⟩,
        ⟨(some 26), .beq false (some (List.replicate 16 .i)) (.t 24) (.t 25), (some (22, false))⟩,
        ⟨(some 27), .pick (.t 22) (.c (.bool true)) (.t 26), none⟩] [4, 5, 7, 27])
      (.cond 27
       (.seq
        (.reg false [⟨(some 28), .call 9 [], none⟩,
          ⟨(some 6), .mov (.t 28), none⟩] [6])
        .ret)
       (.reg false [] [4, 5, 7])))
     (.seq
      (.reg false [⟨(some 30), .loadB 7 16 true, none⟩,
        ⟨(some 31), .fldB 4 0, none⟩,
        ⟨(some 32), .loadR 31 4 1 false, none⟩,
        ⟨(some 33), .fldB 4 1, none⟩,
        ⟨(some 34), .loadR 33 4 1 false, none⟩,
        ⟨(some 35), .fldB 4 2, none⟩,
        ⟨(some 36), .loadR 35 4 1 false, none⟩,
        ⟨(some 37), .call 16 [(false, (.t 30)), (false, (.t 32)), (false, (.t 34)), (false, (.t 36))], none⟩,
        ⟨(some 29), .mov (.t 37), none⟩,
        ⟨(some 38), .ext (.t 29) 0, none⟩,
        ⟨(some 39), .ext (.t 29) 1, none⟩,
        ⟨(some 8), .mov (.t 38), none⟩,
        ⟨(some 9), .mov (.t 39), none⟩] [4, 5, 7, 8, 9])
      (.seq
       (.seq
        (.reg false [⟨(some 40), .mov (.t 9), none⟩,
          ⟨(some 41), .bin .neq true (.t 40) (.c (.int .i64 0)), none⟩,
          ⟨(some 42), .mov (.t 41), none⟩,
          ⟨(some 43), .mov (.t 8), (some (42, false))⟩,
          ⟨(some 44), .len true (.t 43), (some (42, false))⟩,
          ⟨(some 45), .fldB 4 2, (some (42, false))⟩,
          ⟨(some 46), .loadR 45 4 1 false, (some (42, false))⟩,
          ⟨(some 47), .len true (.t 46), (some (42, false))⟩,
          ⟨(some 48), .bin .add true (.t 47) (.c (.int .i64 16)), (some (42, false))⟩,
          ⟨(some 49), .bin .neq true (.t 44) (.t 48), (some (42, false))⟩,
          ⟨(some 50), .pick (.t 42) (.c (.bool true)) (.t 49), none⟩] [4, 5, 7, 8, 50])
        (.cond 50
         (.seq
          (.reg false [⟨(some 6), .mov (.c (.bool false)), none⟩] [6])
          .ret)
         (.reg false [] [4, 5, 7, 8])))
       (.seq
        (.reg false [⟨(some 51), .fldB 4 1, none⟩,
          ⟨(some 52), .loadR 51 4 1 false, none⟩,
          ⟨(some 53), .mov (.t 8), none⟩,
          ⟨(some 54), .bin .add false (.t 52) (.t 53), none⟩,
          ⟨(some 55), .s2bM (.t 54), none⟩,
          ⟨(some 10), .stealM 55, none⟩] [4, 5, 7, 10])
        (.seq
         (.reg true [⟨(some 56), .al 10, none⟩,
           ⟨(some 57), .idxB 5 1 2 (.c (.int .i64 0)), none⟩,
           ⟨(some 58), .loadR 57 5 1 false, none⟩,
           ⟨(some 59), .conv true .i64 (.t 58), none⟩,
           ⟨(some 60), .al 10, none⟩,
           ⟨(some 61), .lenM 60 10, none⟩,
           ⟨(some 62), .bin .rem true (.t 59) (.t 61), none⟩,
           ⟨(some 63), .idxM 56 10 1 (.t 62), none⟩,
           ⟨(some 64), .loadR 63 10 1 false, none⟩,
           ⟨(some 65), .idxB 5 1 2 (.c (.int .i64 1)), none⟩,
           ⟨(some 66), .loadR 65 5 1 false, none⟩,
           ⟨(some 67), .bin .rem false (.t 66) (.c (.int .u8 255)), none⟩,
           ⟨(some 68), .bin .add false (.c (.int .u8 1)) (.t 67), none⟩,
           ⟨(some 69), .bin .xor false (.t 64) (.t 68), none⟩,
           ⟨(some 70), .idxM 56 10 1 (.t 62), none⟩,
           ⟨none, .stR 70 10 1 (.t 69), none⟩] [4, 7, 10])
         (.seq
          (.reg true [⟨(some 72), .loadB 7 16 true, none⟩,
            ⟨(some 73), .fldB 4 0, none⟩,
            ⟨(some 74), .loadR 73 4 1 false, none⟩,
            ⟨(some 75), .al 10, none⟩,
            ⟨(some 76), .fldB 4 1, none⟩,
            ⟨(some 77), .loadR 76 4 1 false, none⟩,
            ⟨(some 78), .len true (.t 77), none⟩,
            ⟨(some 79), .winX 75 10 1 none (some (.t 78)), none⟩,
            ⟨(some 80), .b2sM 79 10, none⟩,
            ⟨(some 81), .al 10, none⟩,
            ⟨(some 82), .fldB 4 1, none⟩,
            ⟨(some 83), .loadR 82 4 1 false, none⟩,
            ⟨(some 84), .len true (.t 83), none⟩,
            ⟨(some 85), .winX 81 10 1 (some (.t 84)) none, none⟩,
            ⟨(some 86), .b2sM 85 10, none⟩,
            ⟨(some 87), .call 18 [(false, (.t 72)), (false, (.t 74)), (false, (.t 80)), (false, (.t 86))], none⟩,
            ⟨(some 71), .mov (.t 87), none⟩,
            ⟨(some 88), .ext (.t 71) 0, none⟩,
            ⟨(some 89), .ext (.t 71) 1, none⟩,
            ⟨(some 11), .mov (.t 88), none⟩,
            ⟨(some 12), .mov (.t 89), none⟩] [11, 12])
          (.seq
           (.reg false [⟨(some 90), .mov (.t 11), none⟩,
             ⟨(some 91), .bin .eql false (.t 90) (.c (.str [])), none⟩,
             ⟨(some 92), .mov (.t 91), none⟩,
             ⟨(some 93), .mov (.t 12), (some (92, true))⟩,
             ⟨(some 94), .bin .eql true (.t 93) (.c (.int .i64 11)), (some (92, true))⟩,
             ⟨(some 95), .pick (.t 92) (.t 94) (.c (.bool false)), none⟩,
             ⟨(some 96), .mov (.t 95), none⟩,
             ⟨(some 97), .call 9 [], (some (96, true))⟩,
             ⟨(some 98), .pick (.t 96) (.t 97) (.c (.bool false)), none⟩,
             ⟨(some 6), .mov (.t 98), none⟩] [6])
           .ret)))))))))
def rs6 : List RS := [.tmp 6]
/-- padlock/padlocklaw09.GcmParts -/
def rc7 : RC :=
  (.seq
   (.reg false [⟨(some 3), .box (.t 0), none⟩,
     ⟨(some 4), .box (.t 1), none⟩,
     ⟨(some 6), .mov (.c (.bool false)), none⟩] [2, 3, 4])
   (.seq
    (.seq
     (.reg false [⟨(some 17), .loadB 4 3 true, none⟩,
       ⟨(some 18), .call 8 [(false, (.t 17))], none⟩,
       ⟨(some 19), .mov (.t 18), none⟩,
       ⟨(some 20), .fldB 4 0, (some (19, false))⟩,
       ⟨(some 21), .loadR 20 4 1 false, (some (19, false))⟩,
       ⟨(some 22), .len true (.t 21), (some (19, false))⟩,
       ⟨(some 23), .bin .neq true (.t 22) (.c (.int .i64 12)), (some (19, false))⟩,
       ⟨(some 24), .pick (.t 19) (.c (.bool true)) (.t 23), none⟩] [2, 3, 4, 24])
     (.cond 24
      (.seq
       (.reg false [⟨(some 25), .call 9 [], none⟩,
         ⟨(some 6), .mov (.t 25), none⟩] [6])
       .ret)
      (.reg false [] [2, 3, 4])))
    (.seq
     (.reg false [⟨(some 26), .loadB 3 16 true, none⟩,
       ⟨(some 7), .alloc (List.replicate 16 (.int .u8 0)), none⟩,
       ⟨none, .stB 7 16 (.t 26), none⟩] [2, 4, 7])
     (.seq
      (.reg false [⟨(some 28), .loadB 7 16 true, none⟩,
        ⟨(some 29), .fldB 4 0, none⟩,
        ⟨(some 30), .loadR 29 4 1 false, none⟩,
        ⟨(some 31), .mov (.t 2), none⟩,
        ⟨(some 32), .fldB 4 2, none⟩,
        ⟨(some 33), .loadR 32 4 1 false, none⟩,
        ⟨(some 34), .call 10 [(false, (.t 28)), (false, (.t 30)), (false, (.t 31)), (false, (.t 33))], none⟩,
        ⟨(some 27), .mov (.t 34), none⟩,
        ⟨(some 35), .ext (.t 27) 0, none⟩,
        ⟨(some 36), .ext (.t 27) 1, none⟩,
        ⟨(some 8), .mov (.t 35), none⟩,
        ⟨(some 9), .mov (.t 36), none⟩] [2, 4, 7, 8, 9])
      (.seq
       (.reg false [⟨(some 38), .loadB 7 16 true, none⟩,
         ⟨(some 39), .fldB 4 0, none⟩,
         ⟨(some 40), .loadR 39 4 1 false, none⟩,
         ⟨(some 41), .mov (.t 2), none⟩,
         ⟨(some 42), .mov (.t 8), none⟩,
         ⟨(some 43), .call 10 [(false, (.t 38)), (false, (.t 40)), (false, (.t 41)), (false, (.t 42))], none⟩,
         ⟨(some 37), .mov (.t 43), none⟩,
         ⟨(some 44), .ext (.t 37) 0, none⟩,
         ⟨(some 45), .ext (.t 37) 1, none⟩,
         ⟨(some 10), .mov (.t 44), none⟩,
         ⟨(some 11), .mov (.t 45), none⟩] [2, 4, 7, 8, 9, 10, 11])
       (.seq
        (.seq
         (.reg false [⟨(some 46), .mov (.t 9), none⟩,
           ⟨(some 47), .bin .neq true (.t 46) (.c (.int .i64 0)), none⟩,
           ⟨(some 48), .mov (.t 47), none⟩,
           ⟨(some 49), .mov (.t 11), (some (48, false))⟩,
           ⟨(some 50), .bin .neq true (.t 49) (.c (.int .i64 0)), (some (48, false))⟩,
           ⟨(some 51), .pick (.t 48) (.c (.bool true)) (.t 50), none⟩,
           ⟨(some 52), .mov (.t 51), none⟩,
           ⟨(some 53), .mov (.t 10), (some (52, false))⟩,
           ⟨(some 54), .fldB 4 2, (some (52, false))⟩,
           ⟨(some 55), .loadR 54 4 1 false, (some (52, false))⟩,
           ⟨(some 56), .bin .neq false (.t 53) (.t 55), (some (52, false))⟩,
           ⟨(some 57), .pick (.t 52) (.c (.bool true)) (.t 56), none⟩,
           ⟨(some 58), .mov (.t 57), none⟩,
           ⟨(some 59), .mov (.t 8), (some (58, false))⟩,
           ⟨(some 60), .len true (.t 59), (some (58, false))⟩,
           ⟨(some 61), .fldB 4 2, (some (58, false))⟩,
           ⟨(some 62), .loadR 61 4 1 false, (some (58, false))⟩,
           ⟨(some 63), .len true (.t 62), (some (58, false))⟩,
           ⟨(some 64), .bin .neq true (.t 60) (.t 63), (some (58, false))⟩,
           ⟨(some 65), .pick (.t 58) (.c (.bool true)) (.t 64), none⟩] [2, 4, 7, 8, 65])
         (.cond 65
          (.seq
           (.reg false [⟨(some 6), .mov (.c (.bool false)), none⟩] [6])
           .ret)
          (.reg false [] [2, 4, 7, 8])))
        (.seq
         (.reg false [⟨(some 66), .fldB 4 2, none⟩,
           ⟨(some 67), .loadR 66 4 1 false, none⟩,
           ⟨(some 68), .len true (.t 67), none⟩,
           ⟨(some 69), .bin .quo true (.t 68) (.c (.int .i64 32)), none⟩,
           ⟨(some 12), .mov (.t 69), none⟩] [2, 4, 7, 8, 12])
         (.seq
          (.reg true [⟨(some 71), .loadB 7 16 true, none⟩,
            ⟨(some 72), .fldB 4 0, none⟩,
            ⟨(some 73), .loadR 72 4 1 false, none⟩,
            ⟨(some 74), .mov (.t 2), none⟩,
            ⟨(some 75), .fldB 4 2, none⟩,
            ⟨(some 76), .loadR 75 4 1 false, none⟩,
            ⟨(some 77), .mov (.t 12), none⟩,
            ⟨(some 78), .bin .mul true (.c (.int .i64 16)) (.t 77), none⟩,
            ⟨(some 79), .ssl (.t 76) none (some (.t 78)), none⟩,
            ⟨(some 80), .call 10 [(false, (.t 71)), (false, (.t 73)), (false, (.t 74)), (false, (.t 79))], none⟩,
            ⟨(some 70), .mov (.t 80), none⟩,
            ⟨(some 81), .ext (.t 70) 0, none⟩,
            ⟨(some 82), .ext (.t 70) 1, none⟩,
            ⟨(some 13), .mov (.t 81), none⟩,
            ⟨(some 14), .mov (.t 82), none⟩] [2, 4, 7, 8, 12, 13])
          (.seq
           (.reg true [⟨(some 84), .loadB 7 16 true, none⟩,
             ⟨(some 85), .fldB 4 0, none⟩,
             ⟨(some 86), .loadR 85 4 1 false, none⟩,
             ⟨(some 87), .mov (.t 2), none⟩,
             ⟨(some 88), .mov (.t 12), none⟩,
             ⟨(some 89), .conv false .u32 (.t 88), none⟩,
             ⟨(some 90), .bin .add false (.t 87) (.t 89), none⟩,
             ⟨(some 91), .fldB 4 2, none⟩,
             ⟨(some 92), .loadR 91 4 1 false, none⟩,
             ⟨(some 93), .mov (.t 12), none⟩,
             ⟨(some 94), .bin .mul true (.c (.int .i64 16)) (.t 93), none⟩,
             ⟨(some 95), .ssl (.t 92) (some (.t 94)) none, none⟩,
             ⟨(some 96), .call 10 [(false, (.t 84)), (false, (.t 86)), (false, (.t 90)), (false, (.t 95))], none⟩,
             ⟨(some 83), .mov (.t 96), none⟩,
             ⟨(some 97), .ext (.t 83) 0, none⟩,
             ⟨(some 98), .ext (.t 83) 1, none⟩,
             ⟨(some 15), .mov (.t 97), none⟩,
             ⟨(some 16), .mov (.t 98), none⟩] [8, 13, 15])
           (.seq
            (.reg false [⟨(some 99), .mov (.t 13), none⟩,
              ⟨(some 100), .mov (.t 15), none⟩,
              ⟨(some 101), .bin .add false (.t 99) (.t 100), none⟩,
              ⟨(some 102), .mov (.t 8), none⟩,
              ⟨(some 103), .bin .eql false (.t 101) (.t 102), none⟩,
              ⟨(some 104), .mov (.t 103), none⟩,
              ⟨(some 105), .call 9 [], (some (104, true))⟩,
              ⟨(some 106), .pick (.t 104) (.t 105) (.c (.bool false)), none⟩,
              ⟨(some 6), .mov (.t 106), none⟩] [6])
            .ret))))))))))
def rs7 : List RS := [.tmp 6]
def ovr (iv ad t : List UInt8) : Bool := decide (20 < iv.length) || (decide (60 < ad.length) || decide (60 < t.length))
theorem ovr_not {iv ad t : List UInt8} (h : ¬ ovr iv ad t = true) : iv.length ≤ 20 ∧ ad.length ≤ 60 ∧ t.length ≤ 60 := by
  simp [ovr] at h; omega
theorem pf8 (iv : List UInt8) (ad : List UInt8) (t : List UInt8)  : PFx Try.prog 8 [.agg [.str iv, .str ad, .str t]] (.bool (ovr iv ad t)) := by
  refine PFx_of_W (rc := rc8) (rs := rs8) Try.func8 rfl T18_ok hm (by kernel_rfl) (by kernel_rfl) (by simp [Try.ntmps8]) ?_
  by_cases h1 : 20 < iv.length
  · have h1' : (20 : Int) < (iv.length : Int) := by omega
    simp [rc8, rs8, h1, h1', ovr]
  · have h1' : ¬ (20 : Int) < (iv.length : Int) := by omega
    by_cases h2 : 60 < ad.length
    · have h2' : (60 : Int) < (ad.length : Int) := by omega
      simp [rc8, rs8, h1, h1', h2, h2', ovr]
    · have h2' : ¬ (60 : Int) < (ad.length : Int) := by omega
      by_cases h3 : 60 < t.length
      · have h3' : (60 : Int) < (t.length : Int) := by omega
        simp [rc8, rs8, h1, h1', h2, h2', h3, h3', ovr]
      · have h3' : ¬ (60 : Int) < (t.length : Int) := by omega
        simp [rc8, rs8, h1, h1', h2, h2', h3, h3', ovr]
noncomputable def T8 : Tab := tabAdd T18 8 (fun _ : (List UInt8) × (List UInt8) × (List UInt8) => True) (fun z => [.agg [.str z.1, .str z.2.1, .str z.2.2]]) (fun z => .bool (ovr z.1 z.2.1 z.2.2))
@[simp] theorem T8_eq (iv : List UInt8) (ad : List UInt8) (t : List UInt8)  : T8 8 [.agg [.str iv, .str ad, .str t]] = some (.bool (ovr iv ad t)) := tabAdd_eq (a := (iv, ad, t)) (by simp +contextual [Int.natCast_inj]) trivial rfl
@[simp] theorem T8_ne {g : Nat} {xs : List AV} (h : g ≠ 8) : T8 g xs = T18 g xs := tabAdd_ne h
theorem T8_ok : Sound Try.prog T8 := tabAdd_sound T18_ok fun z _ => pf8 z.1 z.2.1 z.2.2 
theorem pf9   : PFx Try.prog 9 [] (.bool true) := by
  refine PFx_of_W (rc := rc9) (rs := rs9) Try.func9 rfl T8_ok hm (by kernel_rfl) (by kernel_rfl) (by simp [Try.ntmps9]) ?_
  have hi : iv0.length = 12 := rfl
  obtain ⟨S, hS⟩ : ∃ S, S = sld zk iv0 [] [] := ⟨_, rfl⟩
  have sl : S.length = 16 := by rw [hS, sld_len]; rfl
  have c1 : T16 16 [.agg (vec8 16 fun _ => 0#8), .str [0, 0, 0, 0, 0, 0, 0, 0, 0, 0, 0, 0], .str [], .str []] = some (.tup [.str S, .int .i64 0]) := (T16_eq zk iv0 [] [] (by decide)).trans (by rw [if_pos hi, if_pos hi, hS])
  have c2 : T18 18 [.agg (vec8 16 fun _ => 0#8), .str [0, 0, 0, 0, 0, 0, 0, 0, 0, 0, 0, 0], .str [], .str S] = some (.tup [.str [], .int .i64 0]) := (T18_eq zk iv0 [] S (by rw [sl]; decide)).trans (by rw [hS, opT_sld _ _ _ _ hi, opE_sld _ _ _ _ hi])
  have c3 : T18 18 [.agg (vec8 16 fun _ => 0#8), .str [0, 0, 0, 0, 0, 0, 0, 0, 0, 0, 0, 0], .str [120], .str S] = some (.tup [.str (opT zk iv0 [120] S), .int .i64 11]) := (T18_eq zk iv0 [120] S (by rw [sl]; decide)).trans (by rw [hS, zs_x])
  have c4 : T16 16 [.agg (vec8 16 fun _ => 0#8), .str [115, 104, 111, 114, 116], .str [], .str []] = some (.tup [.str [], .int .i64 2]) := (T16_eq zk [115, 104, 111, 114, 116] [] [] (by decide)).trans rfl
  have c5 : T18 18 [.agg (vec8 16 fun _ => 0#8), .str [0, 0, 0, 0, 0, 0, 0, 0, 0, 0, 0, 0], .str [], .str [115, 104, 111, 114, 116]] = some (.tup [.str [], .int .i64 3]) := (T18_eq zk iv0 [] [115, 104, 111, 114, 116] (by decide)).trans rfl
  have c6 : T14 14 [.agg (vec8 16 fun _ => 0#8)] = some (.agg (vec8 16 (Gh.blk (hsh zk)))) := T14_eq zk
  have s0 : ((S.getD 0 0).toNat : Int) = 88 := by rw [bv_byte, hS, zs_0]; rfl
  have s0' : ((S[0]'(by omega)).toNat : Int) = 88 := by
    rw [← s0]; simp [sl]
  have h0 : bv (Gh.blk (hsh zk) 0) = 102 := by rw [hsh_z0]; rfl
  simp [rc9, rs9, vec8_zero, c1, c2, c3, c4, c5, c6, sl, s0', h0, -List.reduceReplicate]
noncomputable def T9 : Tab := tabAdd T8 9 (fun _ : Unit => True) (fun _ => []) (fun _ => .bool true)
@[simp] theorem T9_eq   : T9 9 [] = some (.bool true) := tabAdd_eq (a := ()) (by simp +contextual [Int.natCast_inj]) trivial rfl
@[simp] theorem T9_ne {g : Nat} {xs : List AV} (h : g ≠ 9) : T9 g xs = T8 g xs := tabAdd_ne h
theorem T9_ok : Sound Try.prog T9 := tabAdd_sound T8_ok fun _ _ => pf9  
theorem pf3 (f : Bl) (iv : List UInt8) (ad : List UInt8) (t : List UInt8) (n : BitVec 32)  : PFx Try.prog 3 [.agg (vec8 16 f), .agg [.str iv, .str ad, .str t], .int .u32 (bv n)] (.bool true) := by
  refine PFx_of_W (rc := rc3) (rs := rs3) Try.func3 rfl T9_ok hm (by kernel_rfl) (by kernel_rfl) (by simp [Try.ntmps3]) ?_
  by_cases ho : ovr iv ad t = true
  · simp [rc3, rs3, ho, -List.reduceReplicate]
  · obtain ⟨h1, h2, h3⟩ := ovr_not ho
    simp [rc3, rs3, ho, show iv.length ≤ 100000 by omega, show ad.length ≤ 100000 by omega, show t.length ≤ 100000 by omega, show iv.length ≤ 1000000 by omega, show t.length ≤ 1000000 by omega, -List.reduceReplicate]
noncomputable def T3 : Tab := tabAdd T9 3 (fun _ : Bl × (List UInt8) × (List UInt8) × (List UInt8) × (BitVec 32) => True) (fun z => [.agg (vec8 16 z.1), .agg [.str z.2.1, .str z.2.2.1, .str z.2.2.2.1], .int .u32 (bv z.2.2.2.2)]) (fun _ => .bool true)
@[simp] theorem T3_eq (f : Bl) (iv : List UInt8) (ad : List UInt8) (t : List UInt8) (n : BitVec 32)  : T3 3 [.agg (vec8 16 f), .agg [.str iv, .str ad, .str t], .int .u32 (bv n)] = some (.bool true) := tabAdd_eq (a := (f, iv, ad, t, n)) (by simp +contextual [Int.natCast_inj]) trivial rfl
@[simp] theorem T3_ne {g : Nat} {xs : List AV} (h : g ≠ 3) : T3 g xs = T9 g xs := tabAdd_ne h
theorem T3_ok : Sound Try.prog T3 := tabAdd_sound T9_ok fun z _ => pf3 z.1 z.2.1 z.2.2.1 z.2.2.2.1 z.2.2.2.2 
theorem pf4 (f : Bl) (iv : List UInt8) (ad : List UInt8) (t : List UInt8)  : PFx Try.prog 4 [.agg (vec8 16 f), .agg [.str iv, .str ad, .str t]] (.bool true) := by
  refine PFx_of_W (rc := rc4) (rs := rs4) Try.func4 rfl T3_ok hm (by kernel_rfl) (by kernel_rfl) (by simp [Try.ntmps4]) ?_
  by_cases ho : ovr iv ad t = true
  · simp [rc4, rs4, ho, -List.reduceReplicate]
  · obtain ⟨h1, h2, h3⟩ := ovr_not ho
    simp [rc4, rs4, ho, show iv.length ≤ 100000 by omega, show ad.length ≤ 100000 by omega, show t.length ≤ 100000 by omega, show iv.length ≤ 1000000 by omega, show t.length ≤ 1000000 by omega, -List.reduceReplicate]
noncomputable def T4 : Tab := tabAdd T3 4 (fun _ : Bl × (List UInt8) × (List UInt8) × (List UInt8) => True) (fun z => [.agg (vec8 16 z.1), .agg [.str z.2.1, .str z.2.2.1, .str z.2.2.2]]) (fun _ => .bool true)
@[simp] theorem T4_eq (f : Bl) (iv : List UInt8) (ad : List UInt8) (t : List UInt8)  : T4 4 [.agg (vec8 16 f), .agg [.str iv, .str ad, .str t]] = some (.bool true) := tabAdd_eq (a := (f, iv, ad, t)) (by simp +contextual [Int.natCast_inj]) trivial rfl
@[simp] theorem T4_ne {g : Nat} {xs : List AV} (h : g ≠ 4) : T4 g xs = T3 g xs := tabAdd_ne h
theorem T4_ok : Sound Try.prog T4 := tabAdd_sound T3_ok fun z _ => pf4 z.1 z.2.1 z.2.2.1 z.2.2.2 
theorem tx_at (l : List UInt8) (i : Nat) (h : i < l.length) : (((l[i]'h).toNat : Nat) : Int) = bv (tx l i) := by
  unfold Gh.tx
  rw [List.getD_eq_getElem?_getD, List.getElem?_eq_getElem h, bv_byte]; rfl
theorem tx_sld (f : Bl) (iv ad t : List UInt8) (i : Nat) (h : i < t.length) : tx (sld f iv ad t) i = tx t i ^^^ pd f iv 2#32 i := by
  unfold sld
  rw [tx_app_l _ _ _ (by rw [strm_len]; exact h), strm_at _ _ _ _ i h]
theorem xor4 (a b p : BitVec 8) : a ^^^ p ^^^ (b ^^^ p) = b ^^^ a := by
  rw [BitVec.xor_comm b p, ← BitVec.xor_assoc, BitVec.xor_assoc a p p, BitVec.xor_self, BitVec.xor_zero, BitVec.xor_comm]
theorem pf5 (f : Bl) (iv : List UInt8) (ad : List UInt8) (t : List UInt8) (o : List UInt8)  : PFx Try.prog 5 [.agg (vec8 16 f), .agg [.str iv, .str ad, .str t], .str o] (.bool true) := by
  refine PFx_of_W (rc := rc5) (rs := rs5) Try.func5 rfl T4_ok hm (by kernel_rfl) (by kernel_rfl) (by simp [Try.ntmps5]) ?_
  by_cases ho : ovr iv ad t = true
  · simp [rc5, rs5, ho, -List.reduceReplicate]
  · obtain ⟨h1, h2, h3⟩ := ovr_not ho
    by_cases hv : iv.length = 12
    · have hv' : (iv.length : Int) = 12 := by omega
      by_cases hl : 60 < o.length
      · have hl' : (60 : Int) < (o.length : Int) := by omega
        simp [rc5, rs5, ho, hv, hv', hl, hl', -List.reduceReplicate]
      · have hl' : ¬ (60 : Int) < (o.length : Int) := by omega
        obtain ⟨s, hs⟩ : ∃ s, s = sld f iv ad t := ⟨_, rfl⟩
        obtain ⟨u, hu⟩ : ∃ u, u = sld f iv ad o := ⟨_, rfl⟩
        have sl : s.length = t.length + 16 := by rw [hs, sld_len]
        have ul : u.length = o.length + 16 := by rw [hu, sld_len]
        have c1 : T16 16 [.agg (vec8 16 f), .str iv, .str ad, .str t] = some (.tup [.str s, .int .i64 0]) := (T16_eq f iv ad t (by omega)).trans (by rw [if_pos hv, if_pos hv, hs])
        have c2 : T16 16 [.agg (vec8 16 f), .str iv, .str ad, .str o] = some (.tup [.str u, .int .i64 0]) := (T16_eq f iv ad o (by omega)).trans (by rw [if_pos hv, if_pos hv, hu])
        have c3 : T18 18 [.agg (vec8 16 f), .str iv, .str ad, .str s] = some (.tup [.str t, .int .i64 0]) := (T18_eq f iv ad s (by omega)).trans (by rw [hs, opT_sld _ _ _ _ hv, opE_sld _ _ _ _ hv])
        have a1 : (t.length : Int) + 16 = ((t.length + 16 : Nat) : Int) := by omega
        have a2 : (o.length : Int) + 16 = ((o.length + 16 : Nat) : Int) := by omega
        simp [rc5, rs5, ho, hv, hv', hl, hl', c1, c2, c3, sl, ul, a1, a2, vec8_zero, -Int.natCast_add]
        refine ⟨by omega, by omega, ?_⟩
        refine W_forU (min o.length t.length) (fun _ => True) (fun k => [(14, .int .i64 k)]) trivial (by simp) (fun k hk _ => ?_) fun _ => ?_
        · have k1 : k < o.length := by omega
          have k2 : k < t.length := by omega
          have k3 : k < s.length := by omega
          have k4 : k < u.length := by omega
          have e : bits .xor .u8 (((s[k]'k3).toNat : Nat) : Int) (((u[k]'k4).toNat : Nat) : Int) = bits .xor .u8 (((o[k]'k1).toNat : Nat) : Int) (((t[k]'k2).toNat : Nat) : Int) := by
            rw [tx_at, tx_at, tx_at, tx_at, bv_xor8, bv_xor8, hs, hu, tx_sld _ _ _ _ _ k2, tx_sld _ _ _ _ _ k1, xor4]
          simp [k1, k2, k3, k4, e]
          omega
        · by_cases c1 : min o.length t.length < o.length
          · have c2 : ¬ min o.length t.length < t.length := by omega
            simp [c1, c2]
          · simp [c1]
    · have hv' : ¬ (iv.length : Int) = 12 := by omega
      simp [rc5, rs5, ho, hv, hv', -List.reduceReplicate]
noncomputable def T5 : Tab := tabAdd T4 5 (fun _ : Bl × (List UInt8) × (List UInt8) × (List UInt8) × (List UInt8) => True) (fun z => [.agg (vec8 16 z.1), .agg [.str z.2.1, .str z.2.2.1, .str z.2.2.2.1], .str z.2.2.2.2]) (fun _ => .bool true)
@[simp] theorem T5_eq (f : Bl) (iv : List UInt8) (ad : List UInt8) (t : List UInt8) (o : List UInt8)  : T5 5 [.agg (vec8 16 f), .agg [.str iv, .str ad, .str t], .str o] = some (.bool true) := tabAdd_eq (a := (f, iv, ad, t, o)) (by simp +contextual [Int.natCast_inj]) trivial rfl
@[simp] theorem T5_ne {g : Nat} {xs : List AV} (h : g ≠ 5) : T5 g xs = T4 g xs := tabAdd_ne h
theorem T5_ok : Sound Try.prog T5 := tabAdd_sound T4_ok fun z _ => pf5 z.1 z.2.1 z.2.2.1 z.2.2.2.1 z.2.2.2.2 
theorem pf6 (f : Bl) (iv : List UInt8) (ad : List UInt8) (t : List UInt8) (m : BitVec 8) (n : BitVec 8)  : PFx Try.prog 6 [.agg (vec8 16 f), .agg [.str iv, .str ad, .str t], .agg [.int .u8 (bv m), .int .u8 (bv n)]] (.bool true) := by
  refine PFx_of_W (rc := rc6) (rs := rs6) Try.func6 rfl T5_ok hm (by kernel_rfl) (by kernel_rfl) (by simp [Try.ntmps6]) ?_
  have z : vec8 16 (fun _ => 0#8) = vec8 16 (Gh.blk 0#128) := vec8_ext fun i _ => (Gh.blk_zero i).symm
  have ba : ∀ a b : Gh.W, (∀ i, i < 16 → Gh.blk a i = Gh.blk b i) ↔ a = b := Gh.blk_inj
  by_cases ho : ovr iv ad t = true
  · simp [rc6, rs6, ho, -List.reduceReplicate]
  · obtain ⟨h1, h2, h3⟩ := ovr_not ho
    by_cases hv : iv.length = 12
    · have hv' : (iv.length : Int) = 12 := by omega
      by_cases hg : hsh f = 0#128
      · simp [rc6, rs6, vec8_zero, z, ba, ho, hv, hv', hg, -List.reduceReplicate]
      · obtain ⟨s, hs⟩ : ∃ s, s = sld f iv ad t := ⟨_, rfl⟩
        have sl : s.length = t.length + 16 := by rw [hs, sld_len]
        have c1 : T16 16 [.agg (vec8 16 f), .str iv, .str ad, .str t] = some (.tup [.str s, .int .i64 0]) := (T16_eq f iv ad t (by omega)).trans (by rw [if_pos hv, if_pos hv, hs])
        obtain ⟨L, hL⟩ : ∃ L, L = ad ++ s := ⟨_, rfl⟩
        have hLl : L.length = ad.length + s.length := by rw [hL, List.length_append]
        obtain ⟨k, hk⟩ : ∃ k, k = m.toNat % L.length := ⟨_, rfl⟩
        have hl : 0 < L.length := by omega
        have kl : k < L.length := by rw [hk]; exact Nat.mod_lt _ hl
        have t1 : (bv m).tmod (L.length : Int) = (k : Int) := by rw [hk]; exact tmod_nat _ _
        have ne := not_fits f hg iv ad t k (chg (L.getD k 0) n) (by rw [← hs, ← hL]; exact kl) (by rw [← hs, ← hL]; exact chg_ne _ _)
        rw [← hs, ← hL] at ne
        have hb := b_lt m
        have gd : L.getD k 0 = L[k] := by simp [kl]
        rw [gd] at ne
        obtain ⟨L', hL'⟩ : ∃ L', L' = L.set k (chg L[k] n) := ⟨_, rfl⟩
        rw [← hL'] at ne
        have ll : L'.length = L.length := by rw [hL', List.length_set]
        have e : splice (bytesAV L) k [.int .u8 (((chg L[k] n).toNat : Nat) : Int)] = bytesAV L' := by rw [hL']; exact bytesAV_splice L k kl (chg L[k] n)
        have v1 : T18 18 [.agg (vec8 16 f), .str iv, .str (L'.take ad.length), .str (L'.drop ad.length)] = some (.tup [.str [], .int .i64 11]) := (T18_eq f iv _ _ (by rw [List.length_take, List.length_drop, ll]; omega)).trans (by
          have dl : ¬ (L'.drop ad.length).length < 16 := by rw [List.length_drop, ll]; omega
          unfold fits at ne
          unfold opT opE
          rw [if_pos hv, if_pos hv, if_neg dl, if_neg dl, if_neg ne, if_neg ne])
        have tk : (L'.drop ad.length).take (L.length - ad.length) = L'.drop ad.length := List.take_of_length_le (by rw [List.length_drop, ll]; omega)
        have u1 : (∀ c, c ∈ List.take ad.length (bytesAV L') → c.isU8) = True := eq_true fun c hc => bytesAV_u8 _ c (List.mem_of_mem_take hc)
        have u2 : (∀ c, c ∈ List.take (L.length - ad.length) (List.drop ad.length (bytesAV L')) → c.isU8) = True := eq_true fun c hc => bytesAV_u8 _ c (List.mem_of_mem_drop (List.mem_of_mem_take hc))
        have hne : ¬ L = [] := fun e => by rw [e] at hl; simp at hl
        have a1 : (t.length : Int) + 16 = ((t.length + 16 : Nat) : Int) := by omega
        simp [rc6, rs6, vec8_zero, z, ba, ho, hv, hv', hg, c1, sl, ← hL, dlt_wrap, chg_xor, t1, kl, hl, e, ll, v1, tk, u1, u2, hne, a1, -splice, -List.reduceReplicate, -Int.natCast_add]
        omega
    · have hv' : ¬ (iv.length : Int) = 12 := by omega
      simp [rc6, rs6, ho, hv, hv', -List.reduceReplicate]
noncomputable def T6 : Tab := tabAdd T5 6 (fun _ : Bl × (List UInt8) × (List UInt8) × (List UInt8) × (BitVec 8) × (BitVec 8) => True) (fun z => [.agg (vec8 16 z.1), .agg [.str z.2.1, .str z.2.2.1, .str z.2.2.2.1], .agg [.int .u8 (bv z.2.2.2.2.1), .int .u8 (bv z.2.2.2.2.2)]]) (fun _ => .bool true)
@[simp] theorem T6_eq (f : Bl) (iv : List UInt8) (ad : List UInt8) (t : List UInt8) (m : BitVec 8) (n : BitVec 8)  : T6 6 [.agg (vec8 16 f), .agg [.str iv, .str ad, .str t], .agg [.int .u8 (bv m), .int .u8 (bv n)]] = some (.bool true) := tabAdd_eq (a := (f, iv, ad, t, m, n)) (by simp +contextual [Int.natCast_inj]) trivial rfl
@[simp] theorem T6_ne {g : Nat} {xs : List AV} (h : g ≠ 6) : T6 g xs = T5 g xs := tabAdd_ne h
theorem T6_ok : Sound Try.prog T6 := tabAdd_sound T5_ok fun z _ => pf6 z.1 z.2.1 z.2.2.1 z.2.2.2.1 z.2.2.2.2.1 z.2.2.2.2.2 
theorem pf7 (f : Bl) (iv : List UInt8) (ad : List UInt8) (t : List UInt8) (n : BitVec 32)  : PFx Try.prog 7 [.agg (vec8 16 f), .agg [.str iv, .str ad, .str t], .int .u32 (bv n)] (.bool true) := by
  refine PFx_of_W (rc := rc7) (rs := rs7) Try.func7 rfl T6_ok hm (by kernel_rfl) (by kernel_rfl) (by simp [Try.ntmps7]) ?_
  by_cases ho : ovr iv ad t = true
  · simp [rc7, rs7, ho, -List.reduceReplicate]
  · obtain ⟨h1, h2, h3⟩ := ovr_not ho
    by_cases hv : iv.length = 12
    · have hv' : (iv.length : Int) = 12 := by omega
      obtain ⟨d, hd⟩ : ∃ d, d = t.length / 32 := ⟨_, rfl⟩
      have d1 : ((t.length : Nat) : Int).tdiv 32 = (d : Int) := by rw [hd]; exact tdiv_nat t.length 32
      have d2 : (t.length : Int) / 32 = (d : Int) := by omega
      have c2 : 16 * d ≤ t.length := by omega
      have c3 : ((16 * d : Nat) : Int) ≤ (t.length : Int) := by omega
      have st : ∀ (n : BitVec 32) (l : List UInt8), l.length ≤ 60 → T10 10 [.agg (vec8 16 f), .str iv, .int .u32 (bv n), .str l] = some (.tup [.str (strm f iv n l), .int .i64 0]) := fun n l hl => (T10_eq f iv n l (by omega)).trans (by rw [if_pos hv, if_pos hv])
      have s1 := st n t (by omega)
      have s2 := st n (strm f iv n t) (by rw [strm_len]; omega)
      rw [strm_strm] at s2
      have s3 := st n (t.take (16 * d)) (by rw [List.length_take]; omega)
      have s4 := st (n + BitVec.ofNat 32 d) (t.drop (16 * d)) (by rw [List.length_drop]; omega)
      have w1 : IntKind.u32.wrap (d : Int) = bv (BitVec.ofNat 32 d) := bv_wrap32 d
      have pp := strm_parts f iv n d t c2
      simp [rc7, rs7, vec8_zero, ho, hv, hv', s1, s2, s3, s4, d1, d2, cast_muln, c2, c3, w1, bv_add32, pp, -Int.natCast_mul]
      omega
    · have hv' : ¬ (iv.length : Int) = 12 := by omega
      simp [rc7, rs7, ho, hv, hv', -List.reduceReplicate]
noncomputable def T7 : Tab := tabAdd T6 7 (fun _ : Bl × (List UInt8) × (List UInt8) × (List UInt8) × (BitVec 32) => True) (fun z => [.agg (vec8 16 z.1), .agg [.str z.2.1, .str z.2.2.1, .str z.2.2.2.1], .int .u32 (bv z.2.2.2.2)]) (fun _ => .bool true)
@[simp] theorem T7_eq (f : Bl) (iv : List UInt8) (ad : List UInt8) (t : List UInt8) (n : BitVec 32)  : T7 7 [.agg (vec8 16 f), .agg [.str iv, .str ad, .str t], .int .u32 (bv n)] = some (.bool true) := tabAdd_eq (a := (f, iv, ad, t, n)) (by simp +contextual [Int.natCast_inj]) trivial rfl
@[simp] theorem T7_ne {g : Nat} {xs : List AV} (h : g ≠ 7) : T7 g xs = T6 g xs := tabAdd_ne h
theorem T7_ok : Sound Try.prog T7 := tabAdd_sound T6_ok fun z _ => pf7 z.1 z.2.1 z.2.2.1 z.2.2.2.1 z.2.2.2.2 
theorem vc {n : Nat} {l : List (BitVec 8)} (h : l.length = n) : w8s l = vec8 n fun i => l.getD i 0#8 := by rw [w8s_vec, h]
theorem streams' (k : List (BitVec 8)) (iv ad t : List UInt8) (n : BitVec 32) (h : k.length = 16) : PFx Try.prog 3 [.agg (w8s k), .agg [.str iv, .str ad, .str t], .int .u32 (bv n)] (.bool true) := by
  rw [vc h]; exact pf3 _ _ _ _ _
theorem seals' (k : List (BitVec 8)) (iv ad t : List UInt8) (h : k.length = 16) : PFx Try.prog 4 [.agg (w8s k), .agg [.str iv, .str ad, .str t]] (.bool true) := by
  rw [vc h]; exact pf4 _ _ _ _
theorem back' (k : List (BitVec 8)) (iv ad t o : List UInt8) (h : k.length = 16) : PFx Try.prog 5 [.agg (w8s k), .agg [.str iv, .str ad, .str t], .str o] (.bool true) := by
  rw [vc h]; exact pf5 _ _ _ _ _
theorem tells' (k : List (BitVec 8)) (iv ad t : List UInt8) (m n : BitVec 8) (h : k.length = 16) : PFx Try.prog 6 [.agg (w8s k), .agg [.str iv, .str ad, .str t], .agg [.int .u8 (bv m), .int .u8 (bv n)]] (.bool true) := by
  rw [vc h]; exact pf6 _ _ _ _ _ _
theorem parts' (k : List (BitVec 8)) (iv ad t : List UInt8) (n : BitVec 32) (h : k.length = 16) : PFx Try.prog 7 [.agg (w8s k), .agg [.str iv, .str ad, .str t], .int .u32 (bv n)] (.bool true) := by
  rw [vc h]; exact pf7 _ _ _ _ _
end Go.Proofs.Ytlihfdbfcklkmaa

