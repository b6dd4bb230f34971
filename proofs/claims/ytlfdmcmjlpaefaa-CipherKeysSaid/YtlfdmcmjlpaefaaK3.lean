/- The laws of cipher. -/
import Derived.Test.YtlfdmcmjlpaefaaK2
set_option linter.unusedVariables false
set_option linter.unusedSimpArgs false
namespace Go.Proofs.Ytlfdmcmjlpaefaa
open Go.Proofs.Ytlfdmcmjlpaefaa.Pad Go.Proofs.Ytlfdmcmjlpaefaa.Pad.Gf Go.Proofs.Ytlfdmcmjlpaefaa.Pad.Ci
/-- padlock/padlocklaw07.Own -/
def rc10 : RC :=
  (.seq
   (.reg false [⟨(some 1), .box (.t 0), none⟩,
     ⟨(some 2), .alloc (List.replicate 176 (.int .u8 0)), none⟩] [1, 2])
   (.seq
    (.reg false [⟨(some 3), .alloc (List.replicate 176 (.int .u8 0)), none⟩] [1, 2, 3])
    (.seq
     (.seq
      (.reg false [⟨(some 4), .mov (.c (.int .i64 0)), none⟩] [1, 2, 3, 4])
      (.block 0
       (.loop
        (.seq
         (.seq
          (.reg false [⟨(some 5), .mov (.t 4), none⟩,
            ⟨(some 6), .bin .lss true (.t 5) (.c (.int .i64 11)), none⟩] [1, 2, 3, 4, 6])
          (.cond 6
           (.reg false [] [1, 2, 3, 4])
           (.seq
            (.reg false [] [2, 3])
            (.exit 0))))
         (.seq
          (.block 1
           (.reg false [⟨(some 9), .mov (.t 4), none⟩,
             ⟨(some 10), .mov (.t 4), none⟩,
             ⟨(some 11), .idxB 1 16 11 (.t 10), none⟩,
             ⟨(some 12), .loadR 11 1 16 true, none⟩,
             ⟨(some 13), .idxB 3 16 11 (.t 9), none⟩,
             ⟨none, .stR 13 3 16 (.t 12), none⟩] [1, 2, 3, 4]))
          (.reg false [⟨(some 7), .mov (.t 4), none⟩,
            ⟨(some 8), .bin .add true (.t 7) (.c (.int .i64 1)), none⟩,
            ⟨(some 4), .mov (.t 8), none⟩] [1, 2, 3, 4]))))))
     (.seq
      (.reg false [⟨(some 14), .loadB 3 176 true, none⟩,
        ⟨none, .stB 2 176 (.t 14), none⟩] [2])
      .ret))))
def rs10 : List RS := [.cell 2 176 true]
/-- padlock/padlocklaw07.awake -/
def rc16 : RC :=
  (.seq
   (.reg false [⟨(some 0), .mov (.c (.bool false)), none⟩] [])
   (.seq
    (.reg false [⟨(some 1), .alloc (List.replicate 16 (.int .u8 0)), none⟩,
      ⟨(some 2), .alloc (List.replicate 16 (.int .u8 0)), none⟩] [1, 2])
    (.seq
     (.seq
      (.reg false [⟨(some 3), .mov (.c (.int .i64 0)), none⟩] [1, 2, 3])
      (.block 0
       (.loop
        (.seq
         (.seq
          (.reg false [⟨(some 9), .mov (.t 3), none⟩,
            ⟨(some 10), .bin .lss true (.t 9) (.c (.int .i64 16)), none⟩] [1, 2, 3, 10])
          (.cond 10
           (.reg false [] [1, 2, 3])
           (.seq
            (.reg false [] [1, 2])
            (.exit 0))))
         (.seq
          (.block 1
           (.seq
            (.reg false [⟨(some 13), .mov (.t 3), none⟩,
              ⟨(some 14), .mov (.t 3), none⟩,
              ⟨(some 15), .conv false .u8 (.t 14), none⟩,
              ⟨(some 16), .idxB 1 1 16 (.t 13), none⟩,
              ⟨none, .stR 16 1 1 (.t 15), none⟩] [1, 2, 3])
            (.reg false [⟨(some 17), .mov (.t 3), none⟩,
              ⟨(some 18), .mov (.t 3), none⟩,
              ⟨(some 19), .bin .mul true (.c (.int .i64 17)) (.t 18), none⟩,
              ⟨(some 20), .conv false .u8 (.t 19), none⟩,
              ⟨(some 21), .idxB 2 1 16 (.t 17), none⟩,
              ⟨none, .stR 21 2 1 (.t 20), none⟩] [1, 2, 3])))
          (.reg false [⟨(some 11), .mov (.t 3), none⟩,
            ⟨(some 12), .bin .add true (.t 11) (.c (.int .i64 1)), none⟩,
            ⟨(some 3), .mov (.t 12), none⟩] [1, 2, 3]))))))
     (.seq
      (.reg true [⟨(some 22), .loadB 1 16 true, none⟩,
        ⟨(some 23), .call 8 [(false, (.t 22))], none⟩,
        ⟨(some 24), .loadB 2 16 true, none⟩,
        ⟨(some 25), .call 18 [(false, (.t 23)), (false, (.t 24))], none⟩,
        ⟨(some 4), .alloc (List.replicate 16 (.int .u8 0)), none⟩,
        ⟨none, .stB 4 16 (.t 25), none⟩] [1, 2, 4])
      (.seq
       (.reg false [⟨(some 27), .call 17 [(false, (.c (.str [115, 104, 111, 114, 116])))], none⟩,
         ⟨(some 26), .mov (.t 27), none⟩,
         ⟨(some 28), .ext (.t 26) 0, none⟩,
         ⟨(some 29), .ext (.t 26) 1, none⟩,
         ⟨(some 5), .alloc (List.replicate 16 (.int .u8 0)), none⟩,
         ⟨none, .stB 5 16 (.t 28), none⟩,
         ⟨(some 6), .mov (.t 29), none⟩] [1, 2, 4, 6])
       (.seq
        (.reg false [⟨(some 31), .call 17 [(false, (.c (.str [48, 49, 50, 51, 52, 53, 54, 55, 56, 57, 97, 98, 99, 100, 101, 102])))], none⟩,
          ⟨(some 30), .mov (.t 31), none⟩,
          ⟨(some 32), .ext (.t 30) 0, none⟩,
          ⟨(some 33), .ext (.t 30) 1, none⟩,
          ⟨(some 7), .alloc (List.replicate 16 (.int .u8 0)), none⟩,
          ⟨none, .stB 7 16 (.t 32), none⟩,
          ⟨(some 8), .mov (.t 33), none⟩] [1, 2, 4, 6, 7, 8])
        (.seq
         (.reg true [⟨(some 34), .idxB 4 1 16 (.c (.int .i64 0)), none⟩,
           ⟨(some 35), .loadR 34 4 1 false, none⟩,
           ⟨(some 36), .bin .eql false (.t 35) (.c (.int .u8 105)), none⟩,
           ⟨(some 37), .mov (.t 36), none⟩,
           ⟨(some 38), .idxB 4 1 16 (.c (.int .i64 15)), (some (37, true))⟩,
           ⟨(some 39), .loadR 38 4 1 false, (some (37, true))⟩,
           ⟨(some 40), .bin .eql false (.t 39) (.c (.int .u8 90)), (some (37, true))⟩,
           ⟨(some 41), .pick (.t 37) (.t 40) (.c (.bool false)), none⟩,
           ⟨(some 42), .mov (.t 41), none⟩,
           ⟨(some 43), .mov (.t 6), (some (42, true))⟩,
           ⟨(some 44), .bin .eql true (.t 43) (.c (.int .i64 2)), (some (42, true))⟩,
           ⟨(some 45), .pick (.t 42) (.t 44) (.c (.bool false)), none⟩,
           ⟨(some 46), .mov (.t 45), none⟩,
           ⟨(some 47), .mov (.t 8), (some (46, true))⟩,
           ⟨(some 48), .bin .eql true (.t 47) (.c (.int .i64 0)), (some (46, true))⟩,
           ⟨(some 49), .pick (.t 46) (.t 48) (.c (.bool false)), none⟩,
           ⟨(some 50), .mov (.t 49), none⟩,
           ⟨(some 51), .idxB 7 1 16 (.c (.int .i64 10)), (some (50, true))⟩,
           ⟨(some 52), .loadR 51 7 1 false, (some (50, true))⟩,
           ⟨(some 53), .bin .eql false (.t 52) (.c (.int .u8 97)), (some (50, true))⟩,
           ⟨(some 54), .pick (.t 50) (.t 53) (.c (.bool false)), none⟩,
           ⟨(some 55), .mov (.t 54), none⟩,
           ⟨(some 56), .loadB 1 16 true, (some (55, true))⟩,
           ⟨(some 57), .call 8 [(false, (.t 56))], (some (55, true))⟩,
           ⟨(some 58), .loadB 4 16 true, (some (55, true))⟩,
           ⟨(some 59), .call 20 [(false, (.t 57)), (false, (.t 58))], (some (55, true))⟩,
           ⟨(some 60), .loadB 2 16 true, (some (55, true))⟩,
           ⟨(some 61), .beq false (some (List.replicate 16 .i)) (.t 59) (.t 60), (some (55, true))⟩,
           ⟨(some 62), .pick (.t 55) (.t 61) (.c (.bool false)), none⟩,
           ⟨(some 0), .mov (.t 62), none⟩] [0])
         .ret)))))))
def rs16 : List RS := [.tmp 0]
/-- padlock/padlocklaw07.CipherExpands -/
def rc3 : RC :=
  (.seq
   (.reg false [⟨(some 2), .box (.t 0), none⟩,
     ⟨(some 3), .box (.t 1), none⟩,
     ⟨(some 4), .mov (.c (.bool false)), none⟩] [2, 3])
   (.seq
    (.reg false [⟨(some 7), .loadB 2 16 true, none⟩,
      ⟨(some 8), .call 8 [(false, (.t 7))], none⟩,
      ⟨(some 5), .alloc (List.replicate 176 (.int .u8 0)), none⟩,
      ⟨none, .stB 5 176 (.t 8), none⟩] [2, 3, 5])
    (.seq
     (.reg false [⟨(some 9), .loadB 2 16 true, none⟩,
       ⟨(some 10), .call 9 [(false, (.t 9))], none⟩,
       ⟨(some 6), .alloc (List.replicate 176 (.int .u8 0)), none⟩,
       ⟨none, .stB 6 176 (.t 10), none⟩] [2, 3, 5, 6])
     (.seq
      (.reg true [⟨(some 11), .loadB 5 176 true, none⟩,
        ⟨(some 12), .loadB 6 176 true, none⟩,
        ⟨(some 13), .call 10 [(false, (.t 12))], none⟩,
        ⟨(some 14), .beq false (some (List.replicate 176 .i)) (.t 11) (.t 13), none⟩,
        ⟨(some 15), .mov (.t 14), none⟩,
        ⟨(some 16), .loadB 3 16 true, (some (15, true))⟩,
        ⟨(some 17), .call 11 [(false, (.t 16))], (some (15, true))⟩,
        ⟨(some 18), .loadB 3 16 true, (some (15, true))⟩,
        ⟨(some 19), .call 12 [(false, (.t 18))], (some (15, true))⟩,
        ⟨(some 20), .beq false (some (List.replicate 16 .i)) (.t 17) (.t 19), (some (15, true))⟩,
        ⟨(some 21), .pick (.t 15) (.t 20) (.c (.bool false)), none⟩,
        ⟨(some 22), .mov (.t 21), none⟩,
        ⟨(some 23), .loadB 3 16 true, (some (22, true))⟩,
        ⟨(some 24), .call 12 [(false, (.t 23))], (some (22, true))⟩,
        ⟨(some 25), .call 13 [(false, (.t 24))], (some (22, true))⟩,
        ⟨(some 26), .loadB 3 16 true, (some (22, true))⟩,
        ⟨(some 27), .beq false (some (List.replicate 16 .i)) (.t 25) (.t 26), (some (22, true))⟩,
        ⟨(some 28), .pick (.t 22) (.t 27) (.c (.bool false)), none⟩,
        ⟨(some 29), .mov (.t 28), none⟩,
        ⟨(some 30), .loadB 2 16 true, (some (29, true))⟩,
        ⟨(some 31), .loadB 3 16 true, (some (29, true))⟩,
        ⟨(some 32), .call 14 [(false, (.t 30)), (false, (.t 31))], (some (29, true))⟩,
        ⟨(some 33), .loadB 2 16 true, (some (29, true))⟩,
        ⟨(some 34), .loadB 3 16 true, (some (29, true))⟩,
        ⟨(some 35), .call 15 [(false, (.t 33)), (false, (.t 34))], (some (29, true))⟩,
        ⟨(some 36), .beq false (some (List.replicate 16 .i)) (.t 32) (.t 35), (some (29, true))⟩,
        ⟨(some 37), .pick (.t 29) (.t 36) (.c (.bool false)), none⟩,
        ⟨(some 38), .mov (.t 37), none⟩,
        ⟨(some 39), .call 16 [], (some (38, true))⟩,
        ⟨(some 40), .pick (.t 38) (.t 39) (.c (.bool false)), none⟩,
        ⟨(some 4), .mov (.t 40), none⟩] [4])
      .ret))))
def rs3 : List RS := [.tmp 4]
/-- padlock/padlocklaw07.CipherSeals -/
def rc4 : RC :=
  (.seq
   (.reg false [⟨(some 3), .box (.t 0), none⟩,
     ⟨(some 4), .box (.t 1), none⟩,
     ⟨(some 6), .mov (.c (.bool false)), none⟩] [2, 3, 4])
   (.seq
    (.seq
     (.reg false [⟨(some 9), .mov (.t 2), none⟩,
       ⟨(some 10), .len true (.t 9), none⟩,
       ⟨(some 11), .bin .gtr true (.t 10) (.c (.int .i64 40)), none⟩] [2, 3, 4, 11])
     (.cond 11
      (.seq
       (.reg false [⟨(some 12), .call 16 [], none⟩,
         ⟨(some 6), .mov (.t 12), none⟩] [6])
       .ret)
      (.reg false [] [2, 3, 4])))
    (.seq
     (.reg false [⟨(some 14), .mov (.t 2), none⟩,
       ⟨(some 15), .call 17 [(false, (.t 14))], none⟩,
       ⟨(some 13), .mov (.t 15), none⟩,
       ⟨(some 16), .ext (.t 13) 0, none⟩,
       ⟨(some 17), .ext (.t 13) 1, none⟩,
       ⟨(some 7), .alloc (List.replicate 16 (.int .u8 0)), none⟩,
       ⟨none, .stB 7 16 (.t 16), none⟩,
       ⟨(some 8), .mov (.t 17), none⟩] [2, 3, 4, 7, 8])
     (.seq
      (.seq
       (.reg false [⟨(some 18), .mov (.t 2), none⟩,
         ⟨(some 19), .len true (.t 18), none⟩,
         ⟨(some 20), .bin .neq true (.t 19) (.c (.int .i64 16)), none⟩] [2, 3, 4, 7, 8, 20])
       (.cond 20
        (.seq
         (.reg false [⟨(some 21), .mov (.t 8), none⟩,
           ⟨(some 22), .bin .eql true (.t 21) (.c (.int .i64 2)), none⟩,
           ⟨(some 23), .mov (.t 22), none⟩,
           ⟨(some 24), .loadB 7 16 true, (some (23, true))⟩,
           ⟨(some 25), .build (List.replicate 16 (.int .u8 0)) [], (some (23, true))⟩,
           ⟨(some 26), .beq false (some (List.replicate 16 .i)) (.t 24) (.t 25), (some (23, true))⟩,
           ⟨(some 27), .pick (.t 23) (.t 26) (.c (.bool false)), none⟩,
           ⟨(some 28), .mov (.t 27), none⟩,
           ⟨(some 29), .call 16 [], (some (28, true))⟩,
           ⟨(some 30), .pick (.t 28) (.t 29) (.c (.bool false)), none⟩,
           ⟨(some 6), .mov (.t 30), none⟩] [6])
         .ret)
        (.reg false [] [2, 3, 4, 7, 8])))
      (.seq
       (.reg true [⟨(some 31), .mov (.t 8), none⟩,
         ⟨(some 32), .bin .eql true (.t 31) (.c (.int .i64 0)), none⟩,
         ⟨(some 33), .mov (.t 32), none⟩,
         ⟨(some 34), .winB 7 1 16 none none, (some (33, true))⟩,
         ⟨(some 35), .b2sM 34 7, (some (33, true))⟩,
         ⟨(some 36), .mov (.t 2), (some (33, true))⟩,
         ⟨(some 37), .bin .eql false (.t 35) (.t 36), (some (33, true))⟩,
         ⟨(some 38), .pick (.t 33) (.t 37) (.c (.bool false)), none⟩,
         ⟨(some 39), .mov (.t 38), none⟩,
         ⟨(some 40), .loadB 3 176 true, (some (39, true))⟩,
         ⟨(some 41), .call 10 [(false, (.t 40))], (some (39, true))⟩,
         ⟨(some 42), .loadB 4 16 true, (some (39, true))⟩,
         ⟨(some 43), .call 18 [(false, (.t 41)), (false, (.t 42))], (some (39, true))⟩,
         ⟨(some 44), .loadB 3 176 true, (some (39, true))⟩,
         ⟨(some 45), .loadB 4 16 true, (some (39, true))⟩,
         ⟨(some 46), .call 19 [(false, (.t 44)), (false, (.t 45))], (some (39, true))⟩,
         ⟨(some 47), .beq false (some (List.replicate 16 .i)) (.t 43) (.t 46), (some (39, true))⟩,
         ⟨(some 48), .pick (.t 39) (.t 47) (.c (.bool false)), none⟩,
         ⟨(some 49), .mov (.t 48), none⟩,
         ⟨(some 50), .call 16 [], (some (49, true))⟩,
         ⟨(some 51), .pick (.t 49) (.t 50) (.c (.bool false)), none⟩,
         ⟨(some 6), .mov (.t 51), none⟩] [6])
       .ret)))))
def rs4 : List RS := [.tmp 6]
/-- padlock/padlocklaw07.CipherBack -/
def rc5 : RC :=
  (.seq
   (.reg false [⟨(some 2), .box (.t 0), none⟩,
     ⟨(some 3), .box (.t 1), none⟩,
     ⟨(some 4), .mov (.c (.bool false)), none⟩] [2, 3])
   (.seq
    (.reg false [⟨(some 8), .loadB 2 176 true, none⟩,
      ⟨(some 9), .call 10 [(false, (.t 8))], none⟩,
      ⟨(some 5), .alloc (List.replicate 176 (.int .u8 0)), none⟩,
      ⟨none, .stB 5 176 (.t 9), none⟩] [3, 5])
    (.seq
     (.reg true [⟨(some 10), .idxB 3 16 2 (.c (.int .i64 0)), none⟩,
       ⟨(some 11), .loadR 10 3 16 true, none⟩,
       ⟨(some 12), .idxB 3 16 2 (.c (.int .i64 1)), none⟩,
       ⟨(some 13), .loadR 12 3 16 true, none⟩,
       ⟨(some 6), .alloc (List.replicate 16 (.int .u8 0)), none⟩,
       ⟨(some 7), .alloc (List.replicate 16 (.int .u8 0)), none⟩,
       ⟨none, .stB 6 16 (.t 11), none⟩,
       ⟨none, .stB 7 16 (.t 13), none⟩] [5, 6, 7])
     (.seq
      (.seq
       (.reg true [⟨(some 14), .loadB 5 176 true, none⟩,
         ⟨(some 15), .loadB 5 176 true, none⟩,
         ⟨(some 16), .loadB 6 16 true, none⟩,
         ⟨(some 17), .call 18 [(false, (.t 15)), (false, (.t 16))], none⟩,
         ⟨(some 18), .call 20 [(false, (.t 14)), (false, (.t 17))], none⟩,
         ⟨(some 19), .loadB 6 16 true, none⟩,
         ⟨(some 20), .beq true (some (List.replicate 16 .i)) (.t 18) (.t 19), none⟩,
         ⟨(some 21), .mov (.t 20), none⟩,
         ⟨(some 22), .loadB 5 176 true, (some (21, false))⟩,
         ⟨(some 23), .loadB 5 176 true, (some (21, false))⟩,
         ⟨(some 24), .loadB 7 16 true, (some (21, false))⟩,
         ⟨(some 25), .call 20 [(false, (.t 23)), (false, (.t 24))], (some (21, false))⟩,
         ⟨(some 26), .call 18 [(false, (.t 22)), (false, (.t 25))], (some (21, false))⟩,
         ⟨(some 27), .loadB 7 16 true, (some (21, false))⟩,
         ⟨(some 28), .beq true (some (List.replicate 16 .i)) (.t 26) (.t 27), (some (21, false))⟩,
         ⟨(some 29), .pick (.t 21) (.c (.bool true)) (.t 28), none⟩] [5, 6, 7, 29])
       (.cond 29
        (.seq
         (.reg false [⟨(some 4), .mov (.c (.bool false)), none⟩] [4])
         .ret)
        (.reg false [] [5, 6, 7])))
      (.seq
       (.reg true [⟨(some 30), .loadB 5 176 true, none⟩,
         ⟨(some 31), .loadB 6 16 true, none⟩,
         ⟨(some 32), .call 18 [(false, (.t 30)), (false, (.t 31))], none⟩,
         ⟨(some 33), .loadB 5 176 true, none⟩,
         ⟨(some 34), .loadB 7 16 true, none⟩,
         ⟨(some 35), .call 18 [(false, (.t 33)), (false, (.t 34))], none⟩,
         ⟨(some 36), .beq false (some (List.replicate 16 .i)) (.t 32) (.t 35), none⟩,
         ⟨(some 37), .loadB 6 16 true, none⟩,
         ⟨(some 38), .loadB 7 16 true, none⟩,
         ⟨(some 39), .beq false (some (List.replicate 16 .i)) (.t 37) (.t 38), none⟩,
         ⟨(some 40), .beq false none (.t 36) (.t 39), none⟩,
         ⟨(some 41), .mov (.t 40), none⟩,
         ⟨(some 42), .call 16 [], (some (41, true))⟩,
         ⟨(some 43), .pick (.t 41) (.t 42) (.c (.bool false)), none⟩,
         ⟨(some 4), .mov (.t 43), none⟩] [4])
       .ret)))))
def rs5 : List RS := [.tmp 4]
/-- padlock/padlocklaw07.CipherTurns -/
def rc6 : RC :=
  (.seq
   (.reg false [⟨(some 1), .box (.t 0), none⟩,
     ⟨(some 2), .mov (.c (.bool false)), none⟩] [1])
   (.seq
    (.reg true [⟨(some 6), .idxB 1 16 2 (.c (.int .i64 0)), none⟩,
      ⟨(some 7), .loadR 6 1 16 true, none⟩,
      ⟨(some 8), .idxB 1 16 2 (.c (.int .i64 1)), none⟩,
      ⟨(some 9), .loadR 8 1 16 true, none⟩,
      ⟨(some 3), .alloc (List.replicate 16 (.int .u8 0)), none⟩,
      ⟨(some 4), .alloc (List.replicate 16 (.int .u8 0)), none⟩,
      ⟨none, .stB 3 16 (.t 7), none⟩,
      ⟨none, .stB 4 16 (.t 9), none⟩] [3, 4])
    (.seq
     (.seq
      (.reg true [⟨(some 10), .loadB 3 16 true, none⟩,
        ⟨(some 11), .call 11 [(false, (.t 10))], none⟩,
        ⟨(some 12), .call 11 [(false, (.t 11))], none⟩,
        ⟨(some 13), .call 11 [(false, (.t 12))], none⟩,
        ⟨(some 14), .call 11 [(false, (.t 13))], none⟩,
        ⟨(some 15), .loadB 3 16 true, none⟩,
        ⟨(some 16), .beq true (some (List.replicate 16 .i)) (.t 14) (.t 15), none⟩,
        ⟨(some 17), .mov (.t 16), none⟩,
        ⟨(some 18), .loadB 3 16 true, (some (17, false))⟩,
        ⟨(some 19), .call 11 [(false, (.t 18))], (some (17, false))⟩,
        ⟨(some 20), .call 13 [(false, (.t 19))], (some (17, false))⟩,
        ⟨(some 21), .loadB 3 16 true, (some (17, false))⟩,
        ⟨(some 22), .beq true (some (List.replicate 16 .i)) (.t 20) (.t 21), (some (17, false))⟩,
        ⟨(some 23), .pick (.t 17) (.c (.bool true)) (.t 22), none⟩,
        ⟨(some 24), .mov (.t 23), none⟩,
        ⟨(some 25), .loadB 4 16 true, (some (24, false))⟩,
        ⟨(some 26), .call 13 [(false, (.t 25))], (some (24, false))⟩,
        ⟨(some 27), .call 11 [(false, (.t 26))], (some (24, false))⟩,
        ⟨(some 28), .loadB 4 16 true, (some (24, false))⟩,
        ⟨(some 29), .beq true (some (List.replicate 16 .i)) (.t 27) (.t 28), (some (24, false))⟩,
        ⟨(some 30), .pick (.t 24) (.c (.bool true)) (.t 29), none⟩] [3, 4, 30])
      (.cond 30
       (.seq
        (.reg false [⟨(some 2), .mov (.c (.bool false)), none⟩] [2])
        .ret)
       (.reg false [] [3, 4])))
     (.seq
      (.reg false [⟨(some 31), .loadB 3 16 true, none⟩,
        ⟨(some 32), .loadB 4 16 true, none⟩,
        ⟨(some 33), .call 14 [(false, (.t 31)), (false, (.t 32))], none⟩,
        ⟨(some 5), .alloc (List.replicate 16 (.int .u8 0)), none⟩,
        ⟨none, .stB 5 16 (.t 33), none⟩] [3, 4, 5])
      (.seq
       (.reg true [⟨(some 34), .loadB 5 16 true, none⟩,
         ⟨(some 35), .call 11 [(false, (.t 34))], none⟩,
         ⟨(some 36), .loadB 3 16 true, none⟩,
         ⟨(some 37), .call 11 [(false, (.t 36))], none⟩,
         ⟨(some 38), .loadB 4 16 true, none⟩,
         ⟨(some 39), .call 11 [(false, (.t 38))], none⟩,
         ⟨(some 40), .call 14 [(false, (.t 37)), (false, (.t 39))], none⟩,
         ⟨(some 41), .beq false (some (List.replicate 16 .i)) (.t 35) (.t 40), none⟩,
         ⟨(some 42), .mov (.t 41), none⟩,
         ⟨(some 43), .loadB 5 16 true, (some (42, true))⟩,
         ⟨(some 44), .loadB 4 16 true, (some (42, true))⟩,
         ⟨(some 45), .call 14 [(false, (.t 43)), (false, (.t 44))], (some (42, true))⟩,
         ⟨(some 46), .loadB 3 16 true, (some (42, true))⟩,
         ⟨(some 47), .beq false (some (List.replicate 16 .i)) (.t 45) (.t 46), (some (42, true))⟩,
         ⟨(some 48), .pick (.t 42) (.t 47) (.c (.bool false)), none⟩,
         ⟨(some 49), .mov (.t 48), none⟩,
         ⟨(some 50), .loadB 3 16 true, (some (49, true))⟩,
         ⟨(some 51), .loadB 3 16 true, (some (49, true))⟩,
         ⟨(some 52), .call 14 [(false, (.t 50)), (false, (.t 51))], (some (49, true))⟩,
         ⟨(some 53), .build (List.replicate 16 (.int .u8 0)) [], (some (49, true))⟩,
         ⟨(some 54), .beq false (some (List.replicate 16 .i)) (.t 52) (.t 53), (some (49, true))⟩,
         ⟨(some 55), .pick (.t 49) (.t 54) (.c (.bool false)), none⟩,
         ⟨(some 56), .mov (.t 55), none⟩,
         ⟨(some 57), .call 16 [], (some (56, true))⟩,
         ⟨(some 58), .pick (.t 56) (.t 57) (.c (.bool false)), none⟩,
         ⟨(some 2), .mov (.t 58), none⟩] [2])
       .ret)))))
def rs6 : List RS := [.tmp 2]
/-- padlock/padlocklaw07.CipherKeys -/
def rc7 : RC :=
  (.seq
   (.reg false [⟨(some 2), .box (.t 0), none⟩,
     ⟨(some 3), .box (.t 1), none⟩,
     ⟨(some 4), .mov (.c (.bool false)), none⟩] [2, 3])
   (.seq
    (.reg true [⟨(some 8), .loadB 2 16 true, none⟩,
      ⟨(some 9), .call 8 [(false, (.t 8))], none⟩,
      ⟨(some 10), .loadB 3 16 true, none⟩,
      ⟨(some 11), .call 8 [(false, (.t 10))], none⟩,
      ⟨(some 5), .alloc (List.replicate 176 (.int .u8 0)), none⟩,
      ⟨(some 6), .alloc (List.replicate 176 (.int .u8 0)), none⟩,
      ⟨none, .stB 5 176 (.t 9), none⟩,
      ⟨none, .stB 6 176 (.t 11), none⟩] [2, 3, 5, 6])
    (.seq
     (.seq
      (.reg true [⟨(some 12), .idxB 5 16 11 (.c (.int .i64 0)), none⟩,
        ⟨(some 13), .loadR 12 5 16 true, none⟩,
        ⟨(some 14), .loadB 2 16 true, none⟩,
        ⟨(some 15), .beq true (some (List.replicate 16 .i)) (.t 13) (.t 14), none⟩,
        ⟨(some 16), .mov (.t 15), none⟩,
        ⟨(some 17), .loadB 5 176 true, (some (16, false))⟩,
        ⟨(some 18), .loadB 6 176 true, (some (16, false))⟩,
        ⟨(some 19), .beq false (some (List.replicate 176 .i)) (.t 17) (.t 18), (some (16, false))⟩,
        ⟨(some 20), .loadB 2 16 true, (some (16, false))⟩,
        ⟨(some 21), .loadB 3 16 true, (some (16, false))⟩,
        ⟨(some 22), .beq false (some (List.replicate 16 .i)) (.t 20) (.t 21), (some (16, false))⟩,
        ⟨(some 23), .beq true none (.t 19) (.t 22), (some (16, false))⟩,
        ⟨(some 24), .pick (.t 16) (.c (.bool true)) (.t 23), none⟩] [2, 3, 5, 6, 24])
      (.cond 24
       (.seq
        (.reg false [⟨(some 4), .mov (.c (.bool false)), none⟩] [4])
        .ret)
       (.reg false [] [2, 3, 5, 6])))
     (.seq
      (.seq
       (.reg false [⟨(some 7), .mov (.c (.int .i64 0)), none⟩] [2, 3, 5, 6, 7])
       (.block 0
        (.loop
         (.seq
          (.seq
           (.reg false [⟨(some 25), .mov (.t 7), none⟩,
             ⟨(some 26), .bin .lss true (.t 25) (.c (.int .i64 11)), none⟩] [2, 3, 5, 6, 7, 26])
           (.cond 26
            (.reg false [] [2, 3, 5, 6, 7])
            (.seq
             (.reg false [] [])
             (.exit 0))))
          (.seq
           (.block 1
            (.seq
             (.reg true [⟨(some 29), .mov (.t 7), none⟩,
               ⟨(some 30), .idxB 5 16 11 (.t 29), none⟩,
               ⟨(some 31), .loadR 30 5 16 true, none⟩,
               ⟨(some 32), .mov (.t 7), none⟩,
               ⟨(some 33), .idxB 6 16 11 (.t 32), none⟩,
               ⟨(some 34), .loadR 33 6 16 true, none⟩,
               ⟨(some 35), .beq false (some (List.replicate 16 .i)) (.t 31) (.t 34), none⟩,
               ⟨(some 36), .loadB 2 16 true, none⟩,
               ⟨(some 37), .loadB 3 16 true, none⟩,
               ⟨(some 38), .beq false (some (List.replicate 16 .i)) (.t 36) (.t 37), none⟩,
               ⟨(some 39), .beq true none (.t 35) (.t 38), none⟩] [2, 3, 5, 6, 7, 39])
             (.cond 39
              (.seq
               (.reg false [⟨(some 4), .mov (.c (.bool false)), none⟩] [4])
               .ret)
              (.reg false [] [2, 3, 5, 6, 7]))))
           (.reg false [⟨(some 27), .mov (.t 7), none⟩,
             ⟨(some 28), .bin .add true (.t 27) (.c (.int .i64 1)), none⟩,
             ⟨(some 7), .mov (.t 28), none⟩] [2, 3, 5, 6, 7]))))))
      (.seq
       (.reg false [⟨(some 40), .call 16 [], none⟩,
         ⟨(some 4), .mov (.t 40), none⟩] [4])
       .ret)))))
def rs7 : List RS := [.tmp 4]
theorem pf10 (r : Bl)  : PFx Try.prog 10 [.agg (vec8 176 r)] (.agg (vec8 176 r)) := by
  refine PFx_of_W (rc := rc10) (rs := rs10) Try.func10 rfl T20_ok hm (by kernel_rfl) (by kernel_rfl) (by simp [Try.ntmps10]) ?_
  simp [rc10, rs10, vec8_zero]
  refine W_forU 11 (fun _ => True) (fun k => [(3, .box (vec8 176 (upto (k * 16) r fun _ => 0#8))), (4, .int .i64 k)]) trivial (by simp [upto_zero]) (fun k hk _ => ?_) fun _ => ?_
  · have hk' : (k : Int) < 11 := by omega
    have p : ((vec8 176 r).drop (k * 16)).take 16 = vec8 16 fun i => r (k * 16 + i) := vec8_part 176 (k * 16) 16 r (by omega)
    have e := upto_part 176 k 16 r (fun _ => 0#8) (by omega)
    simp [hk', p, e, -splice]
    omega
  · simp [upto_all]
noncomputable def T10 : Tab := tabAdd T20 10 (fun _ : Bl => True) (fun z => [.agg (vec8 176 z)]) (fun z => .agg (vec8 176 z))
@[simp] theorem T10_eq (r : Bl)  : T10 10 [.agg (vec8 176 r)] = some (.agg (vec8 176 r)) := tabAdd_eq (a := r) (fun f g h => by simpa using h) trivial rfl
@[simp] theorem T10_ne {g : Nat} {xs : List AV} (h : g ≠ 10) : T10 g xs = T20 g xs := tabAdd_ne h
theorem T10_ok : Sound Try.prog T10 := tabAdd_sound T20_ok fun z _ => pf10 z 
theorem f16 (f g : Bl) : fitS [.i, .i, .i, .i, .i, .i, .i, .i, .i, .i, .i, .i, .i, .i, .i, .i] (vec8 16 f) (vec8 16 g) := fit_vec8 16 f g
theorem pf16   : PFx Try.prog 16 [] (.bool true) := by
  refine PFx_of_W (rc := rc16) (rs := rs16) Try.func16 rfl T10_ok hm (by kernel_rfl) (by kernel_rfl) (by simp [Try.ntmps16]) ?_
  have cT : vec8 16 (fun i => BitVec.ofNat 8 i) = vec8 16 (tb exK) := vec8_ext fun i hi => by revert i; decide +kernel
  have cB : vec8 16 (fun i => BitVec.ofNat 8 (17 * i)) = vec8 16 (tb exB) := vec8_ext fun i hi => by revert i; decide +kernel
  simp [rc16, rs16, vec8_zero]
  refine W_forU 16 (fun _ => True) (fun k => [(1, .box (vec8 16 (upto k (fun i => BitVec.ofNat 8 i) fun _ => 0#8))), (2, .box (vec8 16 (upto k (fun i => BitVec.ofNat 8 (17 * i)) fun _ => 0#8))), (3, .int .i64 k)]) trivial (by simp [upto_zero]) (fun k hk _ => ?_) fun _ => ?_
  · have hk' : (k : Int) < 16 := by omega
    have e1 := upto_set 16 k (fun i => BitVec.ofNat 8 i) (fun _ => 0#8) hk
    have e2 := upto_set 16 k (fun i => BitVec.ofNat 8 (17 * i)) (fun _ => 0#8) hk
    have w1 : IntKind.u8.wrap (k : Int) = bv (BitVec.ofNat 8 k) := bv_wrap8 k
    have w2 : IntKind.u8.wrap ((17 * k : Nat) : Int) = bv (BitVec.ofNat 8 (17 * k)) := bv_wrap8 (17 * k)
    simp [hk', hk, cast_muln, w1, w2, e1, e2, -splice, -Int.natCast_mul]
    omega
  · have sb : ∀ i, i < 16 → sel (ks (tb exK)) (tb exB) i = tb ex10 i := ex_sel
    have ob : ∀ i, i < 16 → opn (ks (tb exK)) (sel (ks (tb exK)) (tb exB)) i = tb exB i := opn_sel _ _
    have s0 : sel (ks (tb exK)) (tb exB) 0 = 105#8 := (sb 0 (by decide)).trans (by decide)
    have s15 : sel (ks (tb exK)) (tb exB) 15 = 90#8 := (sb 15 (by decide)).trans (by decide)
    have o1 : T17 17 [.str [115, 104, 111, 114, 116]] = some (.tup [.agg (vec8 16 (ofB [115, 104, 111, 114, 116])), .int .i64 2]) := (T17_eq _ (by decide)).trans rfl
    have o2 : T17 17 [.str [48, 49, 50, 51, 52, 53, 54, 55, 56, 57, 97, 98, 99, 100, 101, 102]] = some (.tup [.agg (vec8 16 (ofB [48, 49, 50, 51, 52, 53, 54, 55, 56, 57, 97, 98, 99, 100, 101, 102])), .int .i64 0]) := (T17_eq _ (by decide)).trans rfl
    have a10 : ofB [48, 49, 50, 51, 52, 53, 54, 55, 56, 57, 97, 98, 99, 100, 101, 102] 10 = 97#8 := by decide
    simp [upto_all, cT, cB, o1, o2, s0, s15, a10, eq_lit, ob, f16]
    exact ob
noncomputable def T16 : Tab := tabAdd T10 16 (fun _ : Unit => True) (fun _ => []) (fun _ => .bool true)
@[simp] theorem T16_eq   : T16 16 [] = some (.bool true) := tabAdd_eq (a := ()) (by simp +contextual [Int.natCast_inj]) trivial rfl
@[simp] theorem T16_ne {g : Nat} {xs : List AV} (h : g ≠ 16) : T16 g xs = T10 g xs := tabAdd_ne h
theorem T16_ok : Sound Try.prog T16 := tabAdd_sound T10_ok fun _ _ => pf16  
theorem pf3 (a : Bl) (b : Bl)  : PFx Try.prog 3 [.agg (vec8 16 a), .agg (vec8 16 b)] (.bool true) := by
  refine PFx_of_W (rc := rc3) (rs := rs3) Try.func3 rfl T16_ok hm (by kernel_rfl) (by kernel_rfl) (by simp [Try.ntmps3]) ?_
  have ut : ∀ i, i < 16 → unturn (turn b) i = b i := unturn_turn b
  simp [rc3, rs3, vec8_zero, ut, -List.reduceReplicate]
  exact ut
noncomputable def T3 : Tab := tabAdd T16 3 (fun _ : Bl × Bl => True) (fun z => [.agg (vec8 16 z.1), .agg (vec8 16 z.2)]) (fun _ => .bool true)
@[simp] theorem T3_eq (a : Bl) (b : Bl)  : T3 3 [.agg (vec8 16 a), .agg (vec8 16 b)] = some (.bool true) := tabAdd_eq (a := (a, b)) (by simp +contextual [Int.natCast_inj]) trivial rfl
@[simp] theorem T3_ne {g : Nat} {xs : List AV} (h : g ≠ 3) : T3 g xs = T16 g xs := tabAdd_ne h
theorem T3_ok : Sound Try.prog T3 := tabAdd_sound T16_ok fun z _ => pf3 z.1 z.2 
theorem ofB_at (l : List UInt8) (h : l.length = 16) : (vec8 16 (ofB l)).map AV.byte = l := by
  have e : bytesAV l = vec8 16 (ofB l) := by
    rw [bytes_vec, h]; exact vec8_ext fun i _ => by unfold ofB; rw [if_pos h]
  rw [← e, bytesAV_back]
theorem pf4 (r : Bl) (b : Bl) (l : List UInt8)  : PFx Try.prog 4 [.agg (vec8 176 r), .agg (vec8 16 b), .str l] (.bool true) := by
  refine PFx_of_W (rc := rc4) (rs := rs4) Try.func4 rfl T3_ok hm (by kernel_rfl) (by kernel_rfl) (by simp [Try.ntmps4]) ?_
  by_cases h40 : l.length ≤ 40
  · have h40' : ¬ (40 : Int) < l.length := by omega
    by_cases h16 : l.length = 16
    · have h16' : (l.length : Int) = 16 := by omega
      have o := ofB_at l h16
      have ol : T17 17 [.str l] = some (.tup [.agg (vec8 16 (ofB l)), .int .i64 0]) := (T17_eq l (by omega)).trans (by rw [if_pos h16])
      simp [rc4, rs4, vec8_zero, f16, h40, h40', h16, h16', ol, o]
    · have h16' : ¬ (l.length : Int) = 16 := by omega
      have ol : T17 17 [.str l] = some (.tup [.agg (vec8 16 (ofB l)), .int .i64 2]) := (T17_eq l (by omega)).trans (by rw [if_neg h16])
      have o : ∀ i, i < 16 → ofB l i = 0#8 := fun i _ => by unfold ofB; rw [if_neg h16]
      simp [rc4, rs4, vec8_zero, f16, h40, h40', h16, h16', ol, o]
      exact o
  · have h40' : (40 : Int) < l.length := by omega
    simp [rc4, rs4, h40, h40']
noncomputable def T4 : Tab := tabAdd T3 4 (fun _ : Bl × Bl × (List UInt8) => True) (fun z => [.agg (vec8 176 z.1), .agg (vec8 16 z.2.1), .str z.2.2]) (fun _ => .bool true)
@[simp] theorem T4_eq (r : Bl) (b : Bl) (l : List UInt8)  : T4 4 [.agg (vec8 176 r), .agg (vec8 16 b), .str l] = some (.bool true) := tabAdd_eq (a := (r, b, l)) (by simp +contextual [Int.natCast_inj]) trivial rfl
@[simp] theorem T4_ne {g : Nat} {xs : List AV} (h : g ≠ 4) : T4 g xs = T3 g xs := tabAdd_ne h
theorem T4_ok : Sound Try.prog T4 := tabAdd_sound T3_ok fun z _ => pf4 z.1 z.2.1 z.2.2 
theorem pf5 (r : Bl) (b : Bl)  : PFx Try.prog 5 [.agg (vec8 176 r), .agg (vec8 32 b)] (.bool true) := by
  refine PFx_of_W (rc := rc5) (rs := rs5) Try.func5 rfl T4_ok hm (by kernel_rfl) (by kernel_rfl) (by simp [Try.ntmps5]) ?_
  have p : ((vec8 32 b).drop 16).take 16 = vec8 16 (rk b 1) := vec8_part 32 16 16 b (by omega)
  have os : ∀ x, ∀ i, i < 16 → opn r (sel r x) i = x i := fun x => opn_sel r x
  have so : ∀ x, ∀ i, i < 16 → sel r (opn r x) i = x i := fun x => sel_opn r x
  have si : ∀ x y, (∀ i, i < 16 → sel r x i = sel r y i) ↔ (∀ i, i < 16 → x i = y i) := fun x y => sel_inj r x y
  simp [rc5, rs5, vec8_zero, f16, p, os, so, si]
  exact ⟨os b, so _⟩
noncomputable def T5 : Tab := tabAdd T4 5 (fun _ : Bl × Bl => True) (fun z => [.agg (vec8 176 z.1), .agg (vec8 32 z.2)]) (fun _ => .bool true)
@[simp] theorem T5_eq (r : Bl) (b : Bl)  : T5 5 [.agg (vec8 176 r), .agg (vec8 32 b)] = some (.bool true) := tabAdd_eq (a := (r, b)) (by simp +contextual [Int.natCast_inj]) trivial rfl
@[simp] theorem T5_ne {g : Nat} {xs : List AV} (h : g ≠ 5) : T5 g xs = T4 g xs := tabAdd_ne h
theorem T5_ok : Sound Try.prog T5 := tabAdd_sound T4_ok fun z _ => pf5 z.1 z.2 
theorem pf6 (b : Bl)  : PFx Try.prog 6 [.agg (vec8 32 b)] (.bool true) := by
  refine PFx_of_W (rc := rc6) (rs := rs6) Try.func6 rfl T5_ok hm (by kernel_rfl) (by kernel_rfl) (by simp [Try.ntmps6]) ?_
  have p : ((vec8 32 b).drop 16).take 16 = vec8 16 (rk b 1) := vec8_part 32 16 16 b (by omega)
  have t4 : ∀ x, ∀ i, i < 16 → turn (turn (turn (turn x))) i = x i := fun x => turn4 x
  have ut : ∀ x, ∀ i, i < 16 → unturn (turn x) i = x i := fun x => unturn_turn x
  have tu : ∀ x, ∀ i, i < 16 → turn (unturn x) i = x i := fun x => turn_unturn x
  simp [rc6, rs6, vec8_zero, f16, p, t4, ut, tu, turn_xo, xo_xo, xo_self]
  exact ⟨⟨t4 b, ut b⟩, tu _⟩
noncomputable def T6 : Tab := tabAdd T5 6 (fun _ : Bl => True) (fun z => [.agg (vec8 32 z)]) (fun _ => .bool true)
@[simp] theorem T6_eq (b : Bl)  : T6 6 [.agg (vec8 32 b)] = some (.bool true) := tabAdd_eq (a := b) (by simp +contextual [Int.natCast_inj]) trivial rfl
@[simp] theorem T6_ne {g : Nat} {xs : List AV} (h : g ≠ 6) : T6 g xs = T5 g xs := tabAdd_ne h
theorem T6_ok : Sound Try.prog T6 := tabAdd_sound T5_ok fun z _ => pf6 z 
theorem pf7 (a : Bl) (b : Bl)  : PFx Try.prog 7 [.agg (vec8 16 a), .agg (vec8 16 b)] (.bool true) := by
  refine PFx_of_W (rc := rc7) (rs := rs7) Try.func7 rfl T6_ok hm (by kernel_rfl) (by kernel_rfl) (by simp [Try.ntmps7]) ?_
  have k0 : ∀ i, i < 16 → ks a i = a i := fun i hi => ks_lo a hi
  have ka : (∀ i, i < 176 → ks a i = ks b i) ↔ (∀ i, i < 16 → a i = b i) := ⟨fun h i hi => by have := h i (by omega); rwa [ks_lo a hi, ks_lo b hi] at this, fun h i _ => ks_ag h i⟩
  simp [rc7, rs7, vec8_zero, k0, ka, -List.reduceReplicate]
  refine ⟨k0, ?_⟩
  refine W_forU 11 (fun _ => True) (fun k => [(7, .int .i64 k)]) trivial (by simp) (fun k hk _ => ?_) fun _ => ?_
  · have hk' : (k : Int) < 11 := by omega
    have pa : ((vec8 176 (ks a)).drop (k * 16)).take 16 = vec8 16 (rk (ks a) k) := vec8_part 176 (k * 16) 16 _ (by omega)
    have pb : ((vec8 176 (ks b)).drop (k * 16)).take 16 = vec8 16 (rk (ks b) k) := vec8_part 176 (k * 16) 16 _ (by omega)
    have kr : (∀ i, i < 16 → rk (ks a) k i = rk (ks b) k i) ↔ (∀ i, i < 16 → a i = b i) := rk_inj a b k
    simp [hk', pa, pb, kr, f16]
    omega
  · simp
noncomputable def T7 : Tab := tabAdd T6 7 (fun _ : Bl × Bl => True) (fun z => [.agg (vec8 16 z.1), .agg (vec8 16 z.2)]) (fun _ => .bool true)
@[simp] theorem T7_eq (a : Bl) (b : Bl)  : T7 7 [.agg (vec8 16 a), .agg (vec8 16 b)] = some (.bool true) := tabAdd_eq (a := (a, b)) (by simp +contextual [Int.natCast_inj]) trivial rfl
@[simp] theorem T7_ne {g : Nat} {xs : List AV} (h : g ≠ 7) : T7 g xs = T6 g xs := tabAdd_ne h
theorem T7_ok : Sound Try.prog T7 := tabAdd_sound T6_ok fun z _ => pf7 z.1 z.2 
theorem vc {n : Nat} {l : List B} (h : l.length = n) : w8s l = vec8 n fun i => l.getD i 0#8 := by rw [w8s_vec, h]
theorem expands' (a b : List B) (ha : a.length = 16) (hb : b.length = 16) : PFx Try.prog 3 [.agg (w8s a), .agg (w8s b)] (.bool true) := by
  rw [vc ha, vc hb]; exact pf3 _ _
theorem seals' (r b : List B) (l : List UInt8) (hr : r.length = 11 * 16) (hb : b.length = 16) : PFx Try.prog 4 [.agg (w8s r), .agg (w8s b), .str l] (.bool true) := by
  rw [vc (n := 176) hr, vc hb]; exact pf4 _ _ _
theorem back' (r b : List B) (hr : r.length = 11 * 16) (hb : b.length = 2 * 16) : PFx Try.prog 5 [.agg (w8s r), .agg (w8s b)] (.bool true) := by
  rw [vc (n := 176) hr, vc (n := 32) hb]; exact pf5 _ _
theorem turns' (b : List B) (hb : b.length = 2 * 16) : PFx Try.prog 6 [.agg (w8s b)] (.bool true) := by
  rw [vc (n := 32) hb]; exact pf6 _
theorem keys' (a b : List B) (ha : a.length = 16) (hb : b.length = 16) : PFx Try.prog 7 [.agg (w8s a), .agg (w8s b)] (.bool true) := by
  rw [vc ha, vc hb]; exact pf7 _ _
end Go.Proofs.Ytlfdmcmjlpaefaa

