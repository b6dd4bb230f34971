/- Which text is below which one: of the program and of the document. -/
import Derived.Test.YtnhelmnenhphjaaU1
set_option linter.unusedVariables false
set_option linter.unusedSimpArgs false
namespace Go.Proofs.Ytnhelmnenhphjaa
open Go.Proofs.Ytnhelmnenhphjaa.Pad Go.Proofs.Ytnhelmnenhphjaa.Pad.Under
/-- padlock/under.behind -/
def rc28 : RC :=
  (.seq
   (.reg false [⟨(some 4), .mov (.c (.str [])), none⟩,
     ⟨(some 5), .mov (.c (.bool false)), none⟩] [0, 1])
   (.seq
    (.seq
     (.reg false [⟨(some 8), .mov (.t 1), none⟩,
       ⟨(some 9), .bin .eql false (.t 8) (.c (.str [])), none⟩] [0, 1, 9])
     (.cond 9
      (.seq
       (.reg false [⟨(some 10), .mov (.t 0), none⟩,
         ⟨(some 11), .mov (.t 0), none⟩,
         ⟨(some 12), .bin .neq false (.t 11) (.c (.str [])), none⟩,
         ⟨(some 4), .mov (.t 10), none⟩,
         ⟨(some 5), .mov (.t 12), none⟩] [4, 5])
       .ret)
      (.reg false [] [0, 1])))
    (.seq
     (.reg false [⟨(some 14), .mov (.t 0), none⟩,
       ⟨(some 15), .mov (.t 1), none⟩,
       ⟨(some 16), .call 39 [(false, (.t 14)), (false, (.t 15))], none⟩,
       ⟨(some 13), .mov (.t 16), none⟩,
       ⟨(some 17), .ext (.t 13) 0, none⟩,
       ⟨(some 18), .ext (.t 13) 1, none⟩,
       ⟨(some 6), .mov (.t 17), none⟩,
       ⟨(some 7), .mov (.t 18), none⟩] [6, 7])
     (.seq
      (.seq
       (.reg false [⟨(some 19), .mov (.t 7), none⟩,
         ⟨(some 20), .un .not (.t 19), none⟩] [6, 20])
       (.cond 20
        (.seq
         (.reg false [⟨(some 4), .mov (.c (.str [])), none⟩,
           ⟨(some 5), .mov (.c (.bool false)), none⟩] [4, 5])
         .ret)
        (.reg false [] [6])))
      (.seq
       (.reg false [⟨(some 21), .mov (.t 6), none⟩,
         ⟨(some 22), .call 39 [(false, (.t 21)), (false, (.c (.str [47])))], none⟩,
         ⟨(some 23), .ext (.t 22) 0, none⟩,
         ⟨(some 24), .ext (.t 22) 1, none⟩,
         ⟨(some 4), .mov (.t 23), none⟩,
         ⟨(some 5), .mov (.t 24), none⟩] [4, 5])
       .ret)))))
def rs28 : List RS := [.tmp 4, .tmp 5]
/-- padlock/under.Below -/
def rc13 : RC :=
  (.seq
   (.reg false [⟨(some 4), .mov (.c (.bool false)), none⟩] [0, 1])
   (.seq
    (.reg false [⟨(some 8), .mov (.t 0), none⟩,
      ⟨(some 9), .mov (.t 1), none⟩,
      ⟨(some 10), .call 28 [(false, (.t 8)), (false, (.t 9))], none⟩,
      ⟨(some 7), .mov (.t 10), none⟩,
      ⟨(some 11), .ext (.t 7) 0, none⟩,
      ⟨(some 12), .ext (.t 7) 1, none⟩,
      ⟨(some 5), .mov (.t 11), none⟩,
      ⟨(some 6), .mov (.t 12), none⟩] [6])
    (.seq
     (.reg false [⟨(some 13), .mov (.t 6), none⟩,
       ⟨(some 4), .mov (.t 13), none⟩] [4])
     .ret)))
def rs13 : List RS := [.tmp 4]
/-- padlock/under.Within -/
def rc11 : RC :=
  (.seq
   (.reg false [⟨(some 4), .mov (.c (.bool false)), none⟩] [0, 1])
   (.seq
    (.reg false [⟨(some 5), .mov (.t 0), none⟩,
      ⟨(some 6), .mov (.t 1), none⟩,
      ⟨(some 7), .bin .eql false (.t 5) (.t 6), none⟩,
      ⟨(some 8), .mov (.t 7), none⟩,
      ⟨(some 9), .mov (.t 0), (some (8, false))⟩,
      ⟨(some 10), .mov (.t 1), (some (8, false))⟩,
      ⟨(some 11), .call 13 [(false, (.t 9)), (false, (.t 10))], (some (8, false))⟩,
      ⟨(some 12), .pick (.t 8) (.c (.bool true)) (.t 11), none⟩,
      ⟨(some 4), .mov (.t 12), none⟩] [4])
    .ret))
def rs11 : List RS := [.tmp 4]
/-- padlock/under.Parent -/
def rc15 : RC :=
  (.seq
   (.reg false [⟨(some 2), .mov (.c (.str [])), none⟩] [0])
   (.seq
    (.reg false [⟨(some 4), .mov (.t 0), none⟩,
      ⟨(some 5), .call 32 [(false, (.t 4)), (false, (.c (.str [47])))], none⟩,
      ⟨(some 3), .mov (.t 5), none⟩] [0, 3])
    (.seq
     (.seq
      (.reg false [⟨(some 6), .mov (.t 3), none⟩,
        ⟨(some 7), .bin .lss true (.t 6) (.c (.int .i64 0)), none⟩] [0, 3, 7])
      (.cond 7
       (.seq
        (.reg false [⟨(some 2), .mov (.c (.str [])), none⟩] [2])
        .ret)
       (.reg false [] [0, 3])))
     (.seq
      (.reg false [⟨(some 8), .mov (.t 0), none⟩,
        ⟨(some 9), .mov (.t 3), none⟩,
        ⟨(some 10), .ssl (.t 8) none (some (.t 9)), none⟩,
        ⟨(some 11), .call 30 [(false, (.t 10))], none⟩,
        ⟨(some 2), .mov (.t 11), none⟩] [2])
      .ret))))
def rs15 : List RS := [.tmp 2]
/-- padlock/under.Child -/
def rc9 : RC :=
  (.seq
   (.reg false [⟨(some 4), .mov (.c (.str [])), none⟩,
     ⟨(some 5), .mov (.c (.bool false)), none⟩] [0, 1])
   (.seq
    (.reg false [⟨(some 10), .mov (.t 0), none⟩,
      ⟨(some 11), .mov (.t 1), none⟩,
      ⟨(some 12), .call 28 [(false, (.t 10)), (false, (.t 11))], none⟩,
      ⟨(some 9), .mov (.t 12), none⟩,
      ⟨(some 13), .ext (.t 9) 0, none⟩,
      ⟨(some 14), .ext (.t 9) 1, none⟩,
      ⟨(some 6), .mov (.t 13), none⟩,
      ⟨(some 7), .mov (.t 14), none⟩] [6, 7])
    (.seq
     (.seq
      (.reg false [⟨(some 15), .mov (.t 7), none⟩,
        ⟨(some 16), .un .not (.t 15), none⟩] [6, 16])
      (.cond 16
       (.seq
        (.reg false [⟨(some 4), .mov (.c (.str [])), none⟩,
          ⟨(some 5), .mov (.c (.bool false)), none⟩] [4, 5])
        .ret)
       (.reg false [] [6])))
     (.seq
      (.seq
       (.reg false [⟨(some 17), .mov (.t 6), none⟩,
         ⟨(some 18), .call 29 [(false, (.t 17)), (false, (.c (.str [47])))], none⟩,
         ⟨(some 8), .mov (.t 18), none⟩] [6, 8])
       (.seq
        (.reg false [⟨(some 19), .mov (.t 8), none⟩,
          ⟨(some 20), .bin .geq true (.t 19) (.c (.int .i64 0)), none⟩] [6, 8, 20])
        (.cond 20
         (.reg false [⟨(some 21), .mov (.t 6), none⟩,
           ⟨(some 22), .mov (.t 8), none⟩,
           ⟨(some 23), .bin .add true (.t 22) (.c (.int .i64 1)), none⟩,
           ⟨(some 24), .ssl (.t 21) none (some (.t 23)), none⟩,
           ⟨(some 6), .mov (.t 24), none⟩] [6])
         (.reg false [] [6]))))
      (.seq
       (.reg false [⟨(some 25), .mov (.t 6), none⟩,
         ⟨(some 26), .call 30 [(false, (.t 25))], none⟩,
         ⟨(some 4), .mov (.t 26), none⟩,
         ⟨(some 5), .mov (.c (.bool true)), none⟩] [4, 5])
       .ret)))))
def rs9 : List RS := [.tmp 4, .tmp 5]
/-- padlock/under.alike -/
def rc33 : RC :=
  (.seq
   (.reg false [⟨(some 4), .mov (.c (.str [])), none⟩] [0, 1])
   (.seq
    (.reg false [⟨(some 5), .mov (.c (.int .i64 0)), none⟩] [0, 1, 5])
    (.seq
     (.block 0
      (.loop
       (.seq
        (.seq
         (.reg true [⟨(some 6), .mov (.t 5), none⟩,
           ⟨(some 7), .mov (.t 0), none⟩,
           ⟨(some 8), .len true (.t 7), none⟩,
           ⟨(some 9), .bin .lss true (.t 6) (.t 8), none⟩,
           ⟨(some 10), .mov (.t 9), none⟩,
           ⟨(some 11), .mov (.t 5), (some (10, true))⟩,
           ⟨(some 12), .mov (.t 1), (some (10, true))⟩,
           ⟨(some 13), .len true (.t 12), (some (10, true))⟩,
           ⟨(some 14), .bin .lss true (.t 11) (.t 13), (some (10, true))⟩,
           ⟨(some 15), .pick (.t 10) (.t 14) (.c (.bool false)), none⟩,
           ⟨(some 16), .mov (.t 15), none⟩,
           ⟨(some 17), .mov (.t 0), (some (16, true))⟩,
           ⟨(some 18), .mov (.t 5), (some (16, true))⟩,
           ⟨(some 19), .sidx (.t 17) (.t 18), (some (16, true))⟩,
           ⟨(some 20), .mov (.t 1), (some (16, true))⟩,
           ⟨(some 21), .mov (.t 5), (some (16, true))⟩,
           ⟨(some 22), .sidx (.t 20) (.t 21), (some (16, true))⟩,
           ⟨(some 23), .bin .eql false (.t 19) (.t 22), (some (16, true))⟩,
           ⟨(some 24), .pick (.t 16) (.t 23) (.c (.bool false)), none⟩] [0, 1, 5, 24])
         (.cond 24
          (.reg false [] [0, 1, 5])
          (.seq
           (.reg false [] [0, 5])
           (.exit 0))))
        (.block 1
         (.reg false [⟨(some 25), .mov (.t 5), none⟩,
           ⟨(some 26), .bin .add true (.t 25) (.c (.int .i64 1)), none⟩,
           ⟨(some 5), .mov (.t 26), none⟩] [0, 1, 5])))))
     (.seq
      (.reg false [⟨(some 27), .mov (.t 0), none⟩,
        ⟨(some 28), .mov (.t 5), none⟩,
        ⟨(some 29), .ssl (.t 27) none (some (.t 28)), none⟩,
        ⟨(some 4), .mov (.t 29), none⟩] [4])
      .ret))))
def rs33 : List RS := [.tmp 4]
/-- padlock/under.Common -/
def rc17 : RC :=
  (.seq
   (.reg false [⟨(some 4), .mov (.c (.str [])), none⟩] [0, 1])
   (.seq
    (.reg false [⟨(some 6), .mov (.t 0), none⟩,
      ⟨(some 7), .mov (.t 1), none⟩,
      ⟨(some 8), .call 33 [(false, (.t 6)), (false, (.t 7))], none⟩,
      ⟨(some 5), .mov (.t 8), none⟩] [0, 1, 5])
    (.seq
     (.seq
      (.reg false [⟨(some 9), .mov (.t 0), none⟩,
        ⟨(some 10), .mov (.t 5), none⟩,
        ⟨(some 11), .call 11 [(false, (.t 9)), (false, (.t 10))], none⟩,
        ⟨(some 12), .mov (.t 11), none⟩,
        ⟨(some 13), .mov (.t 1), (some (12, true))⟩,
        ⟨(some 14), .mov (.t 5), (some (12, true))⟩,
        ⟨(some 15), .call 11 [(false, (.t 13)), (false, (.t 14))], (some (12, true))⟩,
        ⟨(some 16), .pick (.t 12) (.t 15) (.c (.bool false)), none⟩] [5, 16])
      (.cond 16
       (.seq
        (.reg false [⟨(some 17), .mov (.t 5), none⟩,
          ⟨(some 18), .call 30 [(false, (.t 17))], none⟩,
          ⟨(some 4), .mov (.t 18), none⟩] [4])
        .ret)
       (.reg false [] [5])))
     (.seq
      (.reg false [⟨(some 19), .mov (.t 5), none⟩,
        ⟨(some 20), .call 15 [(false, (.t 19))], none⟩,
        ⟨(some 4), .mov (.t 20), none⟩] [4])
      .ret))))
def rs17 : List RS := [.tmp 4]
/-- padlock/under.Longest -/
def rc23 : RC :=
  (.seq
   (.reg false [⟨(some 4), .mov (.c (.int .i64 0)), none⟩] [0, 1])
   (.seq
    (.reg false [⟨(some 5), .mov (.c (.int .i64 (-1))), none⟩] [0, 1, 5])
    (.seq
     (.seq
      (.reg false [⟨(some 8), .mov (.t 1), none⟩,
        ⟨(some 9), .len false (.t 8), none⟩,
        ⟨(some 10), .mov (.c (.int .i64 0)), none⟩] [0, 1, 5, 8, 9, 10])
      (.block 0
       (.loop
        (.seq
         (.reg false [⟨(some 11), .bin .lss true (.t 10) (.t 9), none⟩] [0, 1, 5, 8, 9, 10, 11])
         (.seq
          (.cond 11
           (.reg false [] [0, 1, 5, 8, 9, 10])
           (.seq
            (.reg false [] [5])
            (.exit 0)))
          (.seq
           (.block 1
            (.seq
             (.reg false [⟨(some 12), .mov (.t 10), none⟩,
               ⟨(some 13), .idxA 1 (.t 8) (.t 10), none⟩,
               ⟨(some 14), .loadP (.t 13) 1 false, none⟩,
               ⟨(some 6), .mov (.t 12), none⟩,
               ⟨(some 7), .mov (.t 14), none⟩] [0, 1, 5, 6, 7, 8, 9, 10])
             (.seq
              (.reg false [⟨(some 15), .mov (.t 0), none⟩,
                ⟨(some 16), .mov (.t 7), none⟩,
                ⟨(some 17), .call 11 [(false, (.t 15)), (false, (.t 16))], none⟩,
                ⟨(some 18), .mov (.t 17), none⟩,
                ⟨(some 19), .mov (.t 5), (some (18, true))⟩,
                ⟨(some 20), .bin .lss true (.t 19) (.c (.int .i64 0)), (some (18, true))⟩,
                ⟨(some 21), .mov (.t 20), (some (18, true))⟩,
                ⟨(some 22), .mov (.t 7), (some (21, false))⟩,
                ⟨(some 23), .len true (.t 22), (some (21, false))⟩,
                ⟨(some 24), .mov (.t 1), (some (21, false))⟩,
                ⟨(some 25), .mov (.t 5), (some (21, false))⟩,
                ⟨(some 26), .idxA 1 (.t 24) (.t 25), (some (21, false))⟩,
                ⟨(some 27), .loadP (.t 26) 1 false, (some (21, false))⟩,
                ⟨(some 28), .len true (.t 27), (some (21, false))⟩,
                ⟨(some 29), .bin .gtr true (.t 23) (.t 28), (some (21, false))⟩,
                ⟨(some 30), .pick (.t 21) (.c (.bool true)) (.t 29), (some (18, true))⟩,
                ⟨(some 31), .pick (.t 18) (.t 30) (.c (.bool false)), none⟩] [0, 1, 5, 6, 8, 9, 10, 31])
              (.cond 31
               (.reg false [⟨(some 32), .mov (.t 6), none⟩,
                 ⟨(some 5), .mov (.t 32), none⟩] [0, 1, 5, 8, 9, 10])
               (.reg false [] [0, 1, 5, 8, 9, 10])))))
           (.reg false [⟨(some 33), .bin .add true (.t 10) (.c (.int .i64 1)), none⟩,
             ⟨(some 10), .mov (.t 33), none⟩] [0, 1, 5, 8, 9, 10])))))))
     (.seq
      (.reg false [⟨(some 34), .mov (.t 5), none⟩,
        ⟨(some 4), .mov (.t 34), none⟩] [4])
      .ret))))
def rs23 : List RS := [.tmp 4]
/-- padlock/under.Nested -/
def rc25 : RC :=
  (.seq
   (.reg false [⟨(some 4), .mov (.c (.bool false)), none⟩] [0, 1])
   (.seq
    (.seq
     (.reg false [⟨(some 7), .mov (.t 1), none⟩,
       ⟨(some 8), .len false (.t 7), none⟩,
       ⟨(some 9), .mov (.c (.int .i64 0)), none⟩] [0, 7, 8, 9])
     (.block 0
      (.loop
       (.seq
        (.reg false [⟨(some 10), .bin .lss true (.t 9) (.t 8), none⟩] [0, 7, 8, 9, 10])
        (.seq
         (.cond 10
          (.reg false [] [0, 7, 8, 9])
          (.seq
           (.reg false [] [])
           (.exit 0)))
         (.seq
          (.block 1
           (.seq
            (.reg false [⟨(some 11), .idxA 1 (.t 7) (.t 9), none⟩,
              ⟨(some 12), .loadP (.t 11) 1 false, none⟩,
              ⟨(some 6), .mov (.t 12), none⟩] [0, 6, 7, 8, 9])
            (.seq
             (.reg false [⟨(some 13), .mov (.t 6), none⟩,
               ⟨(some 14), .mov (.t 0), none⟩,
               ⟨(some 15), .call 11 [(false, (.t 13)), (false, (.t 14))], none⟩,
               ⟨(some 16), .mov (.t 15), none⟩,
               ⟨(some 17), .mov (.t 0), (some (16, false))⟩,
               ⟨(some 18), .mov (.t 6), (some (16, false))⟩,
               ⟨(some 19), .call 11 [(false, (.t 17)), (false, (.t 18))], (some (16, false))⟩,
               ⟨(some 20), .pick (.t 16) (.c (.bool true)) (.t 19), none⟩] [0, 7, 8, 9, 20])
             (.cond 20
              (.seq
               (.reg false [⟨(some 4), .mov (.c (.bool true)), none⟩] [4])
               .ret)
              (.reg false [] [0, 7, 8, 9])))))
          (.reg false [⟨(some 21), .bin .add true (.t 9) (.c (.int .i64 1)), none⟩,
            ⟨(some 9), .mov (.t 21), none⟩] [0, 7, 8, 9])))))))
    (.seq
     (.reg false [⟨(some 4), .mov (.c (.bool false)), none⟩] [4])
     .ret)))
def rs25 : List RS := [.tmp 4]
/-- padlock/padlockref05.begins -/
def rc31 : RC :=
  (.seq
   (.reg false [⟨(some 4), .mov (.c (.bool false)), none⟩] [0, 1])
   (.seq
    (.seq
     (.reg false [⟨(some 6), .mov (.t 1), none⟩,
       ⟨(some 7), .len true (.t 6), none⟩,
       ⟨(some 8), .mov (.t 0), none⟩,
       ⟨(some 9), .len true (.t 8), none⟩,
       ⟨(some 10), .bin .gtr true (.t 7) (.t 9), none⟩] [0, 1, 10])
     (.cond 10
      (.seq
       (.reg false [⟨(some 4), .mov (.c (.bool false)), none⟩] [4])
       .ret)
      (.reg false [] [0, 1])))
    (.seq
     (.seq
      (.reg false [⟨(some 5), .mov (.c (.int .i64 0)), none⟩] [0, 1, 5])
      (.block 0
       (.loop
        (.seq
         (.seq
          (.reg false [⟨(some 11), .mov (.t 5), none⟩,
            ⟨(some 12), .mov (.t 1), none⟩,
            ⟨(some 13), .len true (.t 12), none⟩,
            ⟨(some 14), .bin .lss true (.t 11) (.t 13), none⟩] [0, 1, 5, 14])
          (.cond 14
           (.reg false [] [0, 1, 5])
           (.seq
            (.reg false [] [])
            (.exit 0))))
         (.seq
          (.block 1
           (.seq
            (.reg true [⟨(some 17), .mov (.t 0), none⟩,
              ⟨(some 18), .mov (.t 5), none⟩,
              ⟨(some 19), .sidx (.t 17) (.t 18), none⟩,
              ⟨(some 20), .mov (.t 1), none⟩,
              ⟨(some 21), .mov (.t 5), none⟩,
              ⟨(some 22), .sidx (.t 20) (.t 21), none⟩,
              ⟨(some 23), .bin .neq false (.t 19) (.t 22), none⟩] [0, 1, 5, 23])
            (.cond 23
             (.seq
              (.reg false [⟨(some 4), .mov (.c (.bool false)), none⟩] [4])
              .ret)
             (.reg false [] [0, 1, 5]))))
          (.reg false [⟨(some 15), .mov (.t 5), none⟩,
            ⟨(some 16), .bin .add true (.t 15) (.c (.int .i64 1)), none⟩,
            ⟨(some 5), .mov (.t 16), none⟩] [0, 1, 5]))))))
     (.seq
      (.reg false [⟨(some 4), .mov (.c (.bool true)), none⟩] [4])
      .ret))))
def rs31 : List RS := [.tmp 4]
/-- padlock/padlockref05.Within -/
def rc12 : RC :=
  (.seq
   (.reg false [⟨(some 4), .mov (.c (.bool false)), none⟩] [0, 1])
   (.seq
    (.reg false [⟨(some 5), .mov (.t 1), none⟩,
      ⟨(some 6), .bin .eql false (.t 5) (.c (.str [])), none⟩,
      ⟨(some 7), .mov (.t 6), none⟩,
      ⟨(some 8), .mov (.t 0), (some (7, false))⟩,
      ⟨(some 9), .mov (.t 1), (some (7, false))⟩,
      ⟨(some 10), .bin .eql false (.t 8) (.t 9), (some (7, false))⟩,
      ⟨(some 11), .pick (.t 7) (.c (.bool true)) (.t 10), none⟩,
      ⟨(some 12), .mov (.t 11), none⟩,
      ⟨(some 13), .mov (.t 0), (some (12, false))⟩,
      ⟨(some 14), .mov (.t 1), (some (12, false))⟩,
      ⟨(some 15), .bin .add false (.t 14) (.c (.str [47])), (some (12, false))⟩,
      ⟨(some 16), .call 31 [(false, (.t 13)), (false, (.t 15))], (some (12, false))⟩,
      ⟨(some 17), .pick (.t 12) (.c (.bool true)) (.t 16), none⟩,
      ⟨(some 4), .mov (.t 17), none⟩] [4])
    .ret))
def rs12 : List RS := [.tmp 4]
/-- padlock/padlockref05.Below -/
def rc14 : RC :=
  (.seq
   (.reg false [⟨(some 4), .mov (.c (.bool false)), none⟩] [0, 1])
   (.seq
    (.reg false [⟨(some 5), .mov (.t 0), none⟩,
      ⟨(some 6), .mov (.t 1), none⟩,
      ⟨(some 7), .call 12 [(false, (.t 5)), (false, (.t 6))], none⟩,
      ⟨(some 8), .mov (.t 7), none⟩,
      ⟨(some 9), .mov (.t 0), (some (8, true))⟩,
      ⟨(some 10), .mov (.t 1), (some (8, true))⟩,
      ⟨(some 11), .bin .neq false (.t 9) (.t 10), (some (8, true))⟩,
      ⟨(some 12), .pick (.t 8) (.t 11) (.c (.bool false)), none⟩,
      ⟨(some 4), .mov (.t 12), none⟩] [4])
    .ret))
def rs14 : List RS := [.tmp 4]
/-- padlock/padlockref05.Parent -/
def rc16 : RC :=
  (.seq
   (.reg false [⟨(some 2), .mov (.c (.str [])), none⟩] [0])
   (.seq
    (.reg false [⟨(some 3), .mov (.c (.str [])), none⟩] [0, 3])
    (.seq
     (.seq
      (.reg false [⟨(some 4), .mov (.c (.int .i64 0)), none⟩] [0, 3, 4])
      (.block 0
       (.loop
        (.seq
         (.seq
          (.reg false [⟨(some 5), .mov (.t 4), none⟩,
            ⟨(some 6), .mov (.t 0), none⟩,
            ⟨(some 7), .len true (.t 6), none⟩,
            ⟨(some 8), .bin .lss true (.t 5) (.t 7), none⟩] [0, 3, 4, 8])
          (.cond 8
           (.reg false [] [0, 3, 4])
           (.seq
            (.reg false [] [3])
            (.exit 0))))
         (.seq
          (.block 1
           (.seq
            (.reg false [⟨(some 11), .mov (.t 0), none⟩,
              ⟨(some 12), .mov (.t 4), none⟩,
              ⟨(some 13), .sidx (.t 11) (.t 12), none⟩,
              ⟨(some 14), .bin .eql false (.t 13) (.c (.int .u8 47)), none⟩] [0, 3, 4, 14])
            (.cond 14
             (.reg false [⟨(some 15), .mov (.t 0), none⟩,
               ⟨(some 16), .mov (.t 4), none⟩,
               ⟨(some 17), .ssl (.t 15) none (some (.t 16)), none⟩,
               ⟨(some 3), .mov (.t 17), none⟩] [0, 3, 4])
             (.reg false [] [0, 3, 4]))))
          (.reg false [⟨(some 9), .mov (.t 4), none⟩,
            ⟨(some 10), .bin .add true (.t 9) (.c (.int .i64 1)), none⟩,
            ⟨(some 4), .mov (.t 10), none⟩] [0, 3, 4]))))))
     (.seq
      (.reg false [⟨(some 18), .mov (.t 3), none⟩,
        ⟨(some 2), .mov (.t 18), none⟩] [2])
      .ret))))
def rs16 : List RS := [.tmp 2]
/-- padlock/padlockref05.Child -/
def rc10 : RC :=
  (.seq
   (.reg false [⟨(some 4), .mov (.c (.str [])), none⟩,
     ⟨(some 5), .mov (.c (.bool false)), none⟩] [0, 1])
   (.seq
    (.seq
     (.reg false [⟨(some 8), .mov (.t 0), none⟩,
       ⟨(some 9), .mov (.t 1), none⟩,
       ⟨(some 10), .call 14 [(false, (.t 8)), (false, (.t 9))], none⟩,
       ⟨(some 11), .un .not (.t 10), none⟩] [0, 1, 11])
     (.cond 11
      (.seq
       (.reg false [⟨(some 4), .mov (.c (.str [])), none⟩,
         ⟨(some 5), .mov (.c (.bool false)), none⟩] [4, 5])
       .ret)
      (.reg false [] [0, 1])))
    (.seq
     (.reg false [⟨(some 12), .mov (.t 0), none⟩,
       ⟨(some 6), .mov (.t 12), none⟩] [0, 1, 6])
     (.seq
      (.seq
       (.reg false [⟨(some 13), .mov (.t 1), none⟩,
         ⟨(some 14), .bin .neq false (.t 13) (.c (.str [])), none⟩] [0, 1, 6, 14])
       (.cond 14
        (.reg false [⟨(some 15), .mov (.t 0), none⟩,
          ⟨(some 16), .mov (.t 1), none⟩,
          ⟨(some 17), .len true (.t 16), none⟩,
          ⟨(some 18), .bin .add true (.t 17) (.c (.int .i64 1)), none⟩,
          ⟨(some 19), .ssl (.t 15) (some (.t 18)) none, none⟩,
          ⟨(some 6), .mov (.t 19), none⟩] [6])
        (.reg false [] [6])))
      (.seq
       (.seq
        (.reg false [⟨(some 7), .mov (.c (.int .i64 0)), none⟩] [6, 7])
        (.block 0
         (.loop
          (.seq
           (.seq
            (.reg false [⟨(some 20), .mov (.t 7), none⟩,
              ⟨(some 21), .mov (.t 6), none⟩,
              ⟨(some 22), .len true (.t 21), none⟩,
              ⟨(some 23), .bin .lss true (.t 20) (.t 22), none⟩] [6, 7, 23])
            (.cond 23
             (.reg false [] [6, 7])
             (.seq
              (.reg false [] [6])
              (.exit 0))))
           (.seq
            (.block 1
             (.seq
              (.reg false [⟨(some 26), .mov (.t 6), none⟩,
                ⟨(some 27), .mov (.t 7), none⟩,
                ⟨(some 28), .sidx (.t 26) (.t 27), none⟩,
                ⟨(some 29), .bin .eql false (.t 28) (.c (.int .u8 47)), none⟩] [6, 7, 29])
              (.cond 29
               (.seq
                (.reg false [⟨(some 30), .mov (.t 6), none⟩,
                  ⟨(some 31), .mov (.t 7), none⟩,
                  ⟨(some 32), .bin .add true (.t 31) (.c (.int .i64 1)), none⟩,
                  ⟨(some 33), .ssl (.t 30) none (some (.t 32)), none⟩,
                  ⟨(some 4), .mov (.t 33), none⟩,
                  ⟨(some 5), .mov (.c (.bool true)), none⟩] [4, 5])
                .ret)
               (.reg false [] [6, 7]))))
            (.reg false [⟨(some 24), .mov (.t 7), none⟩,
              ⟨(some 25), .bin .add true (.t 24) (.c (.int .i64 1)), none⟩,
              ⟨(some 7), .mov (.t 25), none⟩] [6, 7]))))))
       (.seq
        (.reg false [⟨(some 34), .mov (.t 6), none⟩,
          ⟨(some 4), .mov (.t 34), none⟩,
          ⟨(some 5), .mov (.c (.bool true)), none⟩] [4, 5])
        .ret))))))
def rs10 : List RS := [.tmp 4, .tmp 5]
/-- padlock/padlockref05.Common -/
def rc18 : RC :=
  (.seq
   (.reg false [⟨(some 4), .mov (.c (.str [])), none⟩] [0, 1])
   (.seq
    (.seq
     (.reg false [⟨(some 6), .mov (.t 0), none⟩,
       ⟨(some 7), .len true (.t 6), none⟩,
       ⟨(some 5), .mov (.t 7), none⟩] [0, 1, 5])
     (.block 0
      (.loop
       (.seq
        (.seq
         (.reg false [⟨(some 8), .mov (.t 5), none⟩,
           ⟨(some 9), .bin .gtr true (.t 8) (.c (.int .i64 0)), none⟩] [0, 1, 5, 9])
         (.cond 9
          (.reg false [] [0, 1, 5])
          (.seq
           (.reg false [] [])
           (.exit 0))))
        (.seq
         (.block 1
          (.seq
           (.reg false [⟨(some 12), .mov (.t 0), none⟩,
             ⟨(some 13), .mov (.t 0), none⟩,
             ⟨(some 14), .mov (.t 5), none⟩,
             ⟨(some 15), .ssl (.t 13) none (some (.t 14)), none⟩,
             ⟨(some 16), .call 12 [(false, (.t 12)), (false, (.t 15))], none⟩,
             ⟨(some 17), .mov (.t 16), none⟩,
             ⟨(some 18), .mov (.t 1), (some (17, true))⟩,
             ⟨(some 19), .mov (.t 0), (some (17, true))⟩,
             ⟨(some 20), .mov (.t 5), (some (17, true))⟩,
             ⟨(some 21), .ssl (.t 19) none (some (.t 20)), (some (17, true))⟩,
             ⟨(some 22), .call 12 [(false, (.t 18)), (false, (.t 21))], (some (17, true))⟩,
             ⟨(some 23), .pick (.t 17) (.t 22) (.c (.bool false)), none⟩] [0, 1, 5, 23])
           (.cond 23
            (.seq
             (.reg false [⟨(some 24), .mov (.t 0), none⟩,
               ⟨(some 25), .mov (.t 5), none⟩,
               ⟨(some 26), .ssl (.t 24) none (some (.t 25)), none⟩,
               ⟨(some 4), .mov (.t 26), none⟩] [4])
             .ret)
            (.reg false [] [0, 1, 5]))))
         (.reg false [⟨(some 10), .mov (.t 5), none⟩,
           ⟨(some 11), .bin .sub true (.t 10) (.c (.int .i64 1)), none⟩,
           ⟨(some 5), .mov (.t 11), none⟩] [0, 1, 5]))))))
    (.seq
     (.reg false [⟨(some 4), .mov (.c (.str [])), none⟩] [4])
     .ret)))
def rs18 : List RS := [.tmp 4]
/-- padlock/padlockref05.Longest -/
def rc24 : RC :=
  (.seq
   (.reg false [⟨(some 4), .mov (.c (.int .i64 0)), none⟩] [0, 1])
   (.seq
    (.reg false [⟨(some 5), .mov (.c (.int .i64 (-1))), none⟩] [0, 1, 5])
    (.seq
     (.seq
      (.reg false [⟨(some 6), .mov (.c (.int .i64 0)), none⟩] [0, 1, 5, 6])
      (.block 0
       (.loop
        (.seq
         (.seq
          (.reg false [⟨(some 7), .mov (.t 6), none⟩,
            ⟨(some 8), .mov (.t 1), none⟩,
            ⟨(some 9), .len false (.t 8), none⟩,
            ⟨(some 10), .bin .lss true (.t 7) (.t 9), none⟩] [0, 1, 5, 6, 10])
          (.cond 10
           (.reg false [] [0, 1, 5, 6])
           (.seq
            (.reg false [] [5])
            (.exit 0))))
         (.seq
          (.block 1
           (.seq
            (.reg true [⟨(some 13), .mov (.t 0), none⟩,
              ⟨(some 14), .mov (.t 1), none⟩,
              ⟨(some 15), .mov (.t 6), none⟩,
              ⟨(some 16), .idxA 1 (.t 14) (.t 15), none⟩,
              ⟨(some 17), .loadP (.t 16) 1 false, none⟩,
              ⟨(some 18), .call 12 [(false, (.t 13)), (false, (.t 17))], none⟩,
              ⟨(some 19), .mov (.t 18), none⟩,
              ⟨(some 20), .mov (.t 5), (some (19, true))⟩,
              ⟨(some 21), .bin .lss true (.t 20) (.c (.int .i64 0)), (some (19, true))⟩,
              ⟨(some 22), .mov (.t 21), (some (19, true))⟩,
              ⟨(some 23), .mov (.t 1), (some (22, false))⟩,
              ⟨(some 24), .mov (.t 6), (some (22, false))⟩,
              ⟨(some 25), .idxA 1 (.t 23) (.t 24), (some (22, false))⟩,
              ⟨(some 26), .loadP (.t 25) 1 false, (some (22, false))⟩,
              ⟨(some 27), .len true (.t 26), (some (22, false))⟩,
              ⟨(some 28), .mov (.t 1), (some (22, false))⟩,
              ⟨(some 29), .mov (.t 5), (some (22, false))⟩,
              ⟨(some 30), .idxA 1 (.t 28) (.t 29), (some (22, false))⟩,
              ⟨(some 31), .loadP (.t 30) 1 false, (some (22, false))⟩,
              ⟨(some 32), .len true (.t 31), (some (22, false))⟩,
              ⟨(some 33), .bin .gtr true (.t 27) (.t 32), (some (22, false))⟩,
              ⟨(some 34), .pick (.t 22) (.c (.bool true)) (.t 33), (some (19, true))⟩,
              ⟨(some 35), .pick (.t 19) (.t 34) (.c (.bool false)), none⟩] [0, 1, 5, 6, 35])
            (.cond 35
             (.reg false [⟨(some 36), .mov (.t 6), none⟩,
               ⟨(some 5), .mov (.t 36), none⟩] [0, 1, 5, 6])
             (.reg false [] [0, 1, 5, 6]))))
          (.reg false [⟨(some 11), .mov (.t 6), none⟩,
            ⟨(some 12), .bin .add true (.t 11) (.c (.int .i64 1)), none⟩,
            ⟨(some 6), .mov (.t 12), none⟩] [0, 1, 5, 6]))))))
     (.seq
      (.reg false [⟨(some 37), .mov (.t 5), none⟩,
        ⟨(some 4), .mov (.t 37), none⟩] [4])
      .ret))))
def rs24 : List RS := [.tmp 4]
/-- padlock/padlockref05.Nested -/
def rc26 : RC :=
  (.seq
   (.reg false [⟨(some 4), .mov (.c (.bool false)), none⟩] [0, 1])
   (.seq
    (.seq
     (.reg false [⟨(some 5), .mov (.c (.int .i64 0)), none⟩] [0, 1, 5])
     (.block 0
      (.loop
       (.seq
        (.seq
         (.reg false [⟨(some 6), .mov (.t 5), none⟩,
           ⟨(some 7), .mov (.t 1), none⟩,
           ⟨(some 8), .len false (.t 7), none⟩,
           ⟨(some 9), .bin .lss true (.t 6) (.t 8), none⟩] [0, 1, 5, 9])
         (.cond 9
          (.reg false [] [0, 1, 5])
          (.seq
           (.reg false [] [])
           (.exit 0))))
        (.seq
         (.block 1
          (.seq
           (.reg false [⟨(some 12), .mov (.t 0), none⟩,
             ⟨(some 13), .mov (.t 1), none⟩,
             ⟨(some 14), .mov (.t 5), none⟩,
             ⟨(some 15), .idxA 1 (.t 13) (.t 14), none⟩,
             ⟨(some 16), .loadP (.t 15) 1 false, none⟩,
             ⟨(some 17), .call 12 [(false, (.t 12)), (false, (.t 16))], none⟩,
             ⟨(some 18), .mov (.t 17), none⟩,
             ⟨(some 19), .mov (.t 1), (some (18, false))⟩,
             ⟨(some 20), .mov (.t 5), (some (18, false))⟩,
             ⟨(some 21), .idxA 1 (.t 19) (.t 20), (some (18, false))⟩,
             ⟨(some 22), .loadP (.t 21) 1 false, (some (18, false))⟩,
             ⟨(some 23), .mov (.t 0), (some (18, false))⟩,
             ⟨(some 24), .call 12 [(false, (.t 22)), (false, (.t 23))], (some (18, false))⟩,
             ⟨(some 25), .pick (.t 18) (.c (.bool true)) (.t 24), none⟩] [0, 1, 5, 25])
           (.cond 25
            (.seq
             (.reg false [⟨(some 4), .mov (.c (.bool true)), none⟩] [4])
             .ret)
            (.reg false [] [0, 1, 5]))))
         (.reg false [⟨(some 10), .mov (.t 5), none⟩,
           ⟨(some 11), .bin .add true (.t 10) (.c (.int .i64 1)), none⟩,
           ⟨(some 5), .mov (.t 11), none⟩] [0, 1, 5]))))))
    (.seq
     (.reg false [⟨(some 4), .mov (.c (.bool false)), none⟩] [4])
     .ret)))
def rs26 : List RS := [.tmp 4]
theorem pf28 (s : Tx) (t : Tx)  : PFx Try.prog 28 [.str s, .str t] (.tup [.str (beh s t).1, .bool (beh s t).2]) := by
  refine PFx_of_W (rc := rc28) (rs := rs28) Try.func28 rfl T37_ok hm (by kernel_rfl) (by kernel_rfl) (by simp [Try.ntmps28]) ?_
  by_cases h0 : t = []
  · subst h0
    simp [rc28, rs28, beh]
    cases s <;> simp
  · have he : t.isEmpty = false := by cases t <;> simp_all
    cases hp : t.isPrefixOf s
    · simp [rc28, rs28, beh, h0, hp]
    · cases h4 : [47].isPrefixOf (s.drop t.length)
      · simp [rc28, rs28, beh, h0, hp, cutP, h4]
      · simp [rc28, rs28, beh, h0, hp, cutP, h4, List.drop_drop]
noncomputable def T28 : Tab := tabAdd T37 28 (fun _ : Tx × Tx => True) (fun z => [.str z.1, .str z.2]) (fun z => .tup [.str (beh z.1 z.2).1, .bool (beh z.1 z.2).2])
@[simp] theorem T28_eq (s : Tx) (t : Tx)  : T28 28 [.str s, .str t] = some (.tup [.str (beh s t).1, .bool (beh s t).2]) := tabAdd_eq (a := (s, t)) (by simp +contextual [Int.natCast_inj]) trivial rfl
@[simp] theorem T28_ne {g : Nat} {xs : List AV} (h : g ≠ 28) : T28 g xs = T37 g xs := tabAdd_ne h
theorem T28_ok : Sound Try.prog T28 := tabAdd_sound T37_ok fun z _ => pf28 z.1 z.2 
theorem pf13 (s : Tx) (t : Tx)  : PFx Try.prog 13 [.str s, .str t] (.bool (be s t)) := by
  refine PFx_of_W (rc := rc13) (rs := rs13) Try.func13 rfl T28_ok hm (by kernel_rfl) (by kernel_rfl) (by simp [Try.ntmps13]) ?_
  simp [rc13, rs13, beh_2]
noncomputable def T13 : Tab := tabAdd T28 13 (fun _ : Tx × Tx => True) (fun z => [.str z.1, .str z.2]) (fun z => .bool (be z.1 z.2))
@[simp] theorem T13_eq (s : Tx) (t : Tx)  : T13 13 [.str s, .str t] = some (.bool (be s t)) := tabAdd_eq (a := (s, t)) (by simp +contextual [Int.natCast_inj]) trivial rfl
@[simp] theorem T13_ne {g : Nat} {xs : List AV} (h : g ≠ 13) : T13 g xs = T28 g xs := tabAdd_ne h
theorem T13_ok : Sound Try.prog T13 := tabAdd_sound T28_ok fun z _ => pf13 z.1 z.2 
theorem wi_be (s t : Tx) : (decide (s = t) || be s t) = wi s t := by
  unfold be
  by_cases h : s = t
  · subst h; simp [wi_self]
  · simp [h]
theorem pf11 (s : Tx) (t : Tx)  : PFx Try.prog 11 [.str s, .str t] (.bool (wi s t)) := by
  refine PFx_of_W (rc := rc11) (rs := rs11) Try.func11 rfl T13_ok hm (by kernel_rfl) (by kernel_rfl) (by simp [Try.ntmps11]) ?_
  rw [← wi_be]
  by_cases h : s = t <;> simp [rc11, rs11, h]
noncomputable def T11 : Tab := tabAdd T13 11 (fun _ : Tx × Tx => True) (fun z => [.str z.1, .str z.2]) (fun z => .bool (wi z.1 z.2))
@[simp] theorem T11_eq (s : Tx) (t : Tx)  : T11 11 [.str s, .str t] = some (.bool (wi s t)) := tabAdd_eq (a := (s, t)) (by simp +contextual [Int.natCast_inj]) trivial rfl
@[simp] theorem T11_ne {g : Nat} {xs : List AV} (h : g ≠ 11) : T11 g xs = T13 g xs := tabAdd_ne h
theorem T11_ok : Sound Try.prog T11 := tabAdd_sound T13_ok fun z _ => pf11 z.1 z.2 
theorem pf15 (s : Tx) (h : s.length ≤ 1000000) : PFx Try.prog 15 [.str s] (.str (par s)) := by
  refine PFx_of_W (rc := rc15) (rs := rs15) Try.func15 rfl T11_ok hm (by kernel_rfl) (by kernel_rfl) (by simp [Try.ntmps15]) ?_
  rcases par_lx s s.length (Nat.le_refl _) with ⟨h1, h2⟩ | ⟨h1, h2, h3⟩
  · simp [rc15, rs15, h, lx, h1, par, h2]
  · have h4 : ¬ lxK s s.length < 0 := by omega
    have h5 : (s.take (lxK s s.length).toNat).length ≤ 1000000 := by simp; omega
    have q := T30_eq (s.take (lxK s s.length).toNat) h5
    simp [rc15, rs15, h, lx, par, h3, h4, q]
    omega
noncomputable def T15 : Tab := tabAdd T11 15 (fun z : Tx => z.length ≤ 1000000) (fun z => [.str z]) (fun z => .str (par z))
@[simp] theorem T15_eq (s : Tx) (h : s.length ≤ 1000000) : T15 15 [.str s] = some (.str (par s)) := tabAdd_eq (a := s) (by simp +contextual [Int.natCast_inj]) h rfl
@[simp] theorem T15_ne {g : Nat} {xs : List AV} (h : g ≠ 15) : T15 g xs = T11 g xs := tabAdd_ne h
theorem T15_ok : Sound Try.prog T15 := tabAdd_sound T11_ok fun z h => pf15 z h
theorem rest_len (s t : Tx) : (rest s t).length ≤ s.length := by unfold rest; split <;> simp
theorem pf9 (s : Tx) (t : Tx) (h : s.length ≤ 1000000) : PFx Try.prog 9 [.str s, .str t] (.tup [.str (child s t), .bool (be s t)]) := by
  refine PFx_of_W (rc := rc9) (rs := rs9) Try.func9 rfl T15_ok hm (by kernel_rfl) (by kernel_rfl) (by simp [Try.ntmps9]) ?_
  have hr := rest_len s t
  by_cases hb : be s t = true
  · have h1 := beh_1 s t hb
    have h2 := beh_2 s t
    by_cases h3 : fst47 (rest s t) < (rest s t).length
    · have h4 : ix (rest s t) = fst47 (rest s t) := by unfold ix; rw [if_pos h3]
      have h5 : (comp (rest s t)).length ≤ 1000000 := by have := comp_len (rest s t); omega
      have h6 : ((fst47 (rest s t) : Int) + 1).toNat = fst47 (rest s t) + 1 := by omega
      have h7 := T30_eq (comp (rest s t)) h5
      unfold comp at h7
      simp [rc9, rs9, hb, h1, h2, child, h4, h6, h7, comp]
      omega
    · have h4 : ix (rest s t) = -1 := by unfold ix; rw [if_neg h3]
      have h5 : comp (rest s t) = rest s t := by unfold comp; rw [List.take_of_length_le (by omega)]
      have h7 := T30_eq (rest s t) (by omega)
      simp [rc9, rs9, hb, h1, h2, child, h4, h5, h7]
  · have h2 : (beh s t).2 = false := by rw [beh_2]; simpa using hb
    have hb' : be s t = false := by simpa using hb
    simp [rc9, rs9, hb', h2, child]
noncomputable def T9 : Tab := tabAdd T15 9 (fun z : Tx × Tx => z.1.length ≤ 1000000) (fun z => [.str z.1, .str z.2]) (fun z => .tup [.str (child z.1 z.2), .bool (be z.1 z.2)])
@[simp] theorem T9_eq (s : Tx) (t : Tx) (h : s.length ≤ 1000000) : T9 9 [.str s, .str t] = some (.tup [.str (child s t), .bool (be s t)]) := tabAdd_eq (a := (s, t)) (by simp +contextual [Int.natCast_inj]) h rfl
@[simp] theorem T9_ne {g : Nat} {xs : List AV} (h : g ≠ 9) : T9 g xs = T15 g xs := tabAdd_ne h
theorem T9_ok : Sound Try.prog T9 := tabAdd_sound T15_ok fun z h => pf9 z.1 z.2 h
theorem lcpN_at : ∀ (a b : Tx) (k : Nat), (∀ i, i < k → i < a.length ∧ i < b.length ∧ a[i]? = b[i]?) → ¬ (k < a.length ∧ k < b.length ∧ a[k]? = b[k]?) → k ≤ a.length → lcpN a b = k
  | [], b, k, h, h', hk => by simp at hk; simp [lcpN, hk]
  | x :: a, [], k, h, h', hk => by
    rcases Nat.eq_zero_or_pos k with rfl | h0
    · simp [lcpN]
    · have := h 0 h0; simp at this
  | x :: a, y :: b, 0, h, h', hk => by
    simp at h'
    simp [lcpN, h']
  | x :: a, y :: b, k + 1, h, h', hk => by
    have h0 := h 0 (by omega)
    simp at h0
    subst h0
    simp only [lcpN, if_true]
    rw [lcpN_at a b k (fun i hi => by have := h (i + 1) (by omega); simpa using this) (fun hh => h' (by simpa using hh)) (by simpa using hk)]
theorem pf33 (a : Tx) (b : Tx) (h : a.length ≤ 1000000) : PFx Try.prog 33 [.str a, .str b] (.str (a.take (lcpN a b))) := by
  refine PFx_of_W (rc := rc33) (rs := rs33) Try.func33 rfl T9_ok hm (by kernel_rfl) (by kernel_rfl) (by simp [Try.ntmps33]) ?_
  simp [rc33, rs33]
  have hl := lcp_le a b
  refine W_forU (lcpN a b) (fun _ => True) (fun k => [(5, .int .i64 k)]) trivial (by simp) (fun k hk _ => ?_) fun _ => ?_
  · have h1 : k < a.length := by omega
    have h2 : k < b.length := by omega
    have h3 := lcp_get hk
    rw [List.getElem?_eq_getElem h1, List.getElem?_eq_getElem h2] at h3
    simp only [Option.some.injEq] at h3
    simp [h1, h2, h3]
    omega
  · by_cases h1 : lcpN a b < a.length
    · by_cases h2 : lcpN a b < b.length
      · have h3 : ¬ a[lcpN a b] = b[lcpN a b] := by
          intro e
          have := lcp_most a b (a.take (lcpN a b + 1)) (List.take_prefix _ _) (by
            rw [List.take_add_one, lcp_take, List.getElem?_eq_getElem h1, e, ← List.getElem?_eq_getElem h2, ← List.take_add_one]; exact List.take_prefix _ _)
          simp at this
          omega
        simp [h1, h2, h3]
        omega
      · simp [h1, h2]
        omega
    · simp [h1]
      omega
noncomputable def T33 : Tab := tabAdd T9 33 (fun z : Tx × Tx => z.1.length ≤ 1000000) (fun z => [.str z.1, .str z.2]) (fun z => .str (z.1.take (lcpN z.1 z.2)))
@[simp] theorem T33_eq (a : Tx) (b : Tx) (h : a.length ≤ 1000000) : T33 33 [.str a, .str b] = some (.str (a.take (lcpN a b))) := tabAdd_eq (a := (a, b)) (by simp +contextual [Int.natCast_inj]) h rfl
@[simp] theorem T33_ne {g : Nat} {xs : List AV} (h : g ≠ 33) : T33 g xs = T9 g xs := tabAdd_ne h
theorem T33_ok : Sound Try.prog T33 := tabAdd_sound T9_ok fun z h => pf33 z.1 z.2 h
theorem pf17 (a : Tx) (b : Tx) (h : a.length ≤ 1000000) : PFx Try.prog 17 [.str a, .str b] (.str (com a b)) := by
  refine PFx_of_W (rc := rc17) (rs := rs17) Try.func17 rfl T33_ok hm (by kernel_rfl) (by kernel_rfl) (by simp [Try.ntmps17]) ?_
  have e := com_eq a b
  have hl : (a.take (lcpN a b)).length ≤ 1000000 := by simp; omega
  have q := T33_eq a b h
  generalize a.take (lcpN a b) = m at e hl q
  cases h1 : wi a m
  · simp [rc17, rs17, q, h1, e, hl, -T33_eq]
  · cases h2 : wi b m <;> simp [rc17, rs17, q, h1, h2, e, hl, -T33_eq]
noncomputable def T17 : Tab := tabAdd T33 17 (fun z : Tx × Tx => z.1.length ≤ 1000000) (fun z => [.str z.1, .str z.2]) (fun z => .str (com z.1 z.2))
@[simp] theorem T17_eq (a : Tx) (b : Tx) (h : a.length ≤ 1000000) : T17 17 [.str a, .str b] = some (.str (com a b)) := tabAdd_eq (a := (a, b)) (by simp +contextual [Int.natCast_inj]) h rfl
@[simp] theorem T17_ne {g : Nat} {xs : List AV} (h : g ≠ 17) : T17 g xs = T33 g xs := tabAdd_ne h
theorem T17_ok : Sound Try.prog T17 := tabAdd_sound T33_ok fun z h => pf17 z.1 z.2 h
/-- Of the first k: where the longest stands that s is within. -/
def lonK (s : Tx) (l : List Tx) : Nat → Int
  | 0 => -1
  | k + 1 => if wi s (l.getD k []) && (decide (lonK s l k < 0) || decide ((l.getD (lonK s l k).toNat []).length < (l.getD k []).length)) then (k : Int) else lonK s l k
theorem lonK_lt (s : Tx) (l : List Tx) : ∀ k, -1 ≤ lonK s l k ∧ lonK s l k < k
  | 0 => by simp [lonK]
  | k + 1 => by
    have := lonK_lt s l k
    unfold lonK
    split <;> omega
def lon (s : Tx) (l : List Tx) : Int := lonK s l l.length
theorem pf23 (s : Tx) (l : List Tx) (h : l.length ≤ 1000000) : PFx Try.prog 23 [.str s, .sl (l.map .str) l.length] (.int .i64 (lon s l)) := by
  refine PFx_of_W (rc := rc23) (rs := rs23) Try.func23 rfl T17_ok hm (by kernel_rfl) (by kernel_rfl) (by simp [Try.ntmps23]) ?_
  simp [rc23, rs23]
  refine W_forU l.length (fun _ => True) (fun k => [(5, .int .i64 (lonK s l k)), (10, .int .i64 k)]) trivial (by simp [lonK]) (fun k hk _ => ?_) fun _ => ?_
  · have hb := lonK_lt s l k
    have e1 : l.getD k [] = l[k] := by simp [List.getD, hk]
    by_cases h0 : lonK s l k < 0
    · cases h1 : wi s l[k] <;> simp [hk, h0, h1, lonK, e1] <;> omega
    · have h2 : (lonK s l k).toNat < l.length := by omega
      have h3 : lonK s l k < l.length := by omega
      have h4 : 0 ≤ lonK s l k := by omega
      have e2 : l.getD (lonK s l k).toNat [] = l[(lonK s l k).toNat] := by simp [List.getD, h2]
      cases h1 : wi s l[k]
      · simp [hk, h0, h1, lonK, e1] ; omega
      · by_cases h5 : l[(lonK s l k).toNat].length < l[k].length
        · have h5' : (l[(lonK s l k).toNat].length : Int) < l[k].length := by omega
          simp [hk, h0, h1, h2, h3, h4, h5, h5', lonK, e1, e2]; omega
        · have h5' : ¬ (l[(lonK s l k).toNat].length : Int) < l[k].length := by omega
          simp [hk, h0, h1, h2, h3, h4, h5, h5', lonK, e1, e2]; omega
  · simp [lon]
noncomputable def T23 : Tab := tabAdd T17 23 (fun z : Tx × (List Tx) => z.2.length ≤ 1000000) (fun z => [.str z.1, .sl (z.2.map .str) z.2.length]) (fun z => .int .i64 (lon z.1 z.2))
@[simp] theorem T23_eq (s : Tx) (l : List Tx) (h : l.length ≤ 1000000) : T23 23 [.str s, .sl (l.map .str) l.length] = some (.int .i64 (lon s l)) := tabAdd_eq (a := (s, l)) (by simp +contextual [Int.natCast_inj]) h rfl
@[simp] theorem T23_ne {g : Nat} {xs : List AV} (h : g ≠ 23) : T23 g xs = T17 g xs := tabAdd_ne h
theorem T23_ok : Sound Try.prog T23 := tabAdd_sound T17_ok fun z h => pf23 z.1 z.2 h
def nest (s : Tx) (l : List Tx) : Bool := l.any fun x => wi x s || wi s x
theorem pf25 (s : Tx) (l : List Tx) (h : l.length ≤ 1000000) : PFx Try.prog 25 [.str s, .sl (l.map .str) l.length] (.bool (nest s l)) := by
  refine PFx_of_W (rc := rc25) (rs := rs25) Try.func25 rfl T23_ok hm (by kernel_rfl) (by kernel_rfl) (by simp [Try.ntmps25]) ?_
  simp [rc25, rs25]
  refine W_forU l.length (fun k => ∀ x ∈ l.take k, (wi x s || wi s x) = false) (fun k => [(9, .int .i64 k)]) (by simp) (by simp) (fun k hk hp => ?_) fun hp => ?_
  · cases h1 : wi l[k] s
    · cases h2 : wi s l[k]
      · simp [hk, h1, h2]
        exact ⟨by omega, by omega, fun x hx => by simpa using take_all (fun x => (wi x s || wi s x) = false) hk hp (by simp [h1, h2]) x hx⟩
      · simp [hk, h1, h2]
        exact ⟨by omega, List.any_eq_true.2 ⟨_, List.getElem_mem hk, by simp [h2]⟩⟩
    · simp [hk, h1]
      exact ⟨by omega, List.any_eq_true.2 ⟨_, List.getElem_mem hk, by simp [h1]⟩⟩
  · simp
    rw [List.take_length] at hp
    unfold nest
    rw [List.any_eq_false]
    exact fun x hx => by simpa using hp x hx
noncomputable def T25 : Tab := tabAdd T23 25 (fun z : Tx × (List Tx) => z.2.length ≤ 1000000) (fun z => [.str z.1, .sl (z.2.map .str) z.2.length]) (fun z => .bool (nest z.1 z.2))
@[simp] theorem T25_eq (s : Tx) (l : List Tx) (h : l.length ≤ 1000000) : T25 25 [.str s, .sl (l.map .str) l.length] = some (.bool (nest s l)) := tabAdd_eq (a := (s, l)) (by simp +contextual [Int.natCast_inj]) h rfl
@[simp] theorem T25_ne {g : Nat} {xs : List AV} (h : g ≠ 25) : T25 g xs = T23 g xs := tabAdd_ne h
theorem T25_ok : Sound Try.prog T25 := tabAdd_sound T23_ok fun z h => pf25 z.1 z.2 h
theorem pf31 (s : Tx) (t : Tx) (h : t.length ≤ 1000001) : PFx Try.prog 31 [.str s, .str t] (.bool (t.isPrefixOf s)) := by
  refine PFx_of_W (rc := rc31) (rs := rs31) Try.func31 rfl T25_ok hm (by kernel_rfl) (by kernel_rfl) (by simp [Try.ntmps31]) ?_
  by_cases hl : s.length < t.length
  · have hp : t.isPrefixOf s = false := by
      cases hh : t.isPrefixOf s
      · rfl
      · have := (pre_iff.1 hh).length_le; omega
    have hl' : (s.length : Int) < t.length := by omega
    simp [rc31, rs31, hl', hp]
  · have hl' : ¬ (s.length : Int) < t.length := by omega
    simp [rc31, rs31, hl']
    refine W_forU t.length (fun k => t.take k = s.take k) (fun k => [(5, .int .i64 k)]) (by simp) (by simp) (fun k hk hp => ?_) fun hp => ?_
    · have hs : k < s.length := by omega
      by_cases he : s[k] = t[k]
      · simp [hk, hs, he]
        exact ⟨by omega, by rw [take_one t k hk, take_one s k hs, hp, he]⟩
      · have hf : t.isPrefixOf s = false := by
          cases hh : t.isPrefixOf s
          · rfl
          · exfalso
            obtain ⟨u, rfl⟩ := pre_iff.1 hh
            exact he (by rw [List.getElem_append_left])
        simp [hk, hs, he, hf]
    · simp
      rw [List.take_length] at hp
      have hpre : t <+: s := by rw [hp]; exact List.take_prefix _ _
      simp [hpre]
noncomputable def T31 : Tab := tabAdd T25 31 (fun z : Tx × Tx => z.2.length ≤ 1000001) (fun z => [.str z.1, .str z.2]) (fun z => .bool (z.2.isPrefixOf z.1))
@[simp] theorem T31_eq (s : Tx) (t : Tx) (h : t.length ≤ 1000001) : T31 31 [.str s, .str t] = some (.bool (t.isPrefixOf s)) := tabAdd_eq (a := (s, t)) (by simp +contextual [Int.natCast_inj]) h rfl
@[simp] theorem T31_ne {g : Nat} {xs : List AV} (h : g ≠ 31) : T31 g xs = T25 g xs := tabAdd_ne h
theorem T31_ok : Sound Try.prog T31 := tabAdd_sound T25_ok fun z h => pf31 z.1 z.2 h
theorem pf12 (s : Tx) (t : Tx) (h : t.length ≤ 1000000) : PFx Try.prog 12 [.str s, .str t] (.bool (wi s t)) := by
  refine PFx_of_W (rc := rc12) (rs := rs12) Try.func12 rfl T31_ok hm (by kernel_rfl) (by kernel_rfl) (by simp [Try.ntmps12]) ?_
  by_cases h0 : t = []
  · subst h0; simp [rc12, rs12, wi]
  · by_cases h1 : s = t
    · subst h1; simp [rc12, rs12, wi, h0]
    · simp [rc12, rs12, wi, h, h0, h1]
      omega
noncomputable def T12 : Tab := tabAdd T31 12 (fun z : Tx × Tx => z.2.length ≤ 1000000) (fun z => [.str z.1, .str z.2]) (fun z => .bool (wi z.1 z.2))
@[simp] theorem T12_eq (s : Tx) (t : Tx) (h : t.length ≤ 1000000) : T12 12 [.str s, .str t] = some (.bool (wi s t)) := tabAdd_eq (a := (s, t)) (by simp +contextual [Int.natCast_inj]) h rfl
@[simp] theorem T12_ne {g : Nat} {xs : List AV} (h : g ≠ 12) : T12 g xs = T31 g xs := tabAdd_ne h
theorem T12_ok : Sound Try.prog T12 := tabAdd_sound T31_ok fun z h => pf12 z.1 z.2 h
theorem pf14 (s : Tx) (t : Tx) (h : t.length ≤ 1000000) : PFx Try.prog 14 [.str s, .str t] (.bool (be s t)) := by
  refine PFx_of_W (rc := rc14) (rs := rs14) Try.func14 rfl T12_ok hm (by kernel_rfl) (by kernel_rfl) (by simp [Try.ntmps14]) ?_
  cases h1 : wi s t <;> simp [rc14, rs14, h, h1, be]
noncomputable def T14 : Tab := tabAdd T12 14 (fun z : Tx × Tx => z.2.length ≤ 1000000) (fun z => [.str z.1, .str z.2]) (fun z => .bool (be z.1 z.2))
@[simp] theorem T14_eq (s : Tx) (t : Tx) (h : t.length ≤ 1000000) : T14 14 [.str s, .str t] = some (.bool (be s t)) := tabAdd_eq (a := (s, t)) (by simp +contextual [Int.natCast_inj]) h rfl
@[simp] theorem T14_ne {g : Nat} {xs : List AV} (h : g ≠ 14) : T14 g xs = T12 g xs := tabAdd_ne h
theorem T14_ok : Sound Try.prog T14 := tabAdd_sound T12_ok fun z h => pf14 z.1 z.2 h
theorem pf16 (s : Tx) (h : s.length ≤ 1000000) : PFx Try.prog 16 [.str s] (.str (par s)) := by
  refine PFx_of_W (rc := rc16) (rs := rs16) Try.func16 rfl T14_ok hm (by kernel_rfl) (by kernel_rfl) (by simp [Try.ntmps16]) ?_
  simp [rc16, rs16]
  refine W_forU s.length (fun _ => True) (fun k => [(3, .str (parK s k)), (4, .int .i64 k)]) trivial (by simp [parK]) (fun k hk _ => ?_) fun _ => ?_
  · have e : (s[k]? = some 47) = (s[k] = 47) := by rw [List.getElem?_eq_getElem hk]; simp
    by_cases h4 : s[k] = 47
    · simp [hk, h4, parK]; omega
    · have h5 : ¬ (s[k].toNat : Int) = 47 := by
        intro hh; apply h4; apply UInt8.toNat_inj.1; show s[k].toNat = 47; omega
      simp [hk, h4, h5, parK]; omega
  · simp [par]
noncomputable def T16 : Tab := tabAdd T14 16 (fun z : Tx => z.length ≤ 1000000) (fun z => [.str z]) (fun z => .str (par z))
@[simp] theorem T16_eq (s : Tx) (h : s.length ≤ 1000000) : T16 16 [.str s] = some (.str (par s)) := tabAdd_eq (a := s) (by simp +contextual [Int.natCast_inj]) h rfl
@[simp] theorem T16_ne {g : Nat} {xs : List AV} (h : g ≠ 16) : T16 g xs = T14 g xs := tabAdd_ne h
theorem T16_ok : Sound Try.prog T16 := tabAdd_sound T14_ok fun z h => pf16 z h
theorem fst_at (l : Tx) (k : Nat) (hk : k < l.length) (h : ∀ i, (hi : i < k) → l[i] ≠ 47) : (l[k] = 47 → fst47 l = k) ∧ k ≤ fst47 l := by
  have key : ∀ (l : Tx) (k : Nat) (hk : k ≤ l.length), (∀ i, (hi : i < k) → l[i] ≠ 47) → k ≤ (l.takeWhile (· != 47)).length := by
    intro l
    induction l with
    | nil => intro k hk _; simpa using hk
    | cons x l ih =>
      intro k hk h
      cases k with
      | zero => exact Nat.zero_le _
      | succ k =>
        have h0 := h 0 (by omega)
        simp at h0
        rw [List.takeWhile_cons, if_pos (by simpa using h0)]
        have := ih k (by simpa using hk) fun i hi => by have := h (i + 1) (by omega); simpa using this
        simpa using this
  have h1 := key l k (by omega) h
  refine ⟨fun h4 => ?_, h1⟩
  have h2 : fst47 l ≤ k := by
    rcases Nat.lt_or_ge k (fst47 l) with hlt | hge
    · exfalso
      have hp : (l.takeWhile (· != 47)) <+: l := List.takeWhile_prefix _
      have e : (l.takeWhile (· != 47))[k]'hlt = l[k] := hp.getElem hlt
      have : ∀ (l : Tx), ∀ x ∈ l.takeWhile (· != 47), x ≠ 47 := by
        intro l
        induction l with
        | nil => intro x hx; simp at hx
        | cons y l ih =>
          intro x hx
          rw [List.takeWhile_cons] at hx
          split at hx
          · rename_i hy
            rcases List.mem_cons.1 hx with rfl | hx
            · simpa using hy
            · exact ih x hx
          · cases hx
      exact this l _ (List.getElem_mem hlt) (e.trans h4)
    · exact hge
  exact Nat.le_antisymm h2 h1
theorem fst_none (l : Tx) (h : ∀ x ∈ l, x ≠ 47) : comp l = l := by
  unfold comp
  rw [List.take_of_length_le]
  have : fst47 l = l.length := by
    unfold fst47
    have := List.takeWhile_append_of_pos (p := (· != 47)) (l₁ := l) (l₂ := []) (by simpa using h)
    simp only [List.append_nil, List.takeWhile_nil] at this
    rw [this]
  omega
theorem pf10 (s : Tx) (t : Tx) (h : s.length ≤ 1000000 ∧ t.length ≤ 1000000) : PFx Try.prog 10 [.str s, .str t] (.tup [.str (child s t), .bool (be s t)]) := by
  refine PFx_of_W (rc := rc10) (rs := rs10) Try.func10 rfl T16_ok hm (by kernel_rfl) (by kernel_rfl) (by simp [Try.ntmps10]) ?_
  obtain ⟨hs, ht⟩ := h
  cases hb : be s t
  · simp [rc10, rs10, ht, hb, child]
  · have hr := rest_len s t
    have hlt : t = [] ∨ t.length + 1 ≤ s.length := by
      unfold be at hb
      simp only [Bool.and_eq_true, Bool.not_eq_true', decide_eq_false_iff_not] at hb
      rcases wi_iff.1 hb.1 with h1 | h1 | h1
      · exact .inl h1
      · exact (hb.2 h1).elim
      · right; simpa using h1.length_le
    have fin : ∀ (l : Tx), l = rest s t → child s t = comp l := fun l e => by unfold child; rw [if_pos hb, e]
    by_cases h0 : t = []
    · subst h0
      have e1 := fin s (by simp [rest])
      simp [rc10, rs10, hb]
      refine W_forU s.length (fun k => ∀ i, (hi : i < k) → (hi2 : i < s.length) → s[i] ≠ 47) (fun k => [(7, .int .i64 k)]) (by intro i hi; omega) (by simp) (fun k hk hp => ?_) fun hp => ?_
      · obtain ⟨f1, f2⟩ := fst_at s k hk fun i hi => hp i hi (by omega)
        by_cases h4 : s[k] = 47
        · have e2 : s.take (k + 1) = comp s := by unfold comp; rw [f1 h4]
          have e3 : ((k : Int) + 1).toNat = k + 1 := by omega
          simp [hk, h4, e1, e3, e2]
          omega
        · have h5 : ¬ (s[k].toNat : Int) = 47 := by
            intro hh; apply h4; apply UInt8.toNat_inj.1; show s[k].toNat = 47; omega
          simp [hk, h4, h5]
          refine ⟨by omega, fun i hi hi2 => ?_⟩
          rcases Nat.lt_or_eq_of_le (Nat.le_of_lt_succ hi) with h' | rfl
          · exact hp i h' hi2
          · exact h4
      · have e2 : comp s = s := fst_none s fun x hx => by
          obtain ⟨i, hi, rfl⟩ := List.mem_iff_getElem.1 hx
          exact hp i hi hi
        simp [e1, e2]
    · have hle := hlt.resolve_left h0
      have e0 : (t.length : Int) + 1 ≤ s.length := by omega
      have e00 : ((t.length : Int) + 1).toNat = t.length + 1 := by omega
      have he : t.isEmpty = false := by cases t <;> simp_all
      have e1 := fin (s.drop (t.length + 1)) (by simp [rest, he])
      simp [rc10, rs10, ht, hb, h0, e0, e00]
      refine ⟨by omega, by omega, ?_⟩
      have hu : (s.drop (t.length + 1)).length ≤ 1000000 := by simp; omega
      generalize s.drop (t.length + 1) = u at e1 hu
      refine W_forU u.length (fun k => ∀ i, (hi : i < k) → (hi2 : i < u.length) → u[i] ≠ 47) (fun k => [(7, .int .i64 k)]) (by intro i hi; omega) (by simp) (fun k hk hp => ?_) fun hp => ?_
      · obtain ⟨f1, f2⟩ := fst_at u k hk fun i hi => hp i hi (by omega)
        by_cases h4 : u[k] = 47
        · have e2 : u.take (k + 1) = comp u := by unfold comp; rw [f1 h4]
          have e3 : ((k : Int) + 1).toNat = k + 1 := by omega
          simp [hk, h4, e1, e3, e2]
          omega
        · have h5 : ¬ (u[k].toNat : Int) = 47 := by
            intro hh; apply h4; apply UInt8.toNat_inj.1; show u[k].toNat = 47; omega
          simp [hk, h4, h5]
          refine ⟨by omega, fun i hi hi2 => ?_⟩
          rcases Nat.lt_or_eq_of_le (Nat.le_of_lt_succ hi) with h' | rfl
          · exact hp i h' hi2
          · exact h4
      · have e2 : comp u = u := fst_none u fun x hx => by
          obtain ⟨i, hi, rfl⟩ := List.mem_iff_getElem.1 hx
          exact hp i hi hi
        simp [e1, e2]
noncomputable def T10 : Tab := tabAdd T16 10 (fun z : Tx × Tx => z.1.length ≤ 1000000 ∧ z.2.length ≤ 1000000) (fun z => [.str z.1, .str z.2]) (fun z => .tup [.str (child z.1 z.2), .bool (be z.1 z.2)])
@[simp] theorem T10_eq (s : Tx) (t : Tx) (h : s.length ≤ 1000000 ∧ t.length ≤ 1000000) : T10 10 [.str s, .str t] = some (.tup [.str (child s t), .bool (be s t)]) := tabAdd_eq (a := (s, t)) (by simp +contextual [Int.natCast_inj]) h rfl
@[simp] theorem T10_ne {g : Nat} {xs : List AV} (h : g ≠ 10) : T10 g xs = T16 g xs := tabAdd_ne h
theorem T10_ok : Sound Try.prog T10 := tabAdd_sound T16_ok fun z h => pf10 z.1 z.2 h
end Go.Proofs.Ytnhelmnenhphjaa

