/- The program's entry: a value taken of bytes. -/
import Derived.Test.YtbikpgaiocjnoaaY2
set_option linter.unusedVariables false
set_option linter.unusedSimpArgs false
namespace Go.Proofs.Ytbikpgaiocjnoaa
open Go.Proofs.Ytbikpgaiocjnoaa.Pad Go.Proofs.Ytbikpgaiocjnoaa.Pad.En
theorem nm_inj {α : Type} {f : List (Tx × Vl) → Nat → Tx → Int → Int → α} : ∀ z z' : List (Tx × Vl) × Nat × Tx × Int × Int, [AV.agg [.str z.2.2.1, .int .i64 z.2.2.2.1, .int .i64 z.2.2.2.2], .mrow 2 (prs ids z.1) z.1.length, .int .i64 z.2.1] = [AV.agg [.str z'.2.2.1, .int .i64 z'.2.2.2.1, .int .i64 z'.2.2.2.2], .mrow 2 (prs ids z'.1) z'.1.length, .int .i64 z'.2.1] → f z.1 z.2.1 z.2.2.1 z.2.2.2.1 z.2.2.2.2 = f z'.1 z'.2.1 z'.2.2.1 z'.2.2.2.1 z'.2.2.2.2 := by
  rintro ⟨l, i, t, a, b⟩ ⟨l', i', t', a', b'⟩ h
  simp only [List.cons.injEq, AV.agg.injEq, AV.str.injEq, AV.mrow.injEq, AV.int.injEq, true_and, and_true, Int.natCast_inj] at h
  obtain ⟨⟨h1, h2, h3⟩, ⟨h4, _⟩, h5⟩ := h
  rw [h1, h2, h3, prs_inj ids ids_apart _ _ h4, h5]
/-- padlock/entry.fail -/
def rc48 : RC :=
  (.seq
   (.reg false [⟨(some 2), .box (.t 0), none⟩,
     ⟨(some 4), .alloc [(.str []), (.int .i64 0), (.int .i64 0)], none⟩] [1, 2, 4])
   (.seq
    (.reg false [⟨(some 5), .mov (.t 1), none⟩,
      ⟨(some 6), .fldB 2 2, none⟩,
      ⟨none, .stR 6 2 1 (.t 5), none⟩] [2, 4])
    (.seq
     (.reg false [⟨(some 7), .loadB 2 3 true, none⟩,
       ⟨none, .stB 4 3 (.t 7), none⟩] [4])
     .ret)))
def rs48 : List RS := [.cell 4 3 true]
/-- padlock/entry.takeCount -/
def rc66 : RC :=
  (.seq
   (.reg false [⟨(some 2), .box (.t 0), none⟩,
     ⟨(some 4), .mov (.c (.int .i64 0)), none⟩,
     ⟨(some 5), .alloc [(.str []), (.int .i64 0), (.int .i64 0)], none⟩] [1, 2, 5])
   (.seq
    (.reg false [⟨(some 9), .loadB 2 3 true, none⟩,
      ⟨(some 10), .call 44 [(false, (.t 9)), (false, (.c (.int .i64 1)))], none⟩,
      ⟨(some 8), .mov (.t 10), none⟩,
      ⟨(some 11), .ext (.t 8) 0, none⟩,
      ⟨(some 12), .ext (.t 8) 1, none⟩,
      ⟨(some 6), .mov (.t 11), none⟩,
      ⟨none, .stB 2 3 (.t 12), none⟩] [1, 2, 5, 6])
    (.seq
     (.seq
      (.reg false [⟨(some 13), .mov (.t 6), none⟩,
        ⟨(some 14), .conv true .i64 (.t 13), none⟩,
        ⟨(some 15), .mov (.t 1), none⟩,
        ⟨(some 16), .call 61 [(false, (.t 14)), (false, (.t 15))], none⟩,
        ⟨(some 7), .mov (.t 16), none⟩] [2, 5, 6, 7])
      (.seq
       (.reg false [⟨(some 17), .mov (.t 7), none⟩,
         ⟨(some 18), .bin .neq true (.t 17) (.c (.int .i64 0)), none⟩] [2, 5, 6, 7, 18])
       (.cond 18
        (.seq
         (.reg false [⟨(some 19), .loadB 2 3 true, none⟩,
           ⟨(some 20), .mov (.t 7), none⟩,
           ⟨(some 21), .call 48 [(false, (.t 19)), (false, (.t 20))], none⟩,
           ⟨(some 4), .mov (.c (.int .i64 0)), none⟩,
           ⟨none, .stB 5 3 (.t 21), none⟩] [4, 5])
         .ret)
        (.reg false [] [2, 5, 6]))))
     (.seq
      (.reg true [⟨(some 22), .mov (.t 6), none⟩,
        ⟨(some 23), .conv true .i64 (.t 22), none⟩,
        ⟨(some 24), .loadB 2 3 true, none⟩,
        ⟨(some 4), .mov (.t 23), none⟩,
        ⟨none, .stB 5 3 (.t 24), none⟩] [4, 5])
      .ret))))
def rs66 : List RS := [.tmp 4, .cell 5 3 true]
/-- padlock/entry.takeName -/
def rc67 : RC :=
  (.seq
   (.reg false [⟨(some 3), .box (.t 0), none⟩,
     ⟨(some 6), .alloc [(.str []), (.int .i64 0), (.int .i64 0)], none⟩] [1, 2, 3, 6])
   (.seq
    (.reg false [⟨(some 9), .loadB 3 3 true, none⟩,
      ⟨(some 10), .call 45 [(false, (.t 9))], none⟩,
      ⟨(some 8), .mov (.t 10), none⟩,
      ⟨(some 11), .ext (.t 8) 0, none⟩,
      ⟨(some 12), .ext (.t 8) 1, none⟩,
      ⟨(some 7), .mov (.t 11), none⟩,
      ⟨none, .stB 3 3 (.t 12), none⟩] [1, 2, 3, 6, 7])
    (.seq
     (.seq
      (.reg false [⟨(some 13), .fldB 3 2, none⟩,
        ⟨(some 14), .loadR 13 3 1 false, none⟩,
        ⟨(some 15), .bin .neq true (.t 14) (.c (.int .i64 0)), none⟩] [1, 2, 3, 6, 7, 15])
      (.cond 15
       (.seq
        (.reg false [⟨(some 16), .loadB 3 3 true, none⟩,
          ⟨none, .stB 6 3 (.t 16), none⟩] [1, 6])
        .ret)
       (.reg false [] [1, 2, 3, 6, 7])))
     (.seq
      (.reg false [⟨(some 17), .al 1, none⟩,
        ⟨(some 18), .mov (.t 2), none⟩,
        ⟨(some 19), .mov (.t 7), none⟩,
        ⟨(some 20), .idxM 17 1 2 (.t 18), none⟩,
        ⟨(some 21), .fldR 20 1 0, none⟩,
        ⟨none, .stR 21 1 1 (.t 19), none⟩] [1, 2, 3, 6])
      (.seq
       (.reg true [⟨(some 22), .loadB 3 3 true, none⟩,
         ⟨(some 23), .al 1, none⟩,
         ⟨(some 24), .mov (.t 2), none⟩,
         ⟨(some 25), .callL 62 [(some (1, 2), (.t 23)), (none, (.t 24))], none⟩,
         ⟨(some 26), .call 48 [(false, (.t 22)), (false, (.t 25))], none⟩,
         ⟨none, .stB 6 3 (.t 26), none⟩] [1, 6])
       .ret)))))
def rs67 : List RS := [.cell 6 3 true]
/-- padlock/entry.take -/
def rc32 : RC :=
  (.seq
   (.reg false [⟨(some 2), .box (.t 0), none⟩,
     ⟨(some 4), .mov (.c .nilI), none⟩,
     ⟨(some 5), .alloc [(.str []), (.int .i64 0), (.int .i64 0)], none⟩] [1, 2, 5])
   (.seq
    (.reg false [⟨(some 12), .loadB 2 3 true, none⟩,
      ⟨(some 13), .call 44 [(false, (.t 12)), (false, (.c (.int .i64 1)))], none⟩,
      ⟨(some 11), .mov (.t 13), none⟩,
      ⟨(some 14), .ext (.t 11) 0, none⟩,
      ⟨(some 15), .ext (.t 11) 1, none⟩,
      ⟨(some 6), .mov (.t 14), none⟩,
      ⟨none, .stB 2 3 (.t 15), none⟩] [1, 2, 5, 6])
    (.seq
     (.seq
      (.reg false [⟨(some 16), .fldB 2 2, none⟩,
        ⟨(some 17), .loadR 16 2 1 false, none⟩,
        ⟨(some 18), .bin .neq true (.t 17) (.c (.int .i64 0)), none⟩] [1, 2, 5, 6, 18])
      (.cond 18
       (.seq
        (.reg true [⟨(some 19), .loadB 2 3 true, none⟩,
          ⟨(some 4), .mov (.c .nilI), none⟩,
          ⟨none, .stB 5 3 (.t 19), none⟩] [4, 5])
        .ret)
       (.reg false [] [1, 2, 5, 6])))
     (.seq
      (.seq
       (.reg false [⟨(some 20), .mov (.t 6), none⟩] [1, 2, 5, 20])
       (.block 0
        (.seq
         (.reg false [⟨(some 22), .bin .eql false (.t 20) (.c (.int .u64 0)), none⟩,
           ⟨(some 21), .mov (.t 22), none⟩] [1, 2, 5, 20, 21])
         (.cond 21
          (.seq
           (.reg true [⟨(some 23), .loadB 2 3 true, none⟩,
             ⟨(some 4), .mov (.c .nilI), none⟩,
             ⟨none, .stB 5 3 (.t 23), none⟩] [4, 5])
           .ret)
          (.seq
           (.reg false [⟨(some 25), .bin .eql false (.t 20) (.c (.int .u64 1)), none⟩,
             ⟨(some 24), .mov (.t 25), none⟩] [1, 2, 5, 20, 24])
           (.cond 24
            (.seq
             (.reg true [⟨(some 26), .mkI 4 (.c (.bool false)), none⟩,
               ⟨(some 27), .loadB 2 3 true, none⟩,
               ⟨(some 4), .mov (.t 26), none⟩,
               ⟨none, .stB 5 3 (.t 27), none⟩] [4, 5])
             .ret)
            (.seq
             (.reg false [⟨(some 29), .bin .eql false (.t 20) (.c (.int .u64 2)), none⟩,
               ⟨(some 28), .mov (.t 29), none⟩] [1, 2, 5, 20, 28])
             (.cond 28
              (.seq
               (.reg true [⟨(some 30), .mkI 4 (.c (.bool true)), none⟩,
                 ⟨(some 31), .loadB 2 3 true, none⟩,
                 ⟨(some 4), .mov (.t 30), none⟩,
                 ⟨none, .stB 5 3 (.t 31), none⟩] [4, 5])
               .ret)
              (.seq
               (.reg false [⟨(some 33), .bin .eql false (.t 20) (.c (.int .u64 3)), none⟩,
                 ⟨(some 32), .mov (.t 33), none⟩] [1, 2, 5, 20, 32])
               (.cond 32
                (.seq
                 (.reg false [⟨(some 35), .loadB 2 3 true, none⟩,
                   ⟨(some 36), .call 44 [(false, (.t 35)), (false, (.c (.int .i64 8)))], none⟩,
                   ⟨(some 34), .mov (.t 36), none⟩,
                   ⟨(some 37), .ext (.t 34) 0, none⟩,
                   ⟨(some 38), .ext (.t 34) 1, none⟩,
                   ⟨(some 8), .alloc [(.str []), (.int .i64 0), (.int .i64 0)], none⟩,
                   ⟨(some 7), .mov (.t 37), none⟩,
                   ⟨none, .stB 8 3 (.t 38), none⟩] [5, 7, 8])
                 (.seq
                  (.reg true [⟨(some 39), .mov (.t 7), none⟩,
                    ⟨(some 40), .mkI 22 (.t 39), none⟩,
                    ⟨(some 41), .loadB 8 3 true, none⟩,
                    ⟨(some 4), .mov (.t 40), none⟩,
                    ⟨none, .stB 5 3 (.t 41), none⟩] [4, 5])
                  .ret))
                (.seq
                 (.reg false [⟨(some 43), .bin .eql false (.t 20) (.c (.int .u64 4)), none⟩,
                   ⟨(some 42), .mov (.t 43), none⟩] [1, 2, 5, 20, 42])
                 (.cond 42
                  (.seq
                   (.reg false [⟨(some 45), .loadB 2 3 true, none⟩,
                     ⟨(some 46), .call 45 [(false, (.t 45))], none⟩,
                     ⟨(some 44), .mov (.t 46), none⟩,
                     ⟨(some 47), .ext (.t 44) 0, none⟩,
                     ⟨(some 48), .ext (.t 44) 1, none⟩,
                     ⟨(some 10), .alloc [(.str []), (.int .i64 0), (.int .i64 0)], none⟩,
                     ⟨(some 9), .mov (.t 47), none⟩,
                     ⟨none, .stB 10 3 (.t 48), none⟩] [5, 9, 10])
                   (.seq
                    (.reg true [⟨(some 49), .mov (.t 9), none⟩,
                      ⟨(some 50), .mkI 9 (.t 49), none⟩,
                      ⟨(some 51), .loadB 10 3 true, none⟩,
                      ⟨(some 4), .mov (.t 50), none⟩,
                      ⟨none, .stB 5 3 (.t 51), none⟩] [4, 5])
                    .ret))
                  (.seq
                   (.reg false [⟨(some 53), .bin .eql false (.t 20) (.c (.int .u64 5)), none⟩,
                     ⟨(some 52), .mov (.t 53), none⟩] [1, 2, 5, 20, 52])
                   (.cond 52
                    (.seq
                     (.reg false [⟨(some 54), .loadB 2 3 true, none⟩,
                       ⟨(some 55), .mov (.t 1), none⟩,
                       ⟨(some 56), .call 46 [(false, (.t 54)), (false, (.t 55))], none⟩,
                       ⟨(some 57), .ext (.t 56) 0, none⟩,
                       ⟨(some 58), .ext (.t 56) 1, none⟩,
                       ⟨(some 59), .mkI 57 (.t 57), none⟩,
                       ⟨(some 4), .mov (.t 59), none⟩,
                       ⟨none, .stB 5 3 (.t 58), none⟩] [4, 5])
                     .ret)
                    (.seq
                     (.reg false [⟨(some 61), .bin .eql false (.t 20) (.c (.int .u64 6)), none⟩,
                       ⟨(some 60), .mov (.t 61), none⟩] [1, 2, 5, 60])
                     (.cond 60
                      (.seq
                       (.reg false [⟨(some 62), .loadB 2 3 true, none⟩,
                         ⟨(some 63), .mov (.t 1), none⟩,
                         ⟨(some 64), .call 47 [(false, (.t 62)), (false, (.t 63))], none⟩,
                         ⟨(some 65), .ext (.t 64) 0, none⟩,
                         ⟨(some 66), .ext (.t 64) 1, none⟩,
                         ⟨(some 67), .mkI 61 (.t 65), none⟩,
                         ⟨(some 4), .mov (.t 67), none⟩,
                         ⟨none, .stB 5 3 (.t 66), none⟩] [4, 5])
                       .ret)
                      (.reg false [] [2, 5])))))))))))))))))
      (.seq
       (.reg false [⟨(some 68), .loadB 2 3 true, none⟩,
         ⟨(some 69), .call 48 [(false, (.t 68)), (false, (.c (.int .i64 22)))], none⟩,
         ⟨(some 4), .mov (.c .nilI), none⟩,
         ⟨none, .stB 5 3 (.t 69), none⟩] [4, 5])
       .ret)))))
def rs32 : List RS := [.tmp 4, .cell 5 3 true]
/-- padlock/entry.takeList -/
def rc46 : RC :=
  (.seq
   (.reg false [⟨(some 2), .box (.t 0), none⟩,
     ⟨(some 4), .nilR 1, none⟩,
     ⟨(some 5), .alloc [(.str []), (.int .i64 0), (.int .i64 0)], none⟩] [1, 2, 5])
   (.seq
    (.reg false [⟨(some 10), .loadB 2 3 true, none⟩,
      ⟨(some 11), .mov (.t 1), none⟩,
      ⟨(some 12), .call 66 [(false, (.t 10)), (false, (.t 11))], none⟩,
      ⟨(some 9), .mov (.t 12), none⟩,
      ⟨(some 13), .ext (.t 9) 0, none⟩,
      ⟨(some 14), .ext (.t 9) 1, none⟩,
      ⟨(some 6), .mov (.t 13), none⟩,
      ⟨none, .stB 2 3 (.t 14), none⟩] [1, 2, 5, 6])
    (.seq
     (.reg false [⟨(some 15), .mov (.t 6), none⟩,
       ⟨(some 16), .makeM 1 16 [.nilI] (.t 15) (.t 15), none⟩,
       ⟨(some 7), .stealM 16, none⟩] [1, 2, 5, 6, 7])
     (.seq
      (.seq
       (.reg false [⟨(some 8), .mov (.c (.int .i64 0)), none⟩] [1, 2, 5, 6, 7, 8])
       (.block 0
        (.loop
         (.seq
          (.seq
           (.reg false [⟨(some 17), .mov (.t 8), none⟩,
             ⟨(some 18), .mov (.t 6), none⟩,
             ⟨(some 19), .bin .lss true (.t 17) (.t 18), none⟩,
             ⟨(some 20), .mov (.t 19), none⟩,
             ⟨(some 21), .fldB 2 2, (some (20, true))⟩,
             ⟨(some 22), .loadR 21 2 1 false, (some (20, true))⟩,
             ⟨(some 23), .bin .eql true (.t 22) (.c (.int .i64 0)), (some (20, true))⟩,
             ⟨(some 24), .pick (.t 20) (.t 23) (.c (.bool false)), none⟩] [1, 2, 5, 6, 7, 8, 24])
           (.cond 24
            (.reg false [] [1, 2, 5, 6, 7, 8])
            (.seq
             (.reg false [] [2, 5, 7])
             (.exit 0))))
          (.seq
           (.block 1
            (.reg false [⟨(some 28), .al 7, none⟩,
              ⟨(some 29), .mov (.t 8), none⟩,
              ⟨(some 30), .loadB 2 3 true, none⟩,
              ⟨(some 31), .mov (.t 1), none⟩,
              ⟨(some 32), .bin .add true (.t 31) (.c (.int .i64 1)), none⟩,
              ⟨(some 33), .call 32 [(false, (.t 30)), (false, (.t 32))], none⟩,
              ⟨(some 27), .mov (.t 33), none⟩,
              ⟨(some 34), .ext (.t 27) 0, none⟩,
              ⟨(some 35), .ext (.t 27) 1, none⟩,
              ⟨(some 36), .idxM 28 7 1 (.t 29), none⟩,
              ⟨none, .stR 36 7 1 (.t 34), none⟩,
              ⟨none, .stB 2 3 (.t 35), none⟩] [1, 2, 5, 6, 7, 8]))
           (.reg false [⟨(some 25), .mov (.t 8), none⟩,
             ⟨(some 26), .bin .add true (.t 25) (.c (.int .i64 1)), none⟩,
             ⟨(some 8), .mov (.t 26), none⟩] [1, 2, 5, 6, 7, 8]))))))
      (.seq
       (.reg true [⟨(some 37), .frz 7, none⟩,
         ⟨(some 38), .loadB 2 3 true, none⟩,
         ⟨(some 4), .steal 37, none⟩,
         ⟨none, .stB 5 3 (.t 38), none⟩] [4, 5])
       .ret)))))
def rs46 : List RS := [.tmp 4, .cell 5 3 true]
/-- padlock/entry.takePairs -/
def rc47 : RC :=
  (.seq
   (.reg false [⟨(some 2), .box (.t 0), none⟩,
     ⟨(some 4), .nilR 2, none⟩,
     ⟨(some 5), .alloc [(.str []), (.int .i64 0), (.int .i64 0)], none⟩] [1, 2, 5])
   (.seq
    (.reg false [⟨(some 10), .loadB 2 3 true, none⟩,
      ⟨(some 11), .mov (.t 1), none⟩,
      ⟨(some 12), .call 66 [(false, (.t 10)), (false, (.t 11))], none⟩,
      ⟨(some 9), .mov (.t 12), none⟩,
      ⟨(some 13), .ext (.t 9) 0, none⟩,
      ⟨(some 14), .ext (.t 9) 1, none⟩,
      ⟨(some 6), .mov (.t 13), none⟩,
      ⟨none, .stB 2 3 (.t 14), none⟩] [1, 2, 5, 6])
    (.seq
     (.reg false [⟨(some 15), .mov (.t 6), none⟩,
       ⟨(some 16), .makeM 2 32 [(.str []), .nilI] (.t 15) (.t 15), none⟩,
       ⟨(some 7), .stealM 16, none⟩] [1, 2, 5, 6, 7])
     (.seq
      (.seq
       (.reg false [⟨(some 8), .mov (.c (.int .i64 0)), none⟩] [1, 2, 5, 6, 7, 8])
       (.block 0
        (.loop
         (.seq
          (.seq
           (.reg false [⟨(some 17), .mov (.t 8), none⟩,
             ⟨(some 18), .mov (.t 6), none⟩,
             ⟨(some 19), .bin .lss true (.t 17) (.t 18), none⟩,
             ⟨(some 20), .mov (.t 19), none⟩,
             ⟨(some 21), .fldB 2 2, (some (20, true))⟩,
             ⟨(some 22), .loadR 21 2 1 false, (some (20, true))⟩,
             ⟨(some 23), .bin .eql true (.t 22) (.c (.int .i64 0)), (some (20, true))⟩,
             ⟨(some 24), .pick (.t 20) (.t 23) (.c (.bool false)), none⟩] [1, 2, 5, 6, 7, 8, 24])
           (.cond 24
            (.reg false [] [1, 2, 5, 6, 7, 8])
            (.seq
             (.reg false [] [2, 5, 7])
             (.exit 0))))
          (.seq
           (.block 1
            (.seq
             (.reg false [⟨(some 27), .loadB 2 3 true, none⟩,
               ⟨(some 28), .al 7, none⟩,
               ⟨(some 29), .mov (.t 8), none⟩,
               ⟨(some 30), .callB 67 [(false, (.t 27)), (true, (.t 28)), (false, (.t 29))] 7, none⟩,
               ⟨none, .stB 2 3 (.t 30), none⟩] [1, 2, 5, 6, 7, 8])
             (.reg false [⟨(some 32), .al 7, none⟩,
               ⟨(some 33), .mov (.t 8), none⟩,
               ⟨(some 34), .loadB 2 3 true, none⟩,
               ⟨(some 35), .mov (.t 1), none⟩,
               ⟨(some 36), .bin .add true (.t 35) (.c (.int .i64 1)), none⟩,
               ⟨(some 37), .call 32 [(false, (.t 34)), (false, (.t 36))], none⟩,
               ⟨(some 31), .mov (.t 37), none⟩,
               ⟨(some 38), .ext (.t 31) 0, none⟩,
               ⟨(some 39), .ext (.t 31) 1, none⟩,
               ⟨(some 40), .idxM 32 7 2 (.t 33), none⟩,
               ⟨(some 41), .fldR 40 7 1, none⟩,
               ⟨none, .stR 41 7 1 (.t 38), none⟩,
               ⟨none, .stB 2 3 (.t 39), none⟩] [1, 2, 5, 6, 7, 8])))
           (.reg false [⟨(some 25), .mov (.t 8), none⟩,
             ⟨(some 26), .bin .add true (.t 25) (.c (.int .i64 1)), none⟩,
             ⟨(some 8), .mov (.t 26), none⟩] [1, 2, 5, 6, 7, 8]))))))
      (.seq
       (.reg true [⟨(some 42), .frz 7, none⟩,
         ⟨(some 43), .loadB 2 3 true, none⟩,
         ⟨(some 4), .steal 42, none⟩,
         ⟨none, .stB 5 3 (.t 43), none⟩] [4, 5])
       .ret)))))
def rs47 : List RS := [.tmp 4, .cell 5 3 true]
/-- padlock/entry.Take -/
def rc15 : RC :=
  (.seq
   (.reg false [⟨(some 2), .mov (.c .nilI), none⟩,
     ⟨(some 3), .mov (.c (.int .i64 0)), none⟩] [0])
   (.seq
    (.reg false [⟨(some 8), .mov (.t 0), none⟩,
      ⟨(some 9), .build [(.str []), (.int .i64 0), (.int .i64 0)] [(0, 1, (.t 8))], none⟩,
      ⟨(some 10), .call 32 [(false, (.t 9)), (false, (.c (.int .i64 0)))], none⟩,
      ⟨(some 7), .mov (.t 10), none⟩,
      ⟨(some 11), .ext (.t 7) 0, none⟩,
      ⟨(some 12), .ext (.t 7) 1, none⟩,
      ⟨(some 5), .alloc [(.str []), (.int .i64 0), (.int .i64 0)], none⟩,
      ⟨(some 4), .mov (.t 11), none⟩,
      ⟨none, .stB 5 3 (.t 12), none⟩] [4, 5])
    (.seq
     (.seq
      (.reg false [⟨(some 13), .loadB 5 3 true, none⟩,
        ⟨(some 14), .call 33 [(false, (.t 13))], none⟩,
        ⟨(some 6), .mov (.t 14), none⟩] [4, 6])
      (.seq
       (.reg false [⟨(some 15), .mov (.t 6), none⟩,
         ⟨(some 16), .bin .neq true (.t 15) (.c (.int .i64 0)), none⟩] [4, 6, 16])
       (.cond 16
        (.seq
         (.reg false [⟨(some 17), .mov (.t 6), none⟩,
           ⟨(some 2), .mov (.c .nilI), none⟩,
           ⟨(some 3), .mov (.t 17), none⟩] [2, 3])
         .ret)
        (.reg false [] [4]))))
     (.seq
      (.reg false [⟨(some 18), .mov (.t 4), none⟩,
        ⟨(some 2), .mov (.t 18), none⟩,
        ⟨(some 3), .mov (.c (.int .i64 0)), none⟩] [2, 3])
      .ret))))
def rs15 : List RS := [.tmp 2, .tmp 3]
theorem pf48 (t : Tx) (a : Int) (b : Int) (e : Int)  : PFx Try.prog 48 [.agg [.str t, .int .i64 a, .int .i64 b], .int .i64 e] (.agg [.str t, .int .i64 a, .int .i64 e]) := by
  refine PFx_of_W (rc := rc48) (rs := rs48) Try.func48 rfl T11_ok hm (by kernel_rfl) (by kernel_rfl) (by simp [Try.ntmps48]) ?_
  simp [rc48, rs48]
noncomputable def T48 : Tab := tabAdd T11 48 (fun _ : Tx × Int × Int × Int => True) (fun z => [.agg [.str z.1, .int .i64 z.2.1, .int .i64 z.2.2.1], .int .i64 z.2.2.2]) (fun z => .agg [.str z.1, .int .i64 z.2.1, .int .i64 z.2.2.2])
@[simp] theorem T48_eq (t : Tx) (a : Int) (b : Int) (e : Int)  : T48 48 [.agg [.str t, .int .i64 a, .int .i64 b], .int .i64 e] = some (.agg [.str t, .int .i64 a, .int .i64 e]) := tabAdd_eq (a := (t, a, b, e)) (by simp +contextual [Int.natCast_inj]) trivial rfl
@[simp] theorem T48_ne {g : Nat} {xs : List AV} (h : g ≠ 48) : T48 g xs = T11 g xs := tabAdd_ne h
theorem T48_ok : Sound Try.prog T48 := tabAdd_sound T11_ok fun z _ => pf48 z.1 z.2.1 z.2.2.1 z.2.2.2 
theorem pf66 (t : Tx) (a : Int) (b : Int) (d : Nat) (h : d ≤ 4 ∧ t.length ≤ 1000000) : PFx Try.prog 66 [.agg [.str t, .int .i64 a, .int .i64 b], .int .i64 d] (.tup [.int .i64 (countP (4 - d) t a b).1, .agg [.str t, .int .i64 (countP (4 - d) t a b).2.1, .int .i64 (countP (4 - d) t a b).2.2]]) := by
  refine PFx_of_W (rc := rc66) (rs := rs66) Try.func66 rfl T48_ok hm (by kernel_rfl) (by kernel_rfl) (by simp [Try.ntmps66]) ?_
  obtain ⟨hd, ht⟩ := h
  have q := T44_eq t a b 1 ht
  have hlt := takeNum_lt (t := t) (a := a) (b := b) 1
  rw [show ((1 : Nat) : Int) = 1 from rfl] at hlt
  unfold countP
  generalize takeNum t a b 1 = r at q hlt ⊢
  obtain ⟨n, a1, b1⟩ := r
  simp only at q hlt ⊢
  by_cases h0 : 4 ≤ d
  · have e : 4 - d = 0 := by omega
    simp [rc66, rs66, q, h0, e]
    omega
  have e : ¬ 4 - d = 0 := by omega
  by_cases h1 : 64 < n
  · simp [rc66, rs66, q, h0, e, h1]
    omega
  · simp [rc66, rs66, q, h0, e, h1]
    omega
noncomputable def T66 : Tab := tabAdd T48 66 (fun z : Tx × Int × Int × Nat => z.2.2.2 ≤ 4 ∧ z.1.length ≤ 1000000) (fun z => [.agg [.str z.1, .int .i64 z.2.1, .int .i64 z.2.2.1], .int .i64 z.2.2.2]) (fun z => .tup [.int .i64 (countP (4 - z.2.2.2) z.1 z.2.1 z.2.2.1).1, .agg [.str z.1, .int .i64 (countP (4 - z.2.2.2) z.1 z.2.1 z.2.2.1).2.1, .int .i64 (countP (4 - z.2.2.2) z.1 z.2.1 z.2.2.1).2.2]])
@[simp] theorem T66_eq (t : Tx) (a : Int) (b : Int) (d : Nat) (h : d ≤ 4 ∧ t.length ≤ 1000000) : T66 66 [.agg [.str t, .int .i64 a, .int .i64 b], .int .i64 d] = some (.tup [.int .i64 (countP (4 - d) t a b).1, .agg [.str t, .int .i64 (countP (4 - d) t a b).2.1, .int .i64 (countP (4 - d) t a b).2.2]]) := tabAdd_eq (a := (t, a, b, d)) (tk_inj (f := fun t a b d => AV.tup [.int .i64 (countP (4 - d) t a b).1, .agg [.str t, .int .i64 (countP (4 - d) t a b).2.1, .int .i64 (countP (4 - d) t a b).2.2]])) h rfl
@[simp] theorem T66_ne {g : Nat} {xs : List AV} (h : g ≠ 66) : T66 g xs = T48 g xs := tabAdd_ne h
theorem T66_ok : Sound Try.prog T66 := tabAdd_sound T48_ok fun z h => pf66 z.1 z.2.1 z.2.2.1 z.2.2.2 h
theorem pf67B (l : List (Tx × Vl)) (i : Nat) (t : Tx) (a : Int) (b : Int) (h : i < l.length ∧ l.length ≤ 1000 ∧ t.length ≤ 1000000) : PFb Try.prog 67 [.agg [.str t, .int .i64 a, .int .i64 b], .mrow 2 (prs ids l) l.length, .int .i64 i] (.agg [.str t, .int .i64 (takeRow t a b).2.1, .int .i64 (nameS l i t a b)]) (.mrow 2 (prs ids (nameL l i t a b)) l.length) := by
  refine PFb_of_W (rc := rc67) (rs := rs67) 1 Try.func67 rfl T66_ok hm (by kernel_rfl) (by kernel_rfl) rfl (by simp [Try.ntmps67]) rfl rfl ?_
  obtain ⟨hi, hl, ht⟩ := h
  have q := T45_eq t a b ht
  unfold nameS nameL
  generalize takeRow t a b = r at q ⊢
  obtain ⟨s, a1, b1⟩ := r
  simp only at q ⊢
  by_cases hb : b1 = 0
  · subst hb
    obtain ⟨x, y, p, z, e1, e2⟩ : ∃ x y p z, l = x ++ (y, p) :: z ∧ x.length = i := ⟨l.take i, l[i].1, l[i].2, l.drop (i + 1), by rw [← drop_eq l i hi]; exact (List.take_append_drop ..).symm, by simp; omega⟩
    subst e2
    have hs := prs_mid ids x z y s p
    have q2 := T62_eq (x ++ (s, p) :: z) x.length ⟨by simp, by simp [e1] at hl; simp; omega⟩
    have e3 : (x ++ (s, p) :: z).length = l.length := by rw [e1]; simp
    have e4 : l.set x.length (s, (l.getD x.length ([], .nil)).2) = x ++ (s, p) :: z := by rw [e1]; simp
    have hi' : (x.length : Int) < l.length := by omega
    rw [e3] at q2
    rw [e4]
    have h2 : x.length * 2 + 1 ≤ l.length * 2 := by omega
    rw [← e1] at hs
    simp [rc67, rs67, q, q2, hi', h2, hs, -splice]
  · simp [rc67, rs67, q, hb]
noncomputable def T67B : Tab := tabAdd T66 (67 + inPlace) (fun z : (List (Tx × Vl)) × Nat × Tx × Int × Int => z.2.1 < z.1.length ∧ z.1.length ≤ 1000 ∧ z.2.2.1.length ≤ 1000000) (fun z => [.agg [.str z.2.2.1, .int .i64 z.2.2.2.1, .int .i64 z.2.2.2.2], .mrow 2 (prs ids z.1) z.1.length, .int .i64 z.2.1]) (fun z => .tup [.agg [.str z.2.2.1, .int .i64 (takeRow z.2.2.1 z.2.2.2.1 z.2.2.2.2).2.1, .int .i64 (nameS z.1 z.2.1 z.2.2.1 z.2.2.2.1 z.2.2.2.2)], .mrow 2 (prs ids (nameL z.1 z.2.1 z.2.2.1 z.2.2.2.1 z.2.2.2.2)) z.1.length])
@[simp] theorem T67B_eq (l : List (Tx × Vl)) (i : Nat) (t : Tx) (a : Int) (b : Int) (h : i < l.length ∧ l.length ≤ 1000 ∧ t.length ≤ 1000000) : T67B (67 + inPlace) [.agg [.str t, .int .i64 a, .int .i64 b], .mrow 2 (prs ids l) l.length, .int .i64 i] = some (.tup [.agg [.str t, .int .i64 (takeRow t a b).2.1, .int .i64 (nameS l i t a b)], .mrow 2 (prs ids (nameL l i t a b)) l.length]) := tabAdd_eq (a := (l, i, t, a, b)) (nm_inj (f := fun l i t a b => AV.tup [AV.agg [.str t, .int .i64 (takeRow t a b).2.1, .int .i64 (nameS l i t a b)], .mrow 2 (prs ids (nameL l i t a b)) l.length])) h rfl
@[simp] theorem T67B_ne {g : Nat} {xs : List AV} (h : g ≠ 67 + inPlace) : T67B g xs = T66 g xs := tabAdd_ne h
theorem T67B_ok : Sound Try.prog T67B := tabAdd_soundB T66_ok fun z h => pf67B z.1 z.2.1 z.2.2.1 z.2.2.2.1 z.2.2.2.2 h
noncomputable def M32_1 (m : Nat) : Tab := tabAdd T67B 32 (fun z : Tx × Int × Int × Nat => (z.2.2.2 ≤ 4 ∧ z.1.length ≤ 1000000) ∧ 2 * (4 - z.2.2.2) + 1 < m) (fun z => [.agg [.str z.1, .int .i64 z.2.1, .int .i64 z.2.2.1], .int .i64 z.2.2.2]) (fun z => .tup [(oneP (4 - z.2.2.2) z.1 z.2.1 z.2.2.1).1.av ids, .agg [.str z.1, .int .i64 (oneP (4 - z.2.2.2) z.1 z.2.1 z.2.2.1).2.1, .int .i64 (oneP (4 - z.2.2.2) z.1 z.2.1 z.2.2.1).2.2]])
@[simp] theorem M32_1_ne {m g : Nat} {xs : List AV} (h : g ≠ 32) : M32_1 m g xs = T67B g xs := tabAdd_ne h
noncomputable def M32_2 (m : Nat) : Tab := tabAdd (M32_1 m) 46 (fun z : Tx × Int × Int × Nat => (z.2.2.2 ≤ 4 ∧ z.1.length ≤ 1000000) ∧ 2 * (4 - z.2.2.2) < m) (fun z => [.agg [.str z.1, .int .i64 z.2.1, .int .i64 z.2.2.1], .int .i64 z.2.2.2]) (fun z => .tup [.sl (vls ids (listP (4 - z.2.2.2) (recP oneP (4 - z.2.2.2)) z.1 z.2.1 z.2.2.1).1) (listP (4 - z.2.2.2) (recP oneP (4 - z.2.2.2)) z.1 z.2.1 z.2.2.1).1.length, .agg [.str z.1, .int .i64 (listP (4 - z.2.2.2) (recP oneP (4 - z.2.2.2)) z.1 z.2.1 z.2.2.1).2.1, .int .i64 (listP (4 - z.2.2.2) (recP oneP (4 - z.2.2.2)) z.1 z.2.1 z.2.2.1).2.2]])
@[simp] theorem M32_2_ne {m g : Nat} {xs : List AV} (h : g ≠ 46) : M32_2 m g xs = M32_1 m g xs := tabAdd_ne h
noncomputable def M32_3 (m : Nat) : Tab := tabAdd (M32_2 m) 47 (fun z : Tx × Int × Int × Nat => (z.2.2.2 ≤ 4 ∧ z.1.length ≤ 1000000) ∧ 2 * (4 - z.2.2.2) < m) (fun z => [.agg [.str z.1, .int .i64 z.2.1, .int .i64 z.2.2.1], .int .i64 z.2.2.2]) (fun z => .tup [.sl (prs ids (pairsP (4 - z.2.2.2) (recP oneP (4 - z.2.2.2)) z.1 z.2.1 z.2.2.1).1) (pairsP (4 - z.2.2.2) (recP oneP (4 - z.2.2.2)) z.1 z.2.1 z.2.2.1).1.length, .agg [.str z.1, .int .i64 (pairsP (4 - z.2.2.2) (recP oneP (4 - z.2.2.2)) z.1 z.2.1 z.2.2.1).2.1, .int .i64 (pairsP (4 - z.2.2.2) (recP oneP (4 - z.2.2.2)) z.1 z.2.1 z.2.2.1).2.2]])
@[simp] theorem M32_3_ne {m g : Nat} {xs : List AV} (h : g ≠ 47) : M32_3 m g xs = M32_2 m g xs := tabAdd_ne h
theorem R32_eq (m : Nat) (t : Tx) (a : Int) (b : Int) (d : Nat) (h : d ≤ 4 ∧ t.length ≤ 1000000) (hm : 2 * (4 - d) + 1 < m) : M32_1 m 32 [.agg [.str t, .int .i64 a, .int .i64 b], .int .i64 d] = some (.tup [(oneP (4 - d) t a b).1.av ids, .agg [.str t, .int .i64 (oneP (4 - d) t a b).2.1, .int .i64 (oneP (4 - d) t a b).2.2]]) := tabAdd_eq (a := (t, a, b, d)) (tk_inj (f := fun t a b d => AV.tup [(oneP (4 - d) t a b).1.av ids, .agg [.str t, .int .i64 (oneP (4 - d) t a b).2.1, .int .i64 (oneP (4 - d) t a b).2.2]])) ⟨h, hm⟩ rfl
theorem R46_eq (m : Nat) (t : Tx) (a : Int) (b : Int) (d : Nat) (h : d ≤ 4 ∧ t.length ≤ 1000000) (hm : 2 * (4 - d) < m) : M32_2 m 46 [.agg [.str t, .int .i64 a, .int .i64 b], .int .i64 d] = some (.tup [.sl (vls ids (listP (4 - d) (recP oneP (4 - d)) t a b).1) (listP (4 - d) (recP oneP (4 - d)) t a b).1.length, .agg [.str t, .int .i64 (listP (4 - d) (recP oneP (4 - d)) t a b).2.1, .int .i64 (listP (4 - d) (recP oneP (4 - d)) t a b).2.2]]) := tabAdd_eq (a := (t, a, b, d)) (tk_inj (f := fun t a b d => AV.tup [.sl (vls ids (listP (4 - d) (recP oneP (4 - d)) t a b).1) (listP (4 - d) (recP oneP (4 - d)) t a b).1.length, .agg [.str t, .int .i64 (listP (4 - d) (recP oneP (4 - d)) t a b).2.1, .int .i64 (listP (4 - d) (recP oneP (4 - d)) t a b).2.2]])) ⟨h, hm⟩ rfl
theorem R47_eq (m : Nat) (t : Tx) (a : Int) (b : Int) (d : Nat) (h : d ≤ 4 ∧ t.length ≤ 1000000) (hm : 2 * (4 - d) < m) : M32_3 m 47 [.agg [.str t, .int .i64 a, .int .i64 b], .int .i64 d] = some (.tup [.sl (prs ids (pairsP (4 - d) (recP oneP (4 - d)) t a b).1) (pairsP (4 - d) (recP oneP (4 - d)) t a b).1.length, .agg [.str t, .int .i64 (pairsP (4 - d) (recP oneP (4 - d)) t a b).2.1, .int .i64 (pairsP (4 - d) (recP oneP (4 - d)) t a b).2.2]]) := tabAdd_eq (a := (t, a, b, d)) (tk_inj (f := fun t a b d => AV.tup [.sl (prs ids (pairsP (4 - d) (recP oneP (4 - d)) t a b).1) (pairsP (4 - d) (recP oneP (4 - d)) t a b).1.length, .agg [.str t, .int .i64 (pairsP (4 - d) (recP oneP (4 - d)) t a b).2.1, .int .i64 (pairsP (4 - d) (recP oneP (4 - d)) t a b).2.2]])) ⟨h, hm⟩ rfl
theorem st32 (t : Tx) (a : Int) (b : Int) (d : Nat) (h : d ≤ 4 ∧ t.length ≤ 1000000) (hT : Sound Try.prog (M32_3 (2 * (4 - d) + 1))) : PFx Try.prog 32 [.agg [.str t, .int .i64 a, .int .i64 b], .int .i64 d] (.tup [(oneP (4 - d) t a b).1.av ids, .agg [.str t, .int .i64 (oneP (4 - d) t a b).2.1, .int .i64 (oneP (4 - d) t a b).2.2]]) := by
  refine PFx_of_W (rc := rc32) (rs := rs32) Try.func32 rfl hT hm (by kernel_rfl) (by kernel_rfl) (by simp [Try.ntmps32]) ?_
  obtain ⟨hd, ht⟩ := h
  have q := T44_eq t a b 1 ht
  rw [oneP_at]
  unfold oneQ
  generalize takeNum t a b 1 = r at q ⊢
  obtain ⟨n, a1, b1⟩ := r
  dsimp only at q ⊢
  by_cases h0 : b1 = 0
  case neg =>
    rw [if_pos h0]
    simp [rc32, rs32, q, h0, Vl.av]
  subst h0
  rw [if_neg (by simp)]
  have hc : n = 0 ∨ n = 1 ∨ n = 2 ∨ n = 3 ∨ n = 4 ∨ n = 5 ∨ n = 6 ∨ 6 < n := by omega
  rcases hc with rfl | rfl | rfl | rfl | rfl | rfl | rfl | hc
  · simp [rc32, rs32, q, Vl.av]
  · simp [rc32, rs32, q, Vl.av]
  · simp [rc32, rs32, q, Vl.av]
  · have q2 := T44_eq t a1 0 8 ht
    have hlt := takeNum_lt8 (t := t) (a := a1) (b := 0) (size := 8)
    generalize takeNum t a1 0 8 = r at q2 hlt ⊢
    obtain ⟨m, a2, b2⟩ := r
    dsimp only at q2 hlt ⊢
    have hm : (m : Int) = bv (BitVec.ofNat 64 m) := by simp only [bv, BitVec.toNat_ofNat]; omega
    simp [rc32, rs32, q, q2, Vl.av, ← hm]
  · have q2 := T45_eq t a1 0 ht
    generalize takeRow t a1 0 = r at q2 ⊢
    obtain ⟨m, a2, b2⟩ := r
    dsimp only at q2 ⊢
    simp [rc32, rs32, q, q2, Vl.av]
  · have q2 := R46_eq (2 * (4 - d) + 1) t a1 0 d ⟨hd, ht⟩ (by omega)
    generalize listP (4 - d) (recP oneP (4 - d)) t a1 0 = r at q2 ⊢
    obtain ⟨m, a2, b2⟩ := r
    dsimp only at q2 ⊢
    simp [rc32, rs32, q, q2, Vl.av]
  · have q2 := R47_eq (2 * (4 - d) + 1) t a1 0 d ⟨hd, ht⟩ (by omega)
    generalize pairsP (4 - d) (recP oneP (4 - d)) t a1 0 = r at q2 ⊢
    obtain ⟨m, a2, b2⟩ := r
    dsimp only at q2 ⊢
    simp [rc32, rs32, q, q2, Vl.av]
  · have e : ∀ k, k ≤ 6 → ¬ n = k := fun k hk => by omega
    have e' : ∀ k : Int, k ≤ 6 → ¬ (n : Int) = k := fun k hk => by omega
    simp only [e 0 (by decide), e 1 (by decide), e 2 (by decide), e 3 (by decide), e 4 (by decide), e 5 (by decide), e 6 (by decide), if_false]
    simp [rc32, rs32, q, e' 0 (by decide), e' 1 (by decide), e' 2 (by decide), e' 3 (by decide), e' 4 (by decide), e' 5 (by decide), e' 6 (by decide), e 0 (by decide), Vl.av]
theorem st46 (t : Tx) (a : Int) (b : Int) (d : Nat) (h : d ≤ 4 ∧ t.length ≤ 1000000) (hT : Sound Try.prog (M32_3 (2 * (4 - d)))) : PFx Try.prog 46 [.agg [.str t, .int .i64 a, .int .i64 b], .int .i64 d] (.tup [.sl (vls ids (listP (4 - d) (recP oneP (4 - d)) t a b).1) (listP (4 - d) (recP oneP (4 - d)) t a b).1.length, .agg [.str t, .int .i64 (listP (4 - d) (recP oneP (4 - d)) t a b).2.1, .int .i64 (listP (4 - d) (recP oneP (4 - d)) t a b).2.2]]) := by
  refine PFx_of_W (rc := rc46) (rs := rs46) Try.func46 rfl hT hm (by kernel_rfl) (by kernel_rfl) (by simp [Try.ntmps46]) ?_
  obtain ⟨hd, ht⟩ := h
  have q := T66_eq t a b d ⟨hd, ht⟩
  obtain ⟨hn, hz⟩ := count_le (4 - d) t a b
  unfold listP
  generalize countP (4 - d) t a b = r at q hn hz ⊢
  obtain ⟨n, a1, b1⟩ := r
  dsimp only at q hn hz ⊢
  simp [rc46, rs46, q, repeat_nil ids]
  refine ⟨⟨by omega, by omega⟩, ?_⟩
  refine W_varU (fun s : List Vl × Int × Int => s.1.length ≤ n ∧ itemsP (recP oneP (4 - d)) t n [] a1 b1 = itemsP (recP oneP (4 - d)) t (n - s.1.length) s.1 s.2.1 s.2.2) (fun s => n - s.1.length) (fun s => [(2, .box [.str t, .int .i64 s.2.1, .int .i64 s.2.2]), (7, .mrow 1 (vls ids (s.1 ++ List.replicate (n - s.1.length) .nil)) n), (8, .int .i64 s.1.length)]) ([], a1, b1) ⟨Nat.zero_le _, rfl⟩ (by simp) ?_
  rintro ⟨l, a2, b2⟩ ⟨hl, hc⟩
  dsimp only at hl hc
  rw [hc]
  by_cases hx : l.length = n ∨ b2 ≠ 0
  · have he := itemsP_end (recP oneP (4 - d)) t (n - l.length) l a2 b2 (by omega)
    rw [he]
    dsimp only
    have hL : (l ++ List.replicate (n - l.length) Vl.nil).length = n := by simp; omega
    rcases hx with hx | hx
    · subst hx
      simp
    · by_cases hlt : (l.length : Int) < n
      · simp [hlt, hx]
        omega
      · simp [hlt]
        omega
  · obtain ⟨hx1, hx2⟩ : l.length < n ∧ b2 = 0 := by omega
    subst hx2
    obtain ⟨m, hm⟩ : ∃ m, n - l.length = m + 1 := ⟨n - l.length - 1, by omega⟩
    have hlt : (l.length : Int) < n := by omega
    have hd4 : d < 4 := by omega
    have q2 := R32_eq (2 * (4 - d)) t a2 0 (d + 1) ⟨by omega, ht⟩ (by omega)
    have hrec : recP oneP (4 - d) = oneP (4 - (d + 1)) := by rw [show 4 - d = (4 - (d + 1)) + 1 by omega]; rfl
    rw [hrec, hm, itemsP, if_neg (by simp)]
    have hset := vls_mid ids l (List.replicate m .nil) .nil
    rw [List.replicate_succ]
    generalize oneP (4 - (d + 1)) t a2 0 = r at q2 ⊢
    obtain ⟨v, a3, b3⟩ := r
    dsimp only at q2 ⊢
    have hset := hset v
    rw [Int.natCast_add, Int.natCast_one] at q2
    have hm' : n - (l ++ [v]).length = m := by simp; omega
    have e3 : 3 - d = 4 - (d + 1) := by omega
    have fin : ∃ y1 y2 y3, (y1.length ≤ n ∧ itemsP (oneP (3 - d)) t m (l ++ [v]) a3 b3 = itemsP (oneP (3 - d)) t (n - y1.length) y1 y2 y3) ∧ n - y1.length < m + 1 ∧ (a3 = y2 ∧ b3 = y3) ∧ vls ids (l ++ v :: List.replicate m .nil) = vls ids (y1 ++ List.replicate (n - y1.length) .nil) ∧ (l.length : Int) + 1 = y1.length :=
      ⟨l ++ [v], a3, b3, ⟨by simp; omega, by rw [hm']⟩, by omega, ⟨rfl, rfl⟩, by rw [hm', List.append_assoc]; rfl, by simp⟩
    rcases vav_form ids v with ⟨u, x, ee⟩ | ee <;> rw [ee] at q2 hset <;> simp [hlt, q2, hset, -splice]
    all_goals exact ⟨⟨by omega, by omega⟩, ⟨by omega, by omega⟩, fin⟩
theorem st47 (t : Tx) (a : Int) (b : Int) (d : Nat) (h : d ≤ 4 ∧ t.length ≤ 1000000) (hT : Sound Try.prog (M32_3 (2 * (4 - d)))) : PFx Try.prog 47 [.agg [.str t, .int .i64 a, .int .i64 b], .int .i64 d] (.tup [.sl (prs ids (pairsP (4 - d) (recP oneP (4 - d)) t a b).1) (pairsP (4 - d) (recP oneP (4 - d)) t a b).1.length, .agg [.str t, .int .i64 (pairsP (4 - d) (recP oneP (4 - d)) t a b).2.1, .int .i64 (pairsP (4 - d) (recP oneP (4 - d)) t a b).2.2]]) := by
  refine PFx_of_W (rc := rc47) (rs := rs47) Try.func47 rfl hT hm (by kernel_rfl) (by kernel_rfl) (by simp [Try.ntmps47]) ?_
  obtain ⟨hd, ht⟩ := h
  have q := T66_eq t a b d ⟨hd, ht⟩
  obtain ⟨hn, hz⟩ := count_le (4 - d) t a b
  unfold pairsP
  generalize countP (4 - d) t a b = r at q hn hz ⊢
  obtain ⟨n, a1, b1⟩ := r
  dsimp only at q hn hz ⊢
  simp [rc47, rs47, q, repeat_pair ids]
  refine ⟨⟨by omega, by omega⟩, ?_⟩
  refine W_varU (fun s : List (Tx × Vl) × Int × Int => s.1.length ≤ n ∧ itemsQ (recP oneP (4 - d)) t n [] a1 b1 = itemsQ (recP oneP (4 - d)) t (n - s.1.length) s.1 s.2.1 s.2.2) (fun s => n - s.1.length) (fun s => [(2, .box [.str t, .int .i64 s.2.1, .int .i64 s.2.2]), (7, .mrow 2 (prs ids (s.1 ++ List.replicate (n - s.1.length) ([], .nil))) n), (8, .int .i64 s.1.length)]) ([], a1, b1) ⟨Nat.zero_le _, rfl⟩ (by simp) ?_
  rintro ⟨l, a2, b2⟩ ⟨hl, hc⟩
  dsimp only at hl hc
  rw [hc]
  by_cases hx : l.length = n ∨ b2 ≠ 0
  · have he := itemsQ_end (recP oneP (4 - d)) t (n - l.length) l a2 b2 (by omega)
    rw [he]
    dsimp only
    have hL : (l ++ List.replicate (n - l.length) (([] : Tx), Vl.nil)).length = n := by simp; omega
    rcases hx with hx | hx
    · subst hx
      simp
    · by_cases hlt : (l.length : Int) < n
      · simp [hlt, hx]
        omega
      · simp [hlt]
        omega
  · obtain ⟨hx1, hx2⟩ : l.length < n ∧ b2 = 0 := by omega
    subst hx2
    obtain ⟨m, hm⟩ : ∃ m, n - l.length = m + 1 := ⟨n - l.length - 1, by omega⟩
    have hlt : (l.length : Int) < n := by omega
    have hd4 : d < 4 := by omega
    have hfl : (l ++ List.replicate (m + 1) (([] : Tx), Vl.nil)).length = n := by simp; omega
    have q1 := T67B_eq (l ++ List.replicate (m + 1) ([], .nil)) l.length t a2 0 ⟨by simp, by omega, ht⟩
    obtain ⟨n1, n2⟩ := nameS_at l m t a2 0
    rw [nameL_at, n1, n2, hfl] at q1
    have hset := prs_mid' ids l (List.replicate m ([], .nil))
    have hrec : recP oneP (4 - d) = oneP (4 - (d + 1)) := by rw [show 4 - d = (4 - (d + 1)) + 1 by omega]; rfl
    rw [hrec, hm, itemsQ, if_neg (by simp)]
    have q2 := R32_eq (2 * (4 - d)) t (nameP l t a2 0).2.1 (nameP l t a2 0).2.2 (d + 1) ⟨by omega, ht⟩ (by omega)
    generalize nameP l t a2 0 = z at q1 q2 ⊢
    obtain ⟨s, a4, b4⟩ := z
    dsimp only at q1 q2 ⊢
    generalize oneP (4 - (d + 1)) t a4 b4 = r at q2 ⊢
    obtain ⟨v, a3, b3⟩ := r
    dsimp only at q2 ⊢
    have hset := hset s .nil v
    rw [Int.natCast_add, Int.natCast_one] at q2
    have hm' : n - (l ++ [(s, v)]).length = m := by simp; omega
    have e3 : 3 - d = 4 - (d + 1) := by omega
    have h2 : l.length * 2 + 1 + 1 ≤ n * 2 := by omega
    have fin : ∃ y1 y2 y3, (y1.length ≤ n ∧ itemsQ (oneP (3 - d)) t m (l ++ [(s, v)]) a3 b3 = itemsQ (oneP (3 - d)) t (n - y1.length) y1 y2 y3) ∧ n - y1.length < m + 1 ∧ (a3 = y2 ∧ b3 = y3) ∧ prs ids (l ++ (s, v) :: List.replicate m ([], .nil)) = prs ids (y1 ++ List.replicate (n - y1.length) ([], .nil)) ∧ (l.length : Int) + 1 = y1.length :=
      ⟨l ++ [(s, v)], a3, b3, ⟨by simp; omega, by rw [hm']⟩, by omega, ⟨rfl, rfl⟩, by rw [hm', List.append_assoc]; rfl, by simp⟩
    rcases vav_form ids v with ⟨u, x, ee⟩ | ee <;> rw [ee] at q2 hset <;> simp [hlt, q1, q2, hset, h2, -splice]
    all_goals exact ⟨⟨by omega, by omega⟩, by omega, ⟨by omega, by omega⟩, fin⟩
theorem M32_ok (m : Nat) : Sound Try.prog (M32_3 m) := by
  induction m using Nat.strongRecOn with
  | ind m ih => exact (tabAdd_sound (tabAdd_sound (tabAdd_sound T67B_ok fun z h => st32 z.1 z.2.1 z.2.2.1 z.2.2.2 h.1 (ih _ h.2)) fun z h => st46 z.1 z.2.1 z.2.2.1 z.2.2.2 h.1 (ih _ h.2)) fun z h => st47 z.1 z.2.1 z.2.2.1 z.2.2.2 h.1 (ih _ h.2))
theorem pf32 (t : Tx) (a : Int) (b : Int) (d : Nat) (h : d ≤ 4 ∧ t.length ≤ 1000000) : PFx Try.prog 32 [.agg [.str t, .int .i64 a, .int .i64 b], .int .i64 d] (.tup [(oneP (4 - d) t a b).1.av ids, .agg [.str t, .int .i64 (oneP (4 - d) t a b).2.1, .int .i64 (oneP (4 - d) t a b).2.2]]) := st32 t a b d h (M32_ok _)
noncomputable def T32 : Tab := tabAdd T67B 32 (fun z : Tx × Int × Int × Nat => z.2.2.2 ≤ 4 ∧ z.1.length ≤ 1000000) (fun z => [.agg [.str z.1, .int .i64 z.2.1, .int .i64 z.2.2.1], .int .i64 z.2.2.2]) (fun z => .tup [(oneP (4 - z.2.2.2) z.1 z.2.1 z.2.2.1).1.av ids, .agg [.str z.1, .int .i64 (oneP (4 - z.2.2.2) z.1 z.2.1 z.2.2.1).2.1, .int .i64 (oneP (4 - z.2.2.2) z.1 z.2.1 z.2.2.1).2.2]])
@[simp] theorem T32_eq (t : Tx) (a : Int) (b : Int) (d : Nat) (h : d ≤ 4 ∧ t.length ≤ 1000000) : T32 32 [.agg [.str t, .int .i64 a, .int .i64 b], .int .i64 d] = some (.tup [(oneP (4 - d) t a b).1.av ids, .agg [.str t, .int .i64 (oneP (4 - d) t a b).2.1, .int .i64 (oneP (4 - d) t a b).2.2]]) := tabAdd_eq (a := (t, a, b, d)) (tk_inj (f := fun t a b d => AV.tup [(oneP (4 - d) t a b).1.av ids, .agg [.str t, .int .i64 (oneP (4 - d) t a b).2.1, .int .i64 (oneP (4 - d) t a b).2.2]])) h rfl
@[simp] theorem T32_ne {g : Nat} {xs : List AV} (h : g ≠ 32) : T32 g xs = T67B g xs := tabAdd_ne h
theorem T32_ok : Sound Try.prog T32 := tabAdd_sound T67B_ok fun z h => pf32 z.1 z.2.1 z.2.2.1 z.2.2.2 h
theorem pf46 (t : Tx) (a : Int) (b : Int) (d : Nat) (h : d ≤ 4 ∧ t.length ≤ 1000000) : PFx Try.prog 46 [.agg [.str t, .int .i64 a, .int .i64 b], .int .i64 d] (.tup [.sl (vls ids (listP (4 - d) (recP oneP (4 - d)) t a b).1) (listP (4 - d) (recP oneP (4 - d)) t a b).1.length, .agg [.str t, .int .i64 (listP (4 - d) (recP oneP (4 - d)) t a b).2.1, .int .i64 (listP (4 - d) (recP oneP (4 - d)) t a b).2.2]]) := st46 t a b d h (M32_ok _)
noncomputable def T46 : Tab := tabAdd T32 46 (fun z : Tx × Int × Int × Nat => z.2.2.2 ≤ 4 ∧ z.1.length ≤ 1000000) (fun z => [.agg [.str z.1, .int .i64 z.2.1, .int .i64 z.2.2.1], .int .i64 z.2.2.2]) (fun z => .tup [.sl (vls ids (listP (4 - z.2.2.2) (recP oneP (4 - z.2.2.2)) z.1 z.2.1 z.2.2.1).1) (listP (4 - z.2.2.2) (recP oneP (4 - z.2.2.2)) z.1 z.2.1 z.2.2.1).1.length, .agg [.str z.1, .int .i64 (listP (4 - z.2.2.2) (recP oneP (4 - z.2.2.2)) z.1 z.2.1 z.2.2.1).2.1, .int .i64 (listP (4 - z.2.2.2) (recP oneP (4 - z.2.2.2)) z.1 z.2.1 z.2.2.1).2.2]])
@[simp] theorem T46_eq (t : Tx) (a : Int) (b : Int) (d : Nat) (h : d ≤ 4 ∧ t.length ≤ 1000000) : T46 46 [.agg [.str t, .int .i64 a, .int .i64 b], .int .i64 d] = some (.tup [.sl (vls ids (listP (4 - d) (recP oneP (4 - d)) t a b).1) (listP (4 - d) (recP oneP (4 - d)) t a b).1.length, .agg [.str t, .int .i64 (listP (4 - d) (recP oneP (4 - d)) t a b).2.1, .int .i64 (listP (4 - d) (recP oneP (4 - d)) t a b).2.2]]) := tabAdd_eq (a := (t, a, b, d)) (tk_inj (f := fun t a b d => AV.tup [.sl (vls ids (listP (4 - d) (recP oneP (4 - d)) t a b).1) (listP (4 - d) (recP oneP (4 - d)) t a b).1.length, .agg [.str t, .int .i64 (listP (4 - d) (recP oneP (4 - d)) t a b).2.1, .int .i64 (listP (4 - d) (recP oneP (4 - d)) t a b).2.2]])) h rfl
@[simp] theorem T46_ne {g : Nat} {xs : List AV} (h : g ≠ 46) : T46 g xs = T32 g xs := tabAdd_ne h
theorem T46_ok : Sound Try.prog T46 := tabAdd_sound T32_ok fun z h => pf46 z.1 z.2.1 z.2.2.1 z.2.2.2 h
theorem pf47 (t : Tx) (a : Int) (b : Int) (d : Nat) (h : d ≤ 4 ∧ t.length ≤ 1000000) : PFx Try.prog 47 [.agg [.str t, .int .i64 a, .int .i64 b], .int .i64 d] (.tup [.sl (prs ids (pairsP (4 - d) (recP oneP (4 - d)) t a b).1) (pairsP (4 - d) (recP oneP (4 - d)) t a b).1.length, .agg [.str t, .int .i64 (pairsP (4 - d) (recP oneP (4 - d)) t a b).2.1, .int .i64 (pairsP (4 - d) (recP oneP (4 - d)) t a b).2.2]]) := st47 t a b d h (M32_ok _)
noncomputable def T47 : Tab := tabAdd T46 47 (fun z : Tx × Int × Int × Nat => z.2.2.2 ≤ 4 ∧ z.1.length ≤ 1000000) (fun z => [.agg [.str z.1, .int .i64 z.2.1, .int .i64 z.2.2.1], .int .i64 z.2.2.2]) (fun z => .tup [.sl (prs ids (pairsP (4 - z.2.2.2) (recP oneP (4 - z.2.2.2)) z.1 z.2.1 z.2.2.1).1) (pairsP (4 - z.2.2.2) (recP oneP (4 - z.2.2.2)) z.1 z.2.1 z.2.2.1).1.length, .agg [.str z.1, .int .i64 (pairsP (4 - z.2.2.2) (recP oneP (4 - z.2.2.2)) z.1 z.2.1 z.2.2.1).2.1, .int .i64 (pairsP (4 - z.2.2.2) (recP oneP (4 - z.2.2.2)) z.1 z.2.1 z.2.2.1).2.2]])
@[simp] theorem T47_eq (t : Tx) (a : Int) (b : Int) (d : Nat) (h : d ≤ 4 ∧ t.length ≤ 1000000) : T47 47 [.agg [.str t, .int .i64 a, .int .i64 b], .int .i64 d] = some (.tup [.sl (prs ids (pairsP (4 - d) (recP oneP (4 - d)) t a b).1) (pairsP (4 - d) (recP oneP (4 - d)) t a b).1.length, .agg [.str t, .int .i64 (pairsP (4 - d) (recP oneP (4 - d)) t a b).2.1, .int .i64 (pairsP (4 - d) (recP oneP (4 - d)) t a b).2.2]]) := tabAdd_eq (a := (t, a, b, d)) (tk_inj (f := fun t a b d => AV.tup [.sl (prs ids (pairsP (4 - d) (recP oneP (4 - d)) t a b).1) (pairsP (4 - d) (recP oneP (4 - d)) t a b).1.length, .agg [.str t, .int .i64 (pairsP (4 - d) (recP oneP (4 - d)) t a b).2.1, .int .i64 (pairsP (4 - d) (recP oneP (4 - d)) t a b).2.2]])) h rfl
@[simp] theorem T47_ne {g : Nat} {xs : List AV} (h : g ≠ 47) : T47 g xs = T46 g xs := tabAdd_ne h
theorem T47_ok : Sound Try.prog T47 := tabAdd_sound T46_ok fun z h => pf47 z.1 z.2.1 z.2.2.1 z.2.2.2 h
theorem pf15 (s : Tx) (h : s.length ≤ 100000) : PFx Try.prog 15 [.str s] (.tup [(tkV s).av ids, .int .i64 (tkE s)]) := by
  refine PFx_of_W (rc := rc15) (rs := rs15) Try.func15 rfl T47_ok hm (by kernel_rfl) (by kernel_rfl) (by simp [Try.ntmps15]) ?_
  have q := T32_eq s 0 0 0 ⟨by omega, by omega⟩
  obtain ⟨e1, e2⟩ := take_rel s
  have q2 := T33_eq s (oneP 4 s 0 0).2.1 (oneP 4 s 0 0).2.2 (by omega)
  rw [e1] at q2
  simp only [Nat.sub_zero] at q
  generalize oneP 4 s 0 0 = r at q q2 e2
  obtain ⟨v, a, b⟩ := r
  dsimp only at q q2 e2
  by_cases h0 : tkE s = 0
  · have hv : tkV s = v := by unfold tkV; rw [if_pos h0, e2 h0]
    rw [h0] at q2
    rw [hv, h0]
    rcases vav_form ids v with ⟨u, x, ee⟩ | ee <;> rw [ee] at q ⊢ <;> simp at q <;> simp [rc15, rs15, q, q2]
  · have hv : tkV s = .nil := by unfold tkV; rw [if_neg h0]
    rw [hv]
    rcases vav_form ids v with ⟨u, x, ee⟩ | ee <;> rw [ee] at q <;> simp at q <;> simp [rc15, rs15, q, q2, h0, Vl.av]
noncomputable def T15 : Tab := tabAdd T47 15 (fun z : Tx => z.length ≤ 100000) (fun z => [.str z]) (fun z => .tup [(tkV z).av ids, .int .i64 (tkE z)])
@[simp] theorem T15_eq (s : Tx) (h : s.length ≤ 100000) : T15 15 [.str s] = some (.tup [(tkV s).av ids, .int .i64 (tkE s)]) := tabAdd_eq (a := s) (by simp +contextual [Int.natCast_inj]) h rfl
@[simp] theorem T15_ne {g : Nat} {xs : List AV} (h : g ≠ 15) : T15 g xs = T47 g xs := tabAdd_ne h
theorem T15_ok : Sound Try.prog T15 := tabAdd_sound T47_ok fun z h => pf15 z h
end Go.Proofs.Ytbikpgaiocjnoaa

