/- entry, of the document. -/
import Derived.Test.YtbikpgaiocjnoaaQA
import Derived.Test.YtbikpgaiocjnoaaXM
set_option linter.unusedVariables false
set_option linter.unusedSimpArgs false
namespace Go.Proofs.Ytbikpgaiocjnoaa
open Go.Proofs.Ytbikpgaiocjnoaa.Pad Go.Proofs.Ytbikpgaiocjnoaa.Pad.En
/-- padlock/padlockref10.name -/
def rc28 : RC :=
  (.seq
   (.reg false [⟨(some 2), .box (.t 0), none⟩,
     ⟨(some 4), .mov (.c (.str [])), none⟩] [1, 2])
   (.seq
    (.seq
     (.reg false [⟨(some 5), .mov (.t 1), none⟩,
       ⟨(some 6), .fldB 2 4, none⟩,
       ⟨(some 7), .loadR 6 2 1 false, none⟩,
       ⟨(some 8), .len false (.t 7), none⟩,
       ⟨(some 9), .bin .lss true (.t 5) (.t 8), none⟩] [1, 2, 9])
     (.cond 9
      (.seq
       (.reg false [⟨(some 10), .fldB 2 4, none⟩,
         ⟨(some 11), .loadR 10 2 1 false, none⟩,
         ⟨(some 12), .mov (.t 1), none⟩,
         ⟨(some 13), .idxA 1 (.t 11) (.t 12), none⟩,
         ⟨(some 14), .loadP (.t 13) 1 false, none⟩,
         ⟨(some 4), .mov (.t 14), none⟩] [4])
       .ret)
      (.reg false [] [])))
    (.seq
     (.reg false [⟨(some 4), .mov (.c (.str [])), none⟩] [4])
     .ret)))
def rs28 : List RS := [.tmp 4]
/-- padlock/padlockref10.Check -/
def rc12 : RC :=
  (.seq
   (.reg false [⟨(some 2), .box (.t 0), none⟩,
     ⟨(some 4), .mov (.c (.int .i64 0)), none⟩] [1, 2])
   (.seq
    (.seq
     (.reg false [⟨(some 7), .fldB 2 0, none⟩,
       ⟨(some 8), .loadR 7 2 1 false, none⟩,
       ⟨(some 9), .bin .gtr false (.t 8) (.c (.int .u8 5)), none⟩] [1, 2, 9])
     (.cond 9
      (.seq
       (.reg false [⟨(some 4), .mov (.c (.int .i64 22)), none⟩] [4])
       .ret)
      (.reg false [] [1, 2])))
    (.seq
     (.seq
      (.reg false [⟨(some 10), .fldB 2 0, none⟩,
        ⟨(some 11), .loadR 10 2 1 false, none⟩,
        ⟨(some 12), .bin .eql false (.t 11) (.c (.int .u8 3)), none⟩,
        ⟨(some 13), .mov (.t 12), none⟩,
        ⟨(some 14), .fldB 2 2, (some (13, true))⟩,
        ⟨(some 15), .loadR 14 2 1 false, (some (13, true))⟩,
        ⟨(some 16), .len true (.t 15), (some (13, true))⟩,
        ⟨(some 17), .bin .gtr true (.t 16) (.c (.int .i64 65535)), (some (13, true))⟩,
        ⟨(some 18), .pick (.t 13) (.t 17) (.c (.bool false)), none⟩] [1, 2, 18])
      (.cond 18
       (.seq
        (.reg false [⟨(some 4), .mov (.c (.int .i64 5)), none⟩] [4])
        .ret)
       (.reg false [] [1, 2])))
     (.seq
      (.seq
       (.reg false [⟨(some 19), .fldB 2 0, none⟩,
         ⟨(some 20), .loadR 19 2 1 false, none⟩,
         ⟨(some 21), .bin .lss false (.t 20) (.c (.int .u8 4)), none⟩] [1, 2, 21])
       (.cond 21
        (.seq
         (.reg false [⟨(some 4), .mov (.c (.int .i64 0)), none⟩] [4])
         .ret)
        (.reg false [] [1, 2])))
      (.seq
       (.seq
        (.reg false [⟨(some 22), .mov (.t 1), none⟩,
          ⟨(some 23), .bin .geq true (.t 22) (.c (.int .i64 4)), none⟩] [1, 2, 23])
        (.cond 23
         (.seq
          (.reg false [⟨(some 4), .mov (.c (.int .i64 24)), none⟩] [4])
          .ret)
         (.reg false [] [1, 2])))
       (.seq
        (.seq
         (.reg false [⟨(some 24), .fldB 2 3, none⟩,
           ⟨(some 25), .loadR 24 2 1 false, none⟩,
           ⟨(some 26), .len false (.t 25), none⟩,
           ⟨(some 27), .bin .gtr true (.t 26) (.c (.int .i64 64)), none⟩] [1, 2, 27])
         (.cond 27
          (.seq
           (.reg false [⟨(some 4), .mov (.c (.int .i64 5)), none⟩] [4])
           .ret)
          (.reg false [] [1, 2])))
        (.seq
         (.seq
          (.reg false [⟨(some 5), .mov (.c (.int .i64 0)), none⟩] [1, 2, 5])
          (.block 0
           (.loop
            (.seq
             (.seq
              (.reg false [⟨(some 28), .mov (.t 5), none⟩,
                ⟨(some 29), .fldB 2 3, none⟩,
                ⟨(some 30), .loadR 29 2 1 false, none⟩,
                ⟨(some 31), .len false (.t 30), none⟩,
                ⟨(some 32), .bin .lss true (.t 28) (.t 31), none⟩] [1, 2, 5, 32])
              (.cond 32
               (.reg false [] [1, 2, 5])
               (.seq
                (.reg false [] [])
                (.exit 0))))
             (.seq
              (.block 1
               (.seq
                (.seq
                 (.reg false [⟨(some 35), .fldB 2 0, none⟩,
                   ⟨(some 36), .loadR 35 2 1 false, none⟩,
                   ⟨(some 37), .bin .eql false (.t 36) (.c (.int .u8 5)), none⟩,
                   ⟨(some 38), .mov (.t 37), none⟩,
                   ⟨(some 39), .loadB 2 5 true, (some (38, true))⟩,
                   ⟨(some 40), .mov (.t 5), (some (38, true))⟩,
                   ⟨(some 41), .call 28 [(false, (.t 39)), (false, (.t 40))], (some (38, true))⟩,
                   ⟨(some 42), .len true (.t 41), (some (38, true))⟩,
                   ⟨(some 43), .bin .gtr true (.t 42) (.c (.int .i64 65535)), (some (38, true))⟩,
                   ⟨(some 44), .pick (.t 38) (.t 43) (.c (.bool false)), none⟩] [1, 2, 5, 44])
                 (.cond 44
                  (.seq
                   (.reg false [⟨(some 4), .mov (.c (.int .i64 5)), none⟩] [4])
                   .ret)
                  (.reg false [] [1, 2, 5])))
                (.seq
                 (.seq
                  (.reg true [⟨(some 45), .fldB 2 0, none⟩,
                    ⟨(some 46), .loadR 45 2 1 false, none⟩,
                    ⟨(some 47), .bin .eql false (.t 46) (.c (.int .u8 5)), none⟩,
                    ⟨(some 48), .mov (.t 47), none⟩,
                    ⟨(some 49), .mov (.t 5), (some (48, true))⟩,
                    ⟨(some 50), .bin .gtr true (.t 49) (.c (.int .i64 0)), (some (48, true))⟩,
                    ⟨(some 51), .pick (.t 48) (.t 50) (.c (.bool false)), none⟩,
                    ⟨(some 52), .mov (.t 51), none⟩,
                    ⟨(some 53), .loadB 2 5 true, (some (52, true))⟩,
                    ⟨(some 54), .mov (.t 5), (some (52, true))⟩,
                    ⟨(some 55), .bin .sub true (.t 54) (.c (.int .i64 1)), (some (52, true))⟩,
                    ⟨(some 56), .call 28 [(false, (.t 53)), (false, (.t 55))], (some (52, true))⟩,
                    ⟨(some 57), .loadB 2 5 true, (some (52, true))⟩,
                    ⟨(some 58), .mov (.t 5), (some (52, true))⟩,
                    ⟨(some 59), .call 28 [(false, (.t 57)), (false, (.t 58))], (some (52, true))⟩,
                    ⟨(some 60), .bin .geq false (.t 56) (.t 59), (some (52, true))⟩,
                    ⟨(some 61), .pick (.t 52) (.t 60) (.c (.bool false)), none⟩] [1, 2, 5, 61])
                  (.cond 61
                   (.seq
                    (.reg false [⟨(some 4), .mov (.c (.int .i64 4)), none⟩] [4])
                    .ret)
                   (.reg false [] [1, 2, 5])))
                 (.seq
                  (.reg false [⟨(some 62), .fldB 2 3, none⟩,
                    ⟨(some 63), .loadR 62 2 1 false, none⟩,
                    ⟨(some 64), .mov (.t 5), none⟩,
                    ⟨(some 65), .idxA 5 (.t 63) (.t 64), none⟩,
                    ⟨(some 66), .loadP (.t 65) 5 true, none⟩,
                    ⟨(some 67), .mov (.t 1), none⟩,
                    ⟨(some 68), .bin .add true (.t 67) (.c (.int .i64 1)), none⟩,
                    ⟨(some 69), .call 12 [(false, (.t 66)), (false, (.t 68))], none⟩,
                    ⟨(some 6), .mov (.t 69), none⟩] [1, 2, 5, 6])
                  (.seq
                   (.reg false [⟨(some 70), .mov (.t 6), none⟩,
                     ⟨(some 71), .bin .neq true (.t 70) (.c (.int .i64 0)), none⟩] [1, 2, 5, 6, 71])
                   (.cond 71
                    (.seq
                     (.reg false [⟨(some 72), .mov (.t 6), none⟩,
                       ⟨(some 4), .mov (.t 72), none⟩] [4])
                     .ret)
                    (.reg false [] [1, 2, 5])))))))
              (.reg false [⟨(some 33), .mov (.t 5), none⟩,
                ⟨(some 34), .bin .add true (.t 33) (.c (.int .i64 1)), none⟩,
                ⟨(some 5), .mov (.t 34), none⟩] [1, 2, 5]))))))
         (.seq
          (.reg false [⟨(some 4), .mov (.c (.int .i64 0)), none⟩] [4])
          .ret))))))))
def rs12 : List RS := [.tmp 4]
/-- padlock/padlockref10.Find -/
def rc22 : RC :=
  (.seq
   (.reg false [⟨(some 2), .box (.t 0), none⟩,
     ⟨(some 4), .mov (.c (.int .i64 0)), none⟩] [1, 2])
   (.seq
    (.seq
     (.reg false [⟨(some 5), .mov (.c (.int .i64 0)), none⟩] [1, 2, 5])
     (.block 0
      (.loop
       (.seq
        (.seq
         (.reg false [⟨(some 6), .mov (.t 5), none⟩,
           ⟨(some 7), .fldB 2 3, none⟩,
           ⟨(some 8), .loadR 7 2 1 false, none⟩,
           ⟨(some 9), .len false (.t 8), none⟩,
           ⟨(some 10), .bin .lss true (.t 6) (.t 9), none⟩,
           ⟨(some 11), .mov (.t 10), none⟩,
           ⟨(some 12), .fldB 2 0, (some (11, true))⟩,
           ⟨(some 13), .loadR 12 2 1 false, (some (11, true))⟩,
           ⟨(some 14), .bin .eql false (.t 13) (.c (.int .u8 5)), (some (11, true))⟩,
           ⟨(some 15), .pick (.t 11) (.t 14) (.c (.bool false)), none⟩] [1, 2, 5, 15])
         (.cond 15
          (.reg false [] [1, 2, 5])
          (.seq
           (.reg false [] [])
           (.exit 0))))
        (.seq
         (.block 1
          (.seq
           (.reg false [⟨(some 18), .loadB 2 5 true, none⟩,
             ⟨(some 19), .mov (.t 5), none⟩,
             ⟨(some 20), .call 28 [(false, (.t 18)), (false, (.t 19))], none⟩,
             ⟨(some 21), .mov (.t 1), none⟩,
             ⟨(some 22), .bin .eql false (.t 20) (.t 21), none⟩] [1, 2, 5, 22])
           (.cond 22
            (.seq
             (.reg false [⟨(some 23), .mov (.t 5), none⟩,
               ⟨(some 4), .mov (.t 23), none⟩] [4])
             .ret)
            (.reg false [] [1, 2, 5]))))
         (.reg false [⟨(some 16), .mov (.t 5), none⟩,
           ⟨(some 17), .bin .add true (.t 16) (.c (.int .i64 1)), none⟩,
           ⟨(some 5), .mov (.t 17), none⟩] [1, 2, 5]))))))
    (.seq
     (.reg false [⟨(some 4), .mov (.c (.int .i64 (-1))), none⟩] [4])
     .ret)))
def rs22 : List RS := [.tmp 4]
/-- padlock/padlocklaw10.Over -/
def rc26 : RC :=
  (.seq
   (.reg false [⟨(some 3), .box (.t 0), none⟩,
     ⟨(some 6), .mov (.c (.int .i64 0)), none⟩] [1, 2, 3])
   (.seq
    (.seq
     (.reg false [⟨(some 11), .mov (.t 1), none⟩,
       ⟨(some 12), .bin .gtr true (.t 11) (.c (.int .i64 7)), none⟩,
       ⟨(some 13), .mov (.t 12), none⟩,
       ⟨(some 14), .mov (.t 2), (some (13, false))⟩,
       ⟨(some 15), .bin .lss true (.t 14) (.c (.int .i64 1)), (some (13, false))⟩,
       ⟨(some 16), .pick (.t 13) (.c (.bool true)) (.t 15), none⟩,
       ⟨(some 17), .mov (.t 16), none⟩,
       ⟨(some 18), .fldB 3 2, (some (17, false))⟩,
       ⟨(some 19), .loadR 18 3 1 false, (some (17, false))⟩,
       ⟨(some 20), .len true (.t 19), (some (17, false))⟩,
       ⟨(some 21), .bin .gtr true (.t 20) (.c (.int .i64 200)), (some (17, false))⟩,
       ⟨(some 22), .pick (.t 17) (.c (.bool true)) (.t 21), none⟩,
       ⟨(some 23), .mov (.t 22), none⟩,
       ⟨(some 24), .fldB 3 3, (some (23, false))⟩,
       ⟨(some 25), .loadR 24 3 1 false, (some (23, false))⟩,
       ⟨(some 26), .len false (.t 25), (some (23, false))⟩,
       ⟨(some 27), .bin .gtr true (.t 26) (.c (.int .i64 70)), (some (23, false))⟩,
       ⟨(some 28), .pick (.t 23) (.c (.bool true)) (.t 27), none⟩,
       ⟨(some 29), .mov (.t 28), none⟩,
       ⟨(some 30), .fldB 3 4, (some (29, false))⟩,
       ⟨(some 31), .loadR 30 3 1 false, (some (29, false))⟩,
       ⟨(some 32), .len false (.t 31), (some (29, false))⟩,
       ⟨(some 33), .bin .gtr true (.t 32) (.c (.int .i64 70)), (some (29, false))⟩,
       ⟨(some 34), .pick (.t 29) (.c (.bool true)) (.t 33), none⟩] [1, 2, 3, 34])
     (.cond 34
      (.seq
       (.reg false [⟨(some 6), .mov (.c (.int .i64 1000)), none⟩] [6])
       .ret)
      (.reg false [] [1, 2, 3])))
    (.seq
     (.reg false [⟨(some 7), .mov (.c (.int .i64 1)), none⟩] [1, 2, 3, 7])
     (.seq
      (.seq
       (.reg false [⟨(some 8), .mov (.c (.int .i64 0)), none⟩] [1, 2, 3, 7, 8])
       (.block 0
        (.loop
         (.seq
          (.seq
           (.reg false [⟨(some 35), .mov (.t 8), none⟩,
             ⟨(some 36), .fldB 3 4, none⟩,
             ⟨(some 37), .loadR 36 3 1 false, none⟩,
             ⟨(some 38), .len false (.t 37), none⟩,
             ⟨(some 39), .bin .lss true (.t 35) (.t 38), none⟩] [1, 2, 3, 7, 8, 39])
           (.cond 39
            (.reg false [] [1, 2, 3, 7, 8])
            (.seq
             (.reg false [] [1, 2, 3, 7])
             (.exit 0))))
          (.seq
           (.block 1
            (.seq
             (.reg false [⟨(some 42), .fldB 3 4, none⟩,
               ⟨(some 43), .loadR 42 3 1 false, none⟩,
               ⟨(some 44), .mov (.t 8), none⟩,
               ⟨(some 45), .idxA 1 (.t 43) (.t 44), none⟩,
               ⟨(some 46), .loadP (.t 45) 1 false, none⟩,
               ⟨(some 47), .len true (.t 46), none⟩,
               ⟨(some 48), .bin .gtr true (.t 47) (.c (.int .i64 200)), none⟩] [1, 2, 3, 7, 8, 48])
             (.cond 48
              (.seq
               (.reg false [⟨(some 6), .mov (.c (.int .i64 1000)), none⟩] [6])
               .ret)
              (.reg false [] [1, 2, 3, 7, 8]))))
           (.reg false [⟨(some 40), .mov (.t 8), none⟩,
             ⟨(some 41), .bin .add true (.t 40) (.c (.int .i64 1)), none⟩,
             ⟨(some 8), .mov (.t 41), none⟩] [1, 2, 3, 7, 8]))))))
      (.seq
       (.seq
        (.reg false [⟨(some 9), .mov (.c (.int .i64 0)), none⟩] [1, 2, 3, 7, 9])
        (.block 2
         (.loop
          (.seq
           (.seq
            (.reg false [⟨(some 49), .mov (.t 9), none⟩,
              ⟨(some 50), .fldB 3 3, none⟩,
              ⟨(some 51), .loadR 50 3 1 false, none⟩,
              ⟨(some 52), .len false (.t 51), none⟩,
              ⟨(some 53), .bin .lss true (.t 49) (.t 52), none⟩] [1, 2, 3, 7, 9, 53])
            (.cond 53
             (.reg false [] [1, 2, 3, 7, 9])
             (.seq
              (.reg false [] [7])
              (.exit 2))))
           (.seq
            (.block 3
             (.seq
              (.reg false [⟨(some 56), .fldB 3 3, none⟩,
                ⟨(some 57), .loadR 56 3 1 false, none⟩,
                ⟨(some 58), .mov (.t 9), none⟩,
                ⟨(some 59), .idxA 5 (.t 57) (.t 58), none⟩,
                ⟨(some 60), .loadP (.t 59) 5 true, none⟩,
                ⟨(some 61), .mov (.t 1), none⟩,
                ⟨(some 62), .bin .add true (.t 61) (.c (.int .i64 1)), none⟩,
                ⟨(some 63), .mov (.t 2), none⟩,
                ⟨(some 64), .mov (.t 7), none⟩,
                ⟨(some 65), .bin .sub true (.t 63) (.t 64), none⟩,
                ⟨(some 66), .call 26 [(false, (.t 60)), (false, (.t 62)), (false, (.t 65))], none⟩,
                ⟨(some 10), .mov (.t 66), none⟩] [1, 2, 3, 7, 9, 10])
              (.seq
               (.reg false [⟨(some 67), .mov (.t 7), none⟩,
                 ⟨(some 68), .mov (.t 10), none⟩,
                 ⟨(some 69), .bin .add true (.t 67) (.t 68), none⟩,
                 ⟨(some 7), .mov (.t 69), none⟩] [1, 2, 3, 7, 9])
               (.seq
                (.reg false [⟨(some 70), .mov (.t 7), none⟩,
                  ⟨(some 71), .mov (.t 2), none⟩,
                  ⟨(some 72), .bin .gtr true (.t 70) (.t 71), none⟩] [1, 2, 3, 7, 9, 72])
                (.cond 72
                 (.seq
                  (.reg false [⟨(some 6), .mov (.c (.int .i64 1000)), none⟩] [6])
                  .ret)
                 (.reg false [] [1, 2, 3, 7, 9]))))))
            (.reg false [⟨(some 54), .mov (.t 9), none⟩,
              ⟨(some 55), .bin .add true (.t 54) (.c (.int .i64 1)), none⟩,
              ⟨(some 9), .mov (.t 55), none⟩] [1, 2, 3, 7, 9]))))))
       (.seq
        (.reg false [⟨(some 73), .mov (.t 7), none⟩,
          ⟨(some 6), .mov (.t 73), none⟩] [6])
        .ret))))))
def rs26 : List RS := [.tmp 6]
/-- padlock/padlocklaw10.over -/
def rc8 : RC :=
  (.seq
   (.reg false [⟨(some 1), .box (.t 0), none⟩,
     ⟨(some 2), .mov (.c (.bool false)), none⟩] [1])
   (.seq
    (.reg false [⟨(some 3), .loadB 1 5 true, none⟩,
      ⟨(some 4), .call 26 [(false, (.t 3)), (false, (.c (.int .i64 0))), (false, (.c (.int .i64 150)))], none⟩,
      ⟨(some 5), .bin .gtr true (.t 4) (.c (.int .i64 150)), none⟩,
      ⟨(some 2), .mov (.t 5), none⟩] [2])
    .ret))
def rs8 : List RS := [.tmp 2]
theorem nd_inj {a b : Nd} : AV.agg a.av = AV.agg b.av ↔ a = b := ⟨fun h => av_inj _ _ (AV.agg.inj h), fun h => by rw [h]⟩
theorem nd_inj2 {α : Type} {f : Nd → Nat → α} : ∀ a b : Nd × Nat, [AV.agg a.1.av, AV.int .i64 a.2] = [AV.agg b.1.av, AV.int .i64 b.2] → f a.1 a.2 = f b.1 b.2 := by
  rintro ⟨x, i⟩ ⟨y, j⟩ h
  simp only [List.cons.injEq, AV.agg.injEq, AV.int.injEq, true_and, and_true, Int.natCast_inj] at h
  rw [av_inj _ _ h.1, h.2]
theorem pf28 (x : Nd) (i : Nat)  : PFx Try.prog 28 [.agg x.av, .int .i64 i] (.str (nm x.names i)) := by
  refine PFx_of_W (rc := rc28) (rs := rs28) Try.func28 rfl T33_ok hm (by kernel_rfl) (by kernel_rfl) (by simp [Try.ntmps28]) ?_
  obtain ⟨k, n, s, kids, names⟩ := x
  by_cases h : i < names.length
  · simp [rc28, rs28, Nd.av, nm, Nd.names, h, List.getD]
    omega
  · simp [rc28, rs28, Nd.av, nm, Nd.names, h, List.getD]
noncomputable def T28 : Tab := tabAdd T33 28 (fun _ : Nd × Nat => True) (fun z => [.agg z.1.av, .int .i64 z.2]) (fun z => .str (nm z.1.names z.2))
@[simp] theorem T28_eq (x : Nd) (i : Nat)  : T28 28 [.agg x.av, .int .i64 i] = some (.str (nm x.names i)) := tabAdd_eq (a := (x, i)) (nd_inj2 (f := fun x i => AV.str (nm x.names i))) trivial rfl
@[simp] theorem T28_ne {g : Nat} {xs : List AV} (h : g ≠ 28) : T28 g xs = T33 g xs := tabAdd_ne h
theorem T28_ok : Sound Try.prog T28 := tabAdd_sound T33_ok fun z _ => pf28 z.1 z.2 
noncomputable def R12 (m : Nat) : Tab := tabAdd T28 12 (fun z : Nd × Nat => (z.2 ≤ 100) ∧ z.1.sz < m) (fun z => [.agg z.1.av, .int .i64 z.2]) (fun z => .int .i64 (chk z.2 z.1))
theorem R12_eq (m : Nat) (x : Nd) (d : Nat) (h : d ≤ 100) (hm : x.sz < m) : R12 m 12 [.agg x.av, .int .i64 d] = some (.int .i64 (chk d x)) := tabAdd_eq (a := (x, d)) (nd_inj2 (f := fun x d => AV.int .i64 (chk d x))) ⟨h, hm⟩ rfl
@[simp] theorem R12_ne {m g : Nat} {xs : List AV} (h : g ≠ 12) : R12 m g xs = T28 g xs := tabAdd_ne h
theorem pf12 (x : Nd) (d : Nat) (h : d ≤ 100) : PFx Try.prog 12 [.agg x.av, .int .i64 d] (.int .i64 (chk d x)) := by
  refine tabRec (T := T28) (p := fun z : Nd × Nat => z.2 ≤ 100) (args := fun z => [.agg z.1.av, .int .i64 z.2]) (res := fun z => .int .i64 (chk z.2 z.1)) (fun z => z.1.sz) T28_ok (fun z h hT => ?_) (by unfold inPlace; omega) (x, d) h
  obtain ⟨x, d⟩ := z
  try dsimp only at h
  replace hT : Sound Try.prog (R12 (x.sz)) := hT
  refine PFx_of_W (rc := rc12) (rs := rs12) Try.func12 rfl hT hm (by kernel_rfl) (by kernel_rfl) (by simp [Try.ntmps12]) ?_
  obtain ⟨k, n, s, kids, names⟩ := x
  have hname : ∀ i : Nat, T28 28 [.agg (Nd.av (.mk k n s kids names)), .int .i64 i] = some (.str (nm names i)) := fun i => T28_eq (.mk k n s kids names) i
  simp only [Nd.av] at hname ⊢
  rw [chk]
  by_cases h1 : 5 < k.toNat
  · have h1' : (5 : Int) < k.toNat := by omega
    simp [rc12, rs12, h1, h1']
  have h1' : ¬ (5 : Int) < k.toNat := by omega
  rw [if_neg h1]
  by_cases h2 : k.toNat = 3
  · have h2' : (k.toNat : Int) = 3 := by omega
    by_cases h3 : 65535 < s.length
    · have h3' : (65535 : Int) < s.length := by omega
      simp [rc12, rs12, h2, h2', h3, h3']
    · have h3' : ¬ (65535 : Int) < s.length := by omega
      simp [rc12, rs12, h2, h2', h3, h3']
  have h2' : ¬ (k.toNat : Int) = 3 := by omega
  rw [if_neg (fun hh => h2 hh.1)]
  by_cases h4 : k.toNat < 4
  · have h4' : (k.toNat : Int) < 4 := by omega
    simp [rc12, rs12, h1', h2', h4, h4']
  have h4' : ¬ (k.toNat : Int) < 4 := by omega
  rw [if_neg h4]
  by_cases h5 : 4 ≤ d
  · have h5' : (4 : Int) ≤ d := by omega
    simp [rc12, rs12, h1', h2', h4', h5, h5']
  have h5' : ¬ (4 : Int) ≤ d := by omega
  rw [if_neg h5]
  by_cases h6 : 64 < kids.length
  · have h6' : (64 : Int) < kids.length := by omega
    simp [rc12, rs12, h1', h2', h4', h5', h6, h6']
  have h6' : ¬ (64 : Int) < kids.length := by omega
  rw [if_neg h6]
  simp [rc12, rs12, h1', h2', h4', h5', h6']
  refine W_varU (fun i : Nat => i ≤ kids.length ∧ chkL (d + 1) (decide (k.toNat = 5)) names 0 kids = chkL (d + 1) (decide (k.toNat = 5)) names i (kids.drop i)) (fun i => kids.length - i) (fun i => [(5, .int .i64 i)]) 0 ⟨Nat.zero_le _, rfl⟩ (by simp) ?_
  rintro i ⟨hi, hc⟩
  rw [hc]
  rcases Nat.lt_or_ge i kids.length with hlt | hge
  · rw [drop_eq kids i hlt, chkL]
    have hlt' : (i : Int) < kids.length := by omega
    have hl := chk_le (d + 1) kids[i]
    have q := R12_eq (Nd.sz (.mk k n s kids names)) kids[i] (d + 1) (by omega) (size_kid hlt)
    rw [← avs_get kids i hlt] at q
    have q1 := hname i
    have hb : 5 ≤ kids.length * 5 - i * 5 := by omega
    have hd1 : (d : Int) + 1 ≤ 9223372036854775807 := by omega
    have hd0 : (-9223372036854775808 : Int) ≤ (d : Int) + 1 := by omega
    by_cases h7 : k.toNat = 5
    · have h7' : (k.toNat : Int) = 5 := by omega
      rw [h7'] at q1
      have q0 : ∀ j : Nat, T28 28 [.agg [.int .u8 5, .int .u64 (bv n), .str s, .sl (avs kids) kids.length, .sl (names.map .str) names.length], .int .i64 j] = some (.str (nm names j)) := fun j => by rw [← hname j, h7']
      by_cases h8 : 65535 < (nm names i).length
      · have h8' : (65535 : Int) < (nm names i).length := by omega
        simp [hlt', h7, h7', q1, h8, h8']
      have h8' : ¬ (65535 : Int) < (nm names i).length := by omega
      cases i with
      | zero =>
        simp at q q1 hb
        by_cases h9 : chk (d + 1) kids[0] = 0
        · have h9' : (chk (d + 1) kids[0] : Int) = 0 := by omega
          simp [hlt, hlt', h7, h7', q1, h8, h8', q, hb, hd1, hd0, h9, h9']
          exact ⟨1, ⟨by omega, by rw [List.drop_one]⟩, by omega, rfl⟩
        · have h9' : ¬ (chk (d + 1) kids[0] : Int) = 0 := by omega
          simp [hlt, hlt', h7, h7', q1, h8, h8', q, hb, hd1, hd0, h9, h9']
      | succ i =>
        have g0 : (0 : Int) < i + 1 := by omega
        have g5 : (i : Int) ≤ 9223372036854775807 := by omega
        have q2 := q0 i
        have g3 : ((i : Int) + 1).toNat = i + 1 := by omega
        have g4 : (0 : Int) ≤ i + 1 := by omega
        rw [Int.natCast_add, Int.natCast_one] at q1 hlt'
        cases hb9 : Op.bytesLess (nm names i) (nm names (i + 1))
        · simp [hlt, hlt', h7, h7', q1, h8, h8', g0, g5, q2, hb9]
        · by_cases h9 : chk (d + 1) kids[i + 1] = 0
          · have h9' : (chk (d + 1) kids[i + 1] : Int) = 0 := by omega
            have q' := q
            rw [Int.natCast_add, Int.natCast_one] at q'
            simp [hlt, hlt', h7, h7', q1, h8, h8', g0, g5, g3, g4, q2, hb9, q', hb, hd1, hd0, h9, h9']
            exact ⟨⟨by omega, by omega⟩, i + 2, ⟨by omega, rfl⟩, by omega, by omega⟩
          · have h9' : ¬ (chk (d + 1) kids[i + 1] : Int) = 0 := by omega
            have q' := q
            rw [Int.natCast_add, Int.natCast_one] at q'
            simp [hlt, hlt', h7, h7', q1, h8, h8', g0, g5, g3, g4, q2, hb9, q', hb, hd1, hd0, h9, h9']
    · have h7' : ¬ (k.toNat : Int) = 5 := by omega
      by_cases h9 : chk (d + 1) kids[i] = 0
      · have h9' : (chk (d + 1) kids[i] : Int) = 0 := by omega
        have q' := q
        rw [Int.natCast_add, Int.natCast_one] at q'
        simp [hlt, hlt', h7, h7', q', hb, hd1, hd0, h9, h9']
        exact ⟨by omega, i + 1, ⟨by omega, rfl⟩, by omega, by omega⟩
      · have h9' : ¬ (chk (d + 1) kids[i] : Int) = 0 := by omega
        have q' := q
        rw [Int.natCast_add, Int.natCast_one] at q'
        simp [hlt, hlt', h7, h7', q', hb, hd1, hd0, h9, h9']
  · have e : i = kids.length := by omega
    subst e
    simp [chkL]
noncomputable def T12 : Tab := tabAdd T28 12 (fun z : Nd × Nat => z.2 ≤ 100) (fun z => [.agg z.1.av, .int .i64 z.2]) (fun z => .int .i64 (chk z.2 z.1))
@[simp] theorem T12_eq (x : Nd) (d : Nat) (h : d ≤ 100) : T12 12 [.agg x.av, .int .i64 d] = some (.int .i64 (chk d x)) := tabAdd_eq (a := (x, d)) (nd_inj2 (f := fun x d => AV.int .i64 (chk d x))) h rfl
@[simp] theorem T12_ne {g : Nat} {xs : List AV} (h : g ≠ 12) : T12 g xs = T28 g xs := tabAdd_ne h
theorem T12_ok : Sound Try.prog T12 := tabAdd_sound T28_ok fun z h => pf12 z.1 z.2 h
theorem pf22 (x : Nd) (t : Tx) (h : x.kids.length ≤ 1000000) : PFx Try.prog 22 [.agg x.av, .str t] (.int .i64 (find x t)) := by
  refine PFx_of_W (rc := rc22) (rs := rs22) Try.func22 rfl T12_ok hm (by kernel_rfl) (by kernel_rfl) (by simp [Try.ntmps22]) ?_
  obtain ⟨k, n, s, kids, names⟩ := x
  have hname : ∀ i : Nat, T28 28 [.agg (Nd.av (.mk k n s kids names)), .int .i64 i] = some (.str (nm names i)) := fun i => T28_eq (.mk k n s kids names) i
  simp only [Nd.kids] at h
  simp only [Nd.av] at hname ⊢
  by_cases h7 : k.toNat = 5
  · have h7' : (k.toNat : Int) = 5 := by omega
    rw [find, if_pos h7]
    simp [rc22, rs22]
    refine W_varU (fun i : Nat => i ≤ kids.length ∧ fnd names t 0 kids.length = fnd names t i (kids.length - i)) (fun i => kids.length - i) (fun i => [(5, .int .i64 i)]) 0 ⟨Nat.zero_le _, rfl⟩ (by simp) ?_
    rintro i ⟨hi, hc⟩
    rw [hc]
    have q1 := hname i
    rw [h7'] at q1
    rcases Nat.lt_or_ge i kids.length with hlt | hge
    · obtain ⟨m, hm⟩ : ∃ m, kids.length - i = m + 1 := ⟨kids.length - i - 1, by omega⟩
      have hm' : m = kids.length - (i + 1) := by omega
      have hlt' : (i : Int) < kids.length := by omega
      rw [hm, fnd]
      by_cases h8 : nm names i = t
      · simp [hlt, hlt', h7', q1, h8, Nd.names]
      · simp [hlt, hlt', h7', q1, h8, Nd.names]
        exact ⟨by omega, i + 1, ⟨by omega, by rw [hm']⟩, by omega, by omega⟩
    · have e : i = kids.length := by omega
      subst e
      simp [fnd]
  · have h7' : ¬ (k.toNat : Int) = 5 := by omega
    rw [find, if_neg h7]
    simp [rc22, rs22]
    refine W_varU (fun i : Nat => i = 0) (fun i => 0) (fun i => [(5, .int .i64 i)]) 0 rfl (by simp) ?_
    rintro i rfl
    by_cases h8 : kids.length = 0
    · simp [h8]
    · have h8' : 0 < kids.length := by omega
      have h8'' : (0 : Int) < kids.length := by omega
      simp [h8', h8'', h7']
noncomputable def T22 : Tab := tabAdd T12 22 (fun z : Nd × Tx => z.1.kids.length ≤ 1000000) (fun z => [.agg z.1.av, .str z.2]) (fun z => .int .i64 (find z.1 z.2))
@[simp] theorem T22_eq (x : Nd) (t : Tx) (h : x.kids.length ≤ 1000000) : T22 22 [.agg x.av, .str t] = some (.int .i64 (find x t)) := tabAdd_eq (a := (x, t)) (by rintro ⟨x, i⟩ ⟨y, j⟩ h; simp at h; rw [av_inj _ _ h.1, h.2]) h rfl
@[simp] theorem T22_ne {g : Nat} {xs : List AV} (h : g ≠ 22) : T22 g xs = T12 g xs := tabAdd_ne h
theorem T22_ok : Sound Try.prog T22 := tabAdd_sound T12_ok fun z h => pf22 z.1 z.2 h
end Go.Proofs.Ytbikpgaiocjnoaa

