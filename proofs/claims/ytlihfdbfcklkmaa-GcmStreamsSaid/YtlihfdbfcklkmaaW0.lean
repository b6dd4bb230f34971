/- gcm, of the document. -/
import Derived.Test.YtlihfdbfcklkmaaH1
import Derived.Test.YtlihfdbfcklkmaaWM
set_option linter.unusedVariables false
set_option linter.unusedSimpArgs false
namespace Go.Proofs.Ytlihfdbfcklkmaa
open Go.Proofs.Ytlihfdbfcklkmaa.Pad Go.Proofs.Ytlihfdbfcklkmaa.Pad.Ci Go.Proofs.Ytlihfdbfcklkmaa.Pad.Gc
open Go.Proofs.Ytlihfdbfcklkmaa.Pad.Gh (tx sumT)
/-- padlock/padlockref09.Hash -/
def rc15 : RC :=
  (.seq
   (.reg false [⟨(some 1), .box (.t 0), none⟩,
     ⟨(some 2), .alloc (List.replicate 16 (.int .u8 0)), none⟩] [1, 2])
   (.seq
    (.reg false [⟨(some 3), .alloc (List.replicate 16 (.int .u8 0)), none⟩] [1, 2, 3])
    (.seq
     (.reg true [⟨(some 4), .loadB 1 16 true, none⟩,
       ⟨(some 5), .call 22 [(false, (.t 4))], none⟩,
       ⟨(some 6), .loadB 3 16 true, none⟩,
       ⟨(some 7), .call 23 [(false, (.t 5)), (false, (.t 6))], none⟩,
       ⟨none, .stB 2 16 (.t 7), none⟩] [2])
     .ret)))
def rs15 : List RS := [.cell 2 16 true]
/-- padlock/padlockref09.Counter -/
def rc24 : RC :=
  (.seq
   (.reg false [⟨(some 4), .alloc (List.replicate 16 (.int .u8 0)), none⟩] [0, 1, 4])
   (.seq
    (.reg false [⟨(some 5), .alloc (List.replicate 16 (.int .u8 0)), none⟩] [0, 1, 4, 5])
    (.seq
     (.seq
      (.reg false [⟨(some 6), .mov (.c (.int .i64 0)), none⟩] [0, 1, 4, 5, 6])
      (.block 0
       (.loop
        (.seq
         (.seq
          (.reg false [⟨(some 8), .mov (.t 6), none⟩,
            ⟨(some 9), .bin .lss true (.t 8) (.c (.int .i64 12)), none⟩] [0, 1, 4, 5, 6, 9])
          (.cond 9
           (.reg false [] [0, 1, 4, 5, 6])
           (.seq
            (.reg false [] [1, 4, 5])
            (.exit 0))))
         (.seq
          (.block 1
           (.reg false [⟨(some 12), .mov (.t 6), none⟩,
             ⟨(some 13), .mov (.t 0), none⟩,
             ⟨(some 14), .mov (.t 6), none⟩,
             ⟨(some 15), .sidx (.t 13) (.t 14), none⟩,
             ⟨(some 16), .idxB 5 1 16 (.t 12), none⟩,
             ⟨none, .stR 16 5 1 (.t 15), none⟩] [0, 1, 4, 5, 6]))
          (.reg false [⟨(some 10), .mov (.t 6), none⟩,
            ⟨(some 11), .bin .add true (.t 10) (.c (.int .i64 1)), none⟩,
            ⟨(some 6), .mov (.t 11), none⟩] [0, 1, 4, 5, 6]))))))
     (.seq
      (.seq
       (.reg false [⟨(some 7), .mov (.c (.int .i64 15)), none⟩] [1, 4, 5, 7])
       (.block 2
        (.loop
         (.seq
          (.seq
           (.reg false [⟨(some 17), .mov (.t 7), none⟩,
             ⟨(some 18), .bin .geq true (.t 17) (.c (.int .i64 12)), none⟩] [1, 4, 5, 7, 18])
           (.cond 18
            (.reg false [] [1, 4, 5, 7])
            (.seq
             (.reg false [] [4, 5])
             (.exit 2))))
          (.seq
           (.block 3
            (.seq
             (.reg false [⟨(some 21), .mov (.t 7), none⟩,
               ⟨(some 22), .mov (.t 1), none⟩,
               ⟨(some 23), .bin .rem false (.t 22) (.c (.int .u32 256)), none⟩,
               ⟨(some 24), .conv false .u8 (.t 23), none⟩,
               ⟨(some 25), .idxB 5 1 16 (.t 21), none⟩,
               ⟨none, .stR 25 5 1 (.t 24), none⟩] [1, 4, 5, 7])
             (.reg false [⟨(some 26), .mov (.t 1), none⟩,
               ⟨(some 27), .bin .quo false (.t 26) (.c (.int .u32 256)), none⟩,
               ⟨(some 1), .mov (.t 27), none⟩] [1, 4, 5, 7])))
           (.reg false [⟨(some 19), .mov (.t 7), none⟩,
             ⟨(some 20), .bin .sub true (.t 19) (.c (.int .i64 1)), none⟩,
             ⟨(some 7), .mov (.t 20), none⟩] [1, 4, 5, 7]))))))
      (.seq
       (.reg false [⟨(some 28), .loadB 5 16 true, none⟩,
         ⟨none, .stB 4 16 (.t 28), none⟩] [4])
       .ret)))))
def rs24 : List RS := [.cell 4 16 true]
/-- padlock/padlockref09.Stream -/
def rc11 : RC :=
  (.seq
   (.reg false [⟨(some 4), .box (.t 0), none⟩,
     ⟨(some 8), .mov (.c (.str [])), none⟩,
     ⟨(some 9), .mov (.c (.int .i64 0)), none⟩] [1, 2, 3, 4])
   (.seq
    (.seq
     (.reg false [⟨(some 15), .mov (.t 1), none⟩,
       ⟨(some 16), .len true (.t 15), none⟩,
       ⟨(some 17), .bin .neq true (.t 16) (.c (.int .i64 12)), none⟩] [1, 2, 3, 4, 17])
     (.cond 17
      (.seq
       (.reg false [⟨(some 8), .mov (.c (.str [])), none⟩,
         ⟨(some 9), .mov (.c (.int .i64 2)), none⟩] [8, 9])
       .ret)
      (.reg false [] [1, 2, 3, 4])))
    (.seq
     (.reg false [⟨(some 18), .loadB 4 16 true, none⟩,
       ⟨(some 19), .call 22 [(false, (.t 18))], none⟩,
       ⟨(some 10), .alloc (List.replicate 176 (.int .u8 0)), none⟩,
       ⟨none, .stB 10 176 (.t 19), none⟩] [1, 2, 3, 10])
     (.seq
      (.reg false [⟨(some 20), .mov (.t 3), none⟩,
        ⟨(some 21), .s2bM (.t 20), none⟩,
        ⟨(some 11), .stealM 21, none⟩] [1, 2, 3, 10, 11])
      (.seq
       (.seq
        (.reg false [⟨(some 12), .mov (.c (.int .i64 0)), none⟩] [1, 2, 3, 10, 11, 12])
        (.block 0
         (.loop
          (.seq
           (.seq
            (.reg false [⟨(some 22), .mov (.t 12), none⟩,
              ⟨(some 23), .mov (.t 3), none⟩,
              ⟨(some 24), .len true (.t 23), none⟩,
              ⟨(some 25), .bin .lss true (.t 22) (.t 24), none⟩] [1, 2, 3, 10, 11, 12, 25])
            (.cond 25
             (.reg false [] [1, 2, 3, 10, 11, 12])
             (.seq
              (.reg false [] [11])
              (.exit 0))))
           (.seq
            (.block 1
             (.seq
              (.reg true [⟨(some 28), .loadB 10 176 true, none⟩,
                ⟨(some 29), .mov (.t 1), none⟩,
                ⟨(some 30), .mov (.t 2), none⟩,
                ⟨(some 31), .call 24 [(false, (.t 29)), (false, (.t 30))], none⟩,
                ⟨(some 32), .call 23 [(false, (.t 28)), (false, (.t 31))], none⟩,
                ⟨(some 13), .alloc (List.replicate 16 (.int .u8 0)), none⟩,
                ⟨none, .stB 13 16 (.t 32), none⟩] [1, 2, 3, 10, 11, 12, 13])
              (.seq
               (.seq
                (.reg false [⟨(some 14), .mov (.c (.int .i64 0)), none⟩] [1, 2, 3, 10, 11, 12, 13, 14])
                (.block 2
                 (.loop
                  (.seq
                   (.seq
                    (.reg false [⟨(some 33), .mov (.t 14), none⟩,
                      ⟨(some 34), .bin .lss true (.t 33) (.c (.int .i64 16)), none⟩,
                      ⟨(some 35), .mov (.t 34), none⟩,
                      ⟨(some 36), .mov (.t 12), (some (35, true))⟩,
                      ⟨(some 37), .mov (.t 14), (some (35, true))⟩,
                      ⟨(some 38), .bin .add true (.t 36) (.t 37), (some (35, true))⟩,
                      ⟨(some 39), .mov (.t 3), (some (35, true))⟩,
                      ⟨(some 40), .len true (.t 39), (some (35, true))⟩,
                      ⟨(some 41), .bin .lss true (.t 38) (.t 40), (some (35, true))⟩,
                      ⟨(some 42), .pick (.t 35) (.t 41) (.c (.bool false)), none⟩] [1, 2, 3, 10, 11, 12, 13, 14, 42])
                    (.cond 42
                     (.reg false [] [1, 2, 3, 10, 11, 12, 13, 14])
                     (.seq
                      (.reg false [] [1, 2, 3, 10, 11, 12])
                      (.exit 2))))
                   (.seq
                    (.block 3
                     (.reg true [⟨(some 45), .al 11, none⟩,
                       ⟨(some 46), .mov (.t 12), none⟩,
                       ⟨(some 47), .mov (.t 14), none⟩,
                       ⟨(some 48), .bin .add true (.t 46) (.t 47), none⟩,
                       ⟨(some 49), .al 11, none⟩,
                       ⟨(some 50), .mov (.t 12), none⟩,
                       ⟨(some 51), .mov (.t 14), none⟩,
                       ⟨(some 52), .bin .add true (.t 50) (.t 51), none⟩,
                       ⟨(some 53), .idxM 49 11 1 (.t 52), none⟩,
                       ⟨(some 54), .loadR 53 11 1 false, none⟩,
                       ⟨(some 55), .mov (.t 14), none⟩,
                       ⟨(some 56), .idxB 13 1 16 (.t 55), none⟩,
                       ⟨(some 57), .loadR 56 13 1 false, none⟩,
                       ⟨(some 58), .bin .xor false (.t 54) (.t 57), none⟩,
                       ⟨(some 59), .idxM 45 11 1 (.t 48), none⟩,
                       ⟨none, .stR 59 11 1 (.t 58), none⟩] [1, 2, 3, 10, 11, 12, 13, 14]))
                    (.reg false [⟨(some 43), .mov (.t 14), none⟩,
                      ⟨(some 44), .bin .add true (.t 43) (.c (.int .i64 1)), none⟩,
                      ⟨(some 14), .mov (.t 44), none⟩] [1, 2, 3, 10, 11, 12, 13, 14]))))))
               (.reg false [⟨(some 60), .mov (.t 2), none⟩,
                 ⟨(some 61), .bin .add false (.t 60) (.c (.int .u32 1)), none⟩,
                 ⟨(some 2), .mov (.t 61), none⟩] [1, 2, 3, 10, 11, 12]))))
            (.reg false [⟨(some 26), .mov (.t 12), none⟩,
              ⟨(some 27), .bin .add true (.t 26) (.c (.int .i64 16)), none⟩,
              ⟨(some 12), .mov (.t 27), none⟩] [1, 2, 3, 10, 11, 12]))))))
       (.seq
        (.reg false [⟨(some 62), .al 11, none⟩,
          ⟨(some 63), .b2sM 62 11, none⟩,
          ⟨(some 8), .mov (.t 63), none⟩,
          ⟨(some 9), .mov (.c (.int .i64 0)), none⟩] [8, 9])
        .ret))))))
def rs11 : List RS := [.tmp 8, .tmp 9]
/-- padlock/padlockref09.Tag -/
def rc13 : RC :=
  (.seq
   (.reg false [⟨(some 4), .box (.t 0), none⟩,
     ⟨(some 8), .mov (.c (.str [])), none⟩,
     ⟨(some 9), .mov (.c (.int .i64 0)), none⟩] [1, 2, 3, 4])
   (.seq
    (.seq
     (.reg false [⟨(some 12), .mov (.t 1), none⟩,
       ⟨(some 13), .len true (.t 12), none⟩,
       ⟨(some 14), .bin .neq true (.t 13) (.c (.int .i64 12)), none⟩] [1, 2, 3, 4, 14])
     (.cond 14
      (.seq
       (.reg false [⟨(some 8), .mov (.c (.str [])), none⟩,
         ⟨(some 9), .mov (.c (.int .i64 2)), none⟩] [8, 9])
       .ret)
      (.reg false [] [1, 2, 3, 4])))
    (.seq
     (.reg false [⟨(some 15), .loadB 4 16 true, none⟩,
       ⟨(some 16), .call 15 [(false, (.t 15))], none⟩,
       ⟨(some 17), .mov (.t 2), none⟩,
       ⟨(some 18), .mov (.t 3), none⟩,
       ⟨(some 19), .call 26 [(false, (.t 16)), (false, (.t 17)), (false, (.t 18))], none⟩,
       ⟨(some 10), .alloc (List.replicate 16 (.int .u8 0)), none⟩,
       ⟨none, .stB 10 16 (.t 19), none⟩] [1, 4, 10])
     (.seq
      (.reg true [⟨(some 20), .loadB 10 16 true, none⟩,
        ⟨(some 21), .loadB 4 16 true, none⟩,
        ⟨(some 22), .call 22 [(false, (.t 21))], none⟩,
        ⟨(some 23), .mov (.t 1), none⟩,
        ⟨(some 24), .call 24 [(false, (.t 23)), (false, (.c (.int .u32 1)))], none⟩,
        ⟨(some 25), .call 23 [(false, (.t 22)), (false, (.t 24))], none⟩,
        ⟨(some 26), .call 27 [(false, (.t 20)), (false, (.t 25))], none⟩,
        ⟨(some 11), .alloc (List.replicate 16 (.int .u8 0)), none⟩,
        ⟨none, .stB 11 16 (.t 26), none⟩] [11])
      (.seq
       (.reg false [⟨(some 27), .winB 11 1 16 none none, none⟩,
         ⟨(some 28), .b2sM 27 11, none⟩,
         ⟨(some 8), .mov (.t 28), none⟩,
         ⟨(some 9), .mov (.c (.int .i64 0)), none⟩] [8, 9])
       .ret)))))
def rs13 : List RS := [.tmp 8, .tmp 9]
/-- padlock/padlockref09.Seal -/
def rc17 : RC :=
  (.seq
   (.reg false [⟨(some 4), .box (.t 0), none⟩,
     ⟨(some 8), .mov (.c (.str [])), none⟩,
     ⟨(some 9), .mov (.c (.int .i64 0)), none⟩] [1, 2, 3, 4])
   (.seq
    (.reg false [⟨(some 15), .loadB 4 16 true, none⟩,
      ⟨(some 16), .mov (.t 1), none⟩,
      ⟨(some 17), .mov (.t 3), none⟩,
      ⟨(some 18), .call 11 [(false, (.t 15)), (false, (.t 16)), (false, (.c (.int .u32 2))), (false, (.t 17))], none⟩,
      ⟨(some 14), .mov (.t 18), none⟩,
      ⟨(some 19), .ext (.t 14) 0, none⟩,
      ⟨(some 20), .ext (.t 14) 1, none⟩,
      ⟨(some 10), .mov (.t 19), none⟩,
      ⟨(some 11), .mov (.t 20), none⟩] [1, 2, 4, 10, 11])
    (.seq
     (.seq
      (.reg false [⟨(some 21), .mov (.t 11), none⟩,
        ⟨(some 22), .bin .neq true (.t 21) (.c (.int .i64 0)), none⟩] [1, 2, 4, 10, 11, 22])
      (.cond 22
       (.seq
        (.reg false [⟨(some 23), .mov (.t 11), none⟩,
          ⟨(some 8), .mov (.c (.str [])), none⟩,
          ⟨(some 9), .mov (.t 23), none⟩] [8, 9])
        .ret)
       (.reg false [] [1, 2, 4, 10])))
     (.seq
      (.reg false [⟨(some 25), .loadB 4 16 true, none⟩,
        ⟨(some 26), .mov (.t 1), none⟩,
        ⟨(some 27), .mov (.t 2), none⟩,
        ⟨(some 28), .mov (.t 10), none⟩,
        ⟨(some 29), .call 13 [(false, (.t 25)), (false, (.t 26)), (false, (.t 27)), (false, (.t 28))], none⟩,
        ⟨(some 24), .mov (.t 29), none⟩,
        ⟨(some 30), .ext (.t 24) 0, none⟩,
        ⟨(some 31), .ext (.t 24) 1, none⟩,
        ⟨(some 12), .mov (.t 30), none⟩,
        ⟨(some 13), .mov (.t 31), none⟩] [10, 12])
      (.seq
       (.reg false [⟨(some 32), .mov (.t 10), none⟩,
         ⟨(some 33), .mov (.t 12), none⟩,
         ⟨(some 34), .bin .add false (.t 32) (.t 33), none⟩,
         ⟨(some 8), .mov (.t 34), none⟩,
         ⟨(some 9), .mov (.c (.int .i64 0)), none⟩] [8, 9])
       .ret)))))
def rs17 : List RS := [.tmp 8, .tmp 9]
/-- padlock/padlockref09.Open -/
def rc19 : RC :=
  (.seq
   (.reg false [⟨(some 4), .box (.t 0), none⟩,
     ⟨(some 8), .mov (.c (.str [])), none⟩,
     ⟨(some 9), .mov (.c (.int .i64 0)), none⟩] [1, 2, 3, 4])
   (.seq
    (.seq
     (.reg false [⟨(some 15), .mov (.t 1), none⟩,
       ⟨(some 16), .len true (.t 15), none⟩,
       ⟨(some 17), .bin .neq true (.t 16) (.c (.int .i64 12)), none⟩] [1, 2, 3, 4, 17])
     (.cond 17
      (.seq
       (.reg false [⟨(some 8), .mov (.c (.str [])), none⟩,
         ⟨(some 9), .mov (.c (.int .i64 2)), none⟩] [8, 9])
       .ret)
      (.reg false [] [1, 2, 3, 4])))
    (.seq
     (.seq
      (.reg false [⟨(some 18), .mov (.t 3), none⟩,
        ⟨(some 19), .len true (.t 18), none⟩,
        ⟨(some 20), .bin .lss true (.t 19) (.c (.int .i64 16)), none⟩] [1, 2, 3, 4, 20])
      (.cond 20
       (.seq
        (.reg false [⟨(some 8), .mov (.c (.str [])), none⟩,
          ⟨(some 9), .mov (.c (.int .i64 3)), none⟩] [8, 9])
        .ret)
       (.reg false [] [1, 2, 3, 4])))
     (.seq
      (.reg false [⟨(some 21), .mov (.t 3), none⟩,
        ⟨(some 22), .mov (.t 3), none⟩,
        ⟨(some 23), .len true (.t 22), none⟩,
        ⟨(some 24), .bin .sub true (.t 23) (.c (.int .i64 16)), none⟩,
        ⟨(some 25), .ssl (.t 21) none (some (.t 24)), none⟩,
        ⟨(some 10), .mov (.t 25), none⟩] [1, 2, 3, 4, 10])
      (.seq
       (.reg false [⟨(some 27), .loadB 4 16 true, none⟩,
         ⟨(some 28), .mov (.t 1), none⟩,
         ⟨(some 29), .mov (.t 2), none⟩,
         ⟨(some 30), .mov (.t 10), none⟩,
         ⟨(some 31), .call 13 [(false, (.t 27)), (false, (.t 28)), (false, (.t 29)), (false, (.t 30))], none⟩,
         ⟨(some 26), .mov (.t 31), none⟩,
         ⟨(some 32), .ext (.t 26) 0, none⟩,
         ⟨(some 33), .ext (.t 26) 1, none⟩,
         ⟨(some 11), .mov (.t 32), none⟩,
         ⟨(some 12), .mov (.t 33), none⟩] [1, 3, 4, 10, 11])
       (.seq
        (.seq
         (.reg false [⟨(some 34), .mov (.t 11), none⟩,
           ⟨(some 35), .mov (.t 3), none⟩,
           ⟨(some 36), .mov (.t 3), none⟩,
           ⟨(some 37), .len true (.t 36), none⟩,
           ⟨(some 38), .bin .sub true (.t 37) (.c (.int .i64 16)), none⟩,
           ⟨(some 39), .ssl (.t 35) (some (.t 38)) none, none⟩,
           ⟨(some 40), .bin .neq false (.t 34) (.t 39), none⟩] [1, 4, 10, 40])
         (.cond 40
          (.seq
           (.reg false [⟨(some 8), .mov (.c (.str [])), none⟩,
             ⟨(some 9), .mov (.c (.int .i64 11)), none⟩] [8, 9])
           .ret)
          (.reg false [] [1, 4, 10])))
        (.seq
         (.reg false [⟨(some 42), .loadB 4 16 true, none⟩,
           ⟨(some 43), .mov (.t 1), none⟩,
           ⟨(some 44), .mov (.t 10), none⟩,
           ⟨(some 45), .call 11 [(false, (.t 42)), (false, (.t 43)), (false, (.c (.int .u32 2))), (false, (.t 44))], none⟩,
           ⟨(some 41), .mov (.t 45), none⟩,
           ⟨(some 46), .ext (.t 41) 0, none⟩,
           ⟨(some 47), .ext (.t 41) 1, none⟩,
           ⟨(some 13), .mov (.t 46), none⟩,
           ⟨(some 14), .mov (.t 47), none⟩] [13])
         (.seq
          (.reg false [⟨(some 48), .mov (.t 13), none⟩,
            ⟨(some 8), .mov (.t 48), none⟩,
            ⟨(some 9), .mov (.c (.int .i64 0)), none⟩] [8, 9])
          .ret))))))))
def rs19 : List RS := [.tmp 8, .tmp 9]
theorem ks_176 {f g : Bl} (h : ∀ i, i < 16 → f i = g i) : ks f = ks g := funext fun m => ks_ag h m
theorem pd_ag {f g : Bl} (h : ∀ i, i < 16 → f i = g i) : pd f = pd g := by
  funext iv n j; unfold pd; rw [ks_176 h]
theorem strm_ag {f g : Bl} (h : ∀ i, i < 16 → f i = g i) : strm f = strm g := by
  funext iv n l; unfold strm; rw [pd_ag h]
theorem hsh_ag {f g : Bl} (h : ∀ i, i < 16 → f i = g i) : hsh f = hsh g := by unfold hsh; rw [ks_176 h]
theorem tag_ag {f g : Bl} (h : ∀ i, i < 16 → f i = g i) : tag f = tag g := by
  funext iv ad s; unfold tag tagB; rw [ks_176 h, hsh_ag h]
theorem hshB (f : Bl) : vec8 16 (sel (ks f) fun _ => 0#8) = vec8 16 (Gh.blk (hsh f)) := vec8_ext fun i hi => by unfold hsh; rw [Gh.blk_pol _ _ hi]
theorem pf15 (f : Bl)  : PFx Try.prog 15 [.agg (vec8 16 f)] (.agg (vec8 16 (Gh.blk (hsh f)))) := by
  refine PFx_of_W (rc := rc15) (rs := rs15) Try.func15 rfl T37_ok hm (by kernel_rfl) (by kernel_rfl) (by simp [Try.ntmps15]) ?_
  simp [rc15, rs15, vec8_zero, hshB, -vec8_inj]
noncomputable def T15 : Tab := tabAdd T37 15 (fun _ : Bl => True) (fun z => [.agg (vec8 16 z)]) (fun z => .agg (vec8 16 (Gh.blk (hsh z))))
@[simp] theorem T15_eq (f : Bl)  : T15 15 [.agg (vec8 16 f)] = some (.agg (vec8 16 (Gh.blk (hsh f)))) := tabAdd_eq (a := f) (fun f g h => by simp at h ⊢; rw [hsh_ag h]) trivial rfl
@[simp] theorem T15_ne {g : Nat} {xs : List AV} (h : g ≠ 15) : T15 g xs = T37 g xs := tabAdd_ne h
theorem T15_ok : Sound Try.prog T15 := tabAdd_sound T37_ok fun z _ => pf15 z 
/-- The counter's bytes, from the last one on. -/
def cto (iv : List UInt8) (n : BitVec 32) (k : Nat) : Bl := fun i => if i < 12 then tx iv i else if 16 ≤ i + k then ctr iv n i else 0#8
theorem cto_4 (iv : List UInt8) (n : BitVec 32) : vec8 16 (cto iv n 4) = vec8 16 (ctr iv n) := vec8_ext fun i hi => by
  unfold cto
  by_cases h : i < 12
  · rw [if_pos h]; unfold ctr; rw [if_pos h]
  · rw [if_neg h, if_pos (by omega)]
theorem cto_set (iv : List UInt8) (n : BitVec 32) (k : Nat) (h : k < 4) : splice (vec8 16 (cto iv n k)) (15 - k) [.int .u8 (bv (BitVec.ofNat 8 (n.toNat / 256 ^ k)))] = vec8 16 (cto iv n (k + 1)) := by
  rw [vec8_set 16 (15 - k) _ _ (by omega)]
  refine vec8_ext fun i hi => ?_
  unfold cto
  by_cases e : i = 15 - k
  · subst e; rw [if_pos rfl, if_neg (by omega), if_pos (by omega), ctr, if_neg (by omega), show 15 - (15 - k) = k by omega]
  · rw [if_neg e]
    by_cases h1 : i < 12
    · rw [if_pos h1, if_pos h1]
    · rw [if_neg h1, if_neg h1]
      by_cases h2 : 16 ≤ i + k
      · rw [if_pos h2, if_pos (by omega)]
      · rw [if_neg h2, if_neg (by omega)]
theorem pf24 (iv : List UInt8) (n : BitVec 32) (h : iv.length = 12) : PFx Try.prog 24 [.str iv, .int .u32 (bv n)] (.agg (vec8 16 (ctr iv n))) := by
  refine PFx_of_W (rc := rc24) (rs := rs24) Try.func24 rfl T15_ok hm (by kernel_rfl) (by kernel_rfl) (by simp [Try.ntmps24]) ?_
  simp [rc24, rs24, vec8_zero]
  refine W_forU 12 (fun _ => True) (fun k => [(5, .box (vec8 16 (upto k (tx iv) fun _ => 0#8))), (6, .int .i64 k)]) trivial (by simp [upto_zero]) (fun k hk _ => ?_) fun _ => ?_
  · have hk' : (k : Int) < 12 := by omega
    have il : k < iv.length := by omega
    have e := upto_set 16 k (tx iv) (fun _ => 0#8) (by omega)
    have x1 : (((iv[k]'il).toNat : Nat) : Int) = bv (tx iv k) := by
      unfold tx
      rw [List.getD_eq_getElem?_getD, List.getElem?_eq_getElem il, bv_byte]; rfl
    simp [hk', hk, il, x1, e, -splice]
    omega
  · have e0 : vec8 16 (upto 12 (tx iv) fun _ => 0#8) = vec8 16 (cto iv n 0) := vec8_ext fun i hi => by
      unfold upto cto
      by_cases h1 : i < 12
      · rw [if_pos h1, if_pos h1]
      · rw [if_neg h1, if_neg h1, if_neg (by omega)]
    simp [e0]
    refine W_forU 4 (fun _ => True) (fun k => [(1, .int .u32 ((n.toNat / 256 ^ k : Nat) : Int)), (5, .box (vec8 16 (cto iv n k))), (7, .int .i64 (15 - (k : Int)))]) trivial (by simp [bv]) (fun k hk _ => ?_) fun _ => ?_
    · obtain ⟨q, hq⟩ : ∃ q, q = n.toNat / 256 ^ k := ⟨_, rfl⟩
      have q1 : n.toNat / 256 ^ (k + 1) = q / 256 := by rw [hq, Nat.pow_succ, Nat.div_div_eq_div_mul]
      have q2 : q < 4294967296 := Nat.lt_of_le_of_lt (by rw [hq]; exact Nat.div_le_self _ _) n.isLt
      have ge : (12 : Int) ≤ 15 - (k : Int) := by omega
      have cx : (15 : Int) - (k : Int) = ((15 - k : Nat) : Int) := by omega
      have ge' : (12 : Int) ≤ ((15 - k : Nat) : Int) := by omega
      have w : IntKind.u8.wrap ((q % 256 : Nat) : Int) = bv (BitVec.ofNat 8 (n.toNat / 256 ^ k)) := by
        rw [bv_wrap8, ← hq]
        congr 1
        apply BitVec.eq_of_toNat_eq
        simp
      have e := cto_set iv n k hk
      have t1 : 15 - k < 16 := by omega
      have t2 : ((15 - k : Nat) : Int) < 16 := by omega
      have s1 : ((15 - k : Nat) : Int) - 1 = 15 - ((k : Int) + 1) := by omega
      have w2 : IntKind.u32.wrap ((q / 256 : Nat) : Int) = ((q / 256 : Nat) : Int) := by rw [u32_wrap]; omega
      have w3 : IntKind.u32.wrap ((q : Int) / 256) = ((q / 256 : Nat) : Int) := by rw [u32_wrap]; omega
      rw [← hq] at w e
      simp only [← hq, q1]
      simp [cx, t1, t2, ge', tmod256, tdiv256, w, w2, w3, e, s1, -splice, -Int.natCast_emod, -Int.natCast_ediv]
      omega
    · simp [cto_4]
noncomputable def T24 : Tab := tabAdd T15 24 (fun z : (List UInt8) × (BitVec 32) => z.1.length = 12) (fun z => [.str z.1, .int .u32 (bv z.2)]) (fun z => .agg (vec8 16 (ctr z.1 z.2)))
@[simp] theorem T24_eq (iv : List UInt8) (n : BitVec 32) (h : iv.length = 12) : T24 24 [.str iv, .int .u32 (bv n)] = some (.agg (vec8 16 (ctr iv n))) := tabAdd_eq (a := (iv, n)) (by simp +contextual [Int.natCast_inj]) h rfl
@[simp] theorem T24_ne {g : Nat} {xs : List AV} (h : g ≠ 24) : T24 g xs = T15 g xs := tabAdd_ne h
theorem T24_ok : Sound Try.prog T24 := tabAdd_sound T15_ok fun z h => pf24 z.1 z.2 h
theorem inc32 (x : BitVec 32) : IntKind.u32.wrap (bv x + 1) = bv (x + 1#32) := bv_add32 x 1#32
theorem pf11 (f : Bl) (iv : List UInt8) (n : BitVec 32) (l : List UInt8) (h : iv.length ≤ 1000000 ∧ l.length ≤ 1000000) : PFx Try.prog 11 [.agg (vec8 16 f), .str iv, .int .u32 (bv n), .str l] (.tup [.str (if iv.length = 12 then strm f iv n l else []), .int .i64 (if iv.length = 12 then 0 else 2)]) := by
  refine PFx_of_W (rc := rc11) (rs := rs11) Try.func11 rfl T24_ok hm (by kernel_rfl) (by kernel_rfl) (by simp [Try.ntmps11]) ?_
  by_cases hv : iv.length = 12
  · have hv' : (iv.length : Int) = 12 := by omega
    simp [rc11, rs11, vec8_zero, hv, hv', show l.length ≤ 4611686018427387904 by omega, bytes_tx]
    refine W_forU ((l.length + 15) / 16) (fun _ => True) (fun k => [(2, .int .u32 (bv (n + BitVec.ofNat 32 k))), (11, .mrow 1 (vec8 l.length (upto (16 * k) (fun j => tx l j ^^^ pd f iv n j) (tx l))) l.length), (12, .int .i64 ((16 * k : Nat) : Int))]) trivial (by simp [upto_zero]) (fun k hk _ => ?_) fun _ => ?_
    · have hk' : ((16 * k : Nat) : Int) < (l.length : Int) := by omega
      have hk2 : 16 * k < l.length := by omega
      have nk : n + BitVec.ofNat 32 (k + 1) = n + BitVec.ofNat 32 k + 1#32 := by rw [BitVec.add_assoc, ← BitVec.ofNat_add]
      simp [hk', hk2, hv, -Int.natCast_mul]
      refine W_forU (min 16 (l.length - 16 * k)) (fun _ => True) (fun i => [(11, .mrow 1 (vec8 l.length (upto (16 * k + i) (fun j => tx l j ^^^ pd f iv n j) (tx l))) l.length), (14, .int .i64 i)]) trivial (by simp) (fun i hi _ => ?_) fun _ => ?_
      · have i16 : i < 16 := by omega
        have i16' : (i : Int) < 16 := by omega
        have il : 16 * k + i < l.length := by omega
        have il' : ((16 * k + i : Nat) : Int) < (l.length : Int) := by omega
        have pk : sel (ks f) (ctr iv (n + BitVec.ofNat 32 k)) i = pd f iv n (16 * k + i) := by
          unfold pd
          rw [show (16 * k + i) / 16 = k by omega, show (16 * k + i) % 16 = i by omega]
        have e := upto_set l.length (16 * k + i) (fun j => tx l j ^^^ pd f iv n j) (tx l) il
        simp [i16, i16', cast_add, il, il', upto_at, pk, bv_xor8, e, ← Nat.add_assoc, -splice, -Int.natCast_mul, -Int.natCast_add]
        omega
      · have hup : ∀ i, i < l.length → upto (16 * k + min 16 (l.length - 16 * k)) (fun j => tx l j ^^^ pd f iv n j) (tx l) i = upto (16 * (k + 1)) (fun j => tx l j ^^^ pd f iv n j) (tx l) i := fun i hi => by
          unfold upto
          by_cases h1 : i < 16 * k + min 16 (l.length - 16 * k)
          · rw [if_pos h1, if_pos (by omega)]
          · rw [if_neg h1, if_neg (by omega)]
        by_cases c1 : min 16 (l.length - 16 * k) < 16
        · have c2 : ¬ ((16 * k + min 16 (l.length - 16 * k) : Nat) : Int) < (l.length : Int) := by omega
          have c1' : ((min 16 (l.length - 16 * k) : Nat) : Int) < 16 := by omega
          simp [c1, c1', c2, cast_add, inc32, nk, -Int.natCast_mul, -Int.natCast_add]
          exact ⟨by omega, by omega, hup, by omega⟩
        · have c1' : ¬ ((min 16 (l.length - 16 * k) : Nat) : Int) < 16 := by omega
          simp [c1, c1', cast_add, inc32, nk, -Int.natCast_mul, -Int.natCast_add]
          exact ⟨by omega, hup, by omega⟩
    · have hk' : ¬ ((16 * ((l.length + 15) / 16) : Nat) : Int) < (l.length : Int) := by omega
      have e : vec8 l.length (upto (16 * ((l.length + 15) / 16)) (fun j => tx l j ^^^ pd f iv n j) (tx l)) = bytesAV (strm f iv n l) := by
        unfold strm
        rw [lst_bytes]
        exact vec8_ext fun j hj => by unfold upto; rw [if_pos (by omega)]
      have u8 : (∀ c, c ∈ List.take l.length (bytesAV (strm f iv n l)) → c.isU8) = True := eq_true fun c hc => bytesAV_u8 _ c (List.mem_of_mem_take hc)
      have tk : List.take l.length (strm f iv n l) = strm f iv n l := List.take_of_length_le (by simp)
      simp [hk', e, u8, tk, -Int.natCast_mul]
  · have hv' : ¬ (iv.length : Int) = 12 := by omega
    simp [rc11, rs11, vec8_zero, hv, hv']
noncomputable def T11 : Tab := tabAdd T24 11 (fun z : Bl × (List UInt8) × (BitVec 32) × (List UInt8) => z.2.1.length ≤ 1000000 ∧ z.2.2.2.length ≤ 1000000) (fun z => [.agg (vec8 16 z.1), .str z.2.1, .int .u32 (bv z.2.2.1), .str z.2.2.2]) (fun z => .tup [.str (if z.2.1.length = 12 then strm z.1 z.2.1 z.2.2.1 z.2.2.2 else []), .int .i64 (if z.2.1.length = 12 then 0 else 2)])
@[simp] theorem T11_eq (f : Bl) (iv : List UInt8) (n : BitVec 32) (l : List UInt8) (h : iv.length ≤ 1000000 ∧ l.length ≤ 1000000) : T11 11 [.agg (vec8 16 f), .str iv, .int .u32 (bv n), .str l] = some (.tup [.str (if iv.length = 12 then strm f iv n l else []), .int .i64 (if iv.length = 12 then 0 else 2)]) := tabAdd_eq (a := (f, iv, n, l)) (by rintro ⟨f, iv, n, l⟩ ⟨f', iv', n', l'⟩ h; simp at h ⊢; rw [strm_ag h.1, h.2.1, h.2.2.1, h.2.2.2]; simp) h rfl
@[simp] theorem T11_ne {g : Nat} {xs : List AV} (h : g ≠ 11) : T11 g xs = T24 g xs := tabAdd_ne h
theorem T11_ok : Sound Try.prog T11 := tabAdd_sound T24_ok fun z h => pf11 z.1 z.2.1 z.2.2.1 z.2.2.2 h
theorem pf13 (f : Bl) (iv : List UInt8) (ad : List UInt8) (l : List UInt8) (h : iv.length ≤ 1000000 ∧ ad.length ≤ 100000 ∧ l.length ≤ 100000) : PFx Try.prog 13 [.agg (vec8 16 f), .str iv, .str ad, .str l] (.tup [.str (if iv.length = 12 then tag f iv ad l else []), .int .i64 (if iv.length = 12 then 0 else 2)]) := by
  refine PFx_of_W (rc := rc13) (rs := rs13) Try.func13 rfl T11_ok hm (by kernel_rfl) (by kernel_rfl) (by simp [Try.ntmps13]) ?_
  by_cases hv : iv.length = 12
  · have hv' : (iv.length : Int) = 12 := by omega
    have c1 : T24 24 [.str iv, .int .u32 1] = some (.agg (vec8 16 (ctr iv 1#32))) := T24_eq iv 1#32 hv
    have e : lst 16 (xo (Gh.blk (sumT (hsh f) ad l)) (sel (ks f) (ctr iv 1#32))) = tag f iv ad l := rfl
    simp [rc13, rs13, vec8_zero, hv, hv', h, c1, lst_map, e]
  · have hv' : ¬ (iv.length : Int) = 12 := by omega
    simp [rc13, rs13, vec8_zero, hv, hv']
noncomputable def T13 : Tab := tabAdd T11 13 (fun z : Bl × (List UInt8) × (List UInt8) × (List UInt8) => z.2.1.length ≤ 1000000 ∧ z.2.2.1.length ≤ 100000 ∧ z.2.2.2.length ≤ 100000) (fun z => [.agg (vec8 16 z.1), .str z.2.1, .str z.2.2.1, .str z.2.2.2]) (fun z => .tup [.str (if z.2.1.length = 12 then tag z.1 z.2.1 z.2.2.1 z.2.2.2 else []), .int .i64 (if z.2.1.length = 12 then 0 else 2)])
@[simp] theorem T13_eq (f : Bl) (iv : List UInt8) (ad : List UInt8) (l : List UInt8) (h : iv.length ≤ 1000000 ∧ ad.length ≤ 100000 ∧ l.length ≤ 100000) : T13 13 [.agg (vec8 16 f), .str iv, .str ad, .str l] = some (.tup [.str (if iv.length = 12 then tag f iv ad l else []), .int .i64 (if iv.length = 12 then 0 else 2)]) := tabAdd_eq (a := (f, iv, ad, l)) (by rintro ⟨f, iv, n, l⟩ ⟨f', iv', n', l'⟩ h; simp at h ⊢; rw [tag_ag h.1, h.2.1, h.2.2.1, h.2.2.2]; simp) h rfl
@[simp] theorem T13_ne {g : Nat} {xs : List AV} (h : g ≠ 13) : T13 g xs = T11 g xs := tabAdd_ne h
theorem T13_ok : Sound Try.prog T13 := tabAdd_sound T11_ok fun z h => pf13 z.1 z.2.1 z.2.2.1 z.2.2.2 h
theorem pf17 (f : Bl) (iv : List UInt8) (ad : List UInt8) (l : List UInt8) (h : iv.length ≤ 1000000 ∧ ad.length ≤ 100000 ∧ l.length ≤ 100000) : PFx Try.prog 17 [.agg (vec8 16 f), .str iv, .str ad, .str l] (.tup [.str (if iv.length = 12 then sld f iv ad l else []), .int .i64 (if iv.length = 12 then 0 else 2)]) := by
  refine PFx_of_W (rc := rc17) (rs := rs17) Try.func17 rfl T13_ok hm (by kernel_rfl) (by kernel_rfl) (by simp [Try.ntmps17]) ?_
  obtain ⟨h1, h2, h3⟩ := h
  have c1 : T11 11 [.agg (vec8 16 f), .str iv, .int .u32 2, .str l] = some (.tup [.str (if iv.length = 12 then strm f iv 2#32 l else []), .int .i64 (if iv.length = 12 then 0 else 2)]) := T11_eq f iv 2#32 l (by omega)
  by_cases hv : iv.length = 12
  · simp [rc17, rs17, vec8_zero, hv, c1, h2, h3, sld]
    omega
  · simp [rc17, rs17, vec8_zero, hv, c1]
noncomputable def T17 : Tab := tabAdd T13 17 (fun z : Bl × (List UInt8) × (List UInt8) × (List UInt8) => z.2.1.length ≤ 1000000 ∧ z.2.2.1.length ≤ 100000 ∧ z.2.2.2.length ≤ 100000) (fun z => [.agg (vec8 16 z.1), .str z.2.1, .str z.2.2.1, .str z.2.2.2]) (fun z => .tup [.str (if z.2.1.length = 12 then sld z.1 z.2.1 z.2.2.1 z.2.2.2 else []), .int .i64 (if z.2.1.length = 12 then 0 else 2)])
@[simp] theorem T17_eq (f : Bl) (iv : List UInt8) (ad : List UInt8) (l : List UInt8) (h : iv.length ≤ 1000000 ∧ ad.length ≤ 100000 ∧ l.length ≤ 100000) : T17 17 [.agg (vec8 16 f), .str iv, .str ad, .str l] = some (.tup [.str (if iv.length = 12 then sld f iv ad l else []), .int .i64 (if iv.length = 12 then 0 else 2)]) := tabAdd_eq (a := (f, iv, ad, l)) (by rintro ⟨f, iv, n, l⟩ ⟨f', iv', n', l'⟩ h; simp at h ⊢; rw [h.2.1, h.2.2.1, h.2.2.2]; unfold sld; rw [strm_ag h.1, tag_ag h.1]; simp) h rfl
@[simp] theorem T17_ne {g : Nat} {xs : List AV} (h : g ≠ 17) : T17 g xs = T13 g xs := tabAdd_ne h
theorem T17_ok : Sound Try.prog T17 := tabAdd_sound T13_ok fun z h => pf17 z.1 z.2.1 z.2.2.1 z.2.2.2 h
theorem pf19 (f : Bl) (iv : List UInt8) (ad : List UInt8) (l : List UInt8) (h : iv.length ≤ 1000000 ∧ ad.length ≤ 100000 ∧ l.length ≤ 100000) : PFx Try.prog 19 [.agg (vec8 16 f), .str iv, .str ad, .str l] (.tup [.str (opT f iv ad l), .int .i64 (opE f iv ad l)]) := by
  refine PFx_of_W (rc := rc19) (rs := rs19) Try.func19 rfl T17_ok hm (by kernel_rfl) (by kernel_rfl) (by simp [Try.ntmps19]) ?_
  obtain ⟨h1, h2, h3⟩ := h
  by_cases hv : iv.length = 12
  · have hv' : (iv.length : Int) = 12 := by omega
    by_cases h16 : l.length < 16
    · have h16' : (l.length : Int) < 16 := by omega
      simp [rc19, rs19, vec8_zero, hv, hv', h16, h16', opT, opE]
    · have h16' : ¬ (l.length : Int) < 16 := by omega
      have s1 : (l.length : Int) - 16 = ((l.length - 16 : Nat) : Int) := by omega
      have b1 : l.take (l.length - 16) = body l := rfl
      have b2 : l.drop (l.length - 16) = foot l := rfl
      have bl : (body l).length ≤ 100000 := by unfold body; rw [List.length_take]; omega
      have c1 : T13 13 [.agg (vec8 16 f), .str iv, .str ad, .str (body l)] = some (.tup [.str (tag f iv ad (body l)), .int .i64 0]) := (T13_eq f iv ad (body l) ⟨by omega, h2, bl⟩).trans (by rw [if_pos hv, if_pos hv])
      have c2 : T11 11 [.agg (vec8 16 f), .str iv, .int .u32 2, .str (body l)] = some (.tup [.str (strm f iv 2#32 (body l)), .int .i64 0]) := (T11_eq f iv 2#32 (body l) (by omega)).trans (by rw [if_pos hv, if_pos hv])
      have q1 : ((l.length - 16 : Nat) : Int) ≤ (l.length : Int) := by omega
      by_cases hf : tag f iv ad (body l) = foot l
      · simp [rc19, rs19, vec8_zero, hv, hv', h16, h16', s1, b1, b2, c1, c2, q1, hf, opT, opE]
        omega
      · simp [rc19, rs19, vec8_zero, hv, hv', h16, h16', s1, b1, b2, c1, c2, q1, hf, opT, opE]
        omega
  · have hv' : ¬ (iv.length : Int) = 12 := by omega
    simp [rc19, rs19, vec8_zero, hv, hv', opT, opE]
noncomputable def T19 : Tab := tabAdd T17 19 (fun z : Bl × (List UInt8) × (List UInt8) × (List UInt8) => z.2.1.length ≤ 1000000 ∧ z.2.2.1.length ≤ 100000 ∧ z.2.2.2.length ≤ 100000) (fun z => [.agg (vec8 16 z.1), .str z.2.1, .str z.2.2.1, .str z.2.2.2]) (fun z => .tup [.str (opT z.1 z.2.1 z.2.2.1 z.2.2.2), .int .i64 (opE z.1 z.2.1 z.2.2.1 z.2.2.2)])
@[simp] theorem T19_eq (f : Bl) (iv : List UInt8) (ad : List UInt8) (l : List UInt8) (h : iv.length ≤ 1000000 ∧ ad.length ≤ 100000 ∧ l.length ≤ 100000) : T19 19 [.agg (vec8 16 f), .str iv, .str ad, .str l] = some (.tup [.str (opT f iv ad l), .int .i64 (opE f iv ad l)]) := tabAdd_eq (a := (f, iv, ad, l)) (by rintro ⟨f, iv, n, l⟩ ⟨f', iv', n', l'⟩ h; simp at h ⊢; rw [h.2.1, h.2.2.1, h.2.2.2]; unfold opT opE; rw [strm_ag h.1, tag_ag h.1]; simp) h rfl
@[simp] theorem T19_ne {g : Nat} {xs : List AV} (h : g ≠ 19) : T19 g xs = T17 g xs := tabAdd_ne h
theorem T19_ok : Sound Try.prog T19 := tabAdd_sound T17_ok fun z h => pf19 z.1 z.2.1 z.2.2.1 z.2.2.2 h
end Go.Proofs.Ytlihfdbfcklkmaa

