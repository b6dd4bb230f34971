/- fnv, of the program and of the document. -/
import Derived.Test.YtjljeojfomjefaaProg
import Derived.Test.YtjljeojfomjefaaFM
set_option linter.unusedVariables false
set_option linter.unusedSimpArgs false
namespace Go.Proofs.Ytjljeojfomjefaa
open Go.Proofs.Ytjljeojfomjefaa.Pad Go.Proofs.Ytjljeojfomjefaa.Pad.Fnv
theorem hm : Try.prog.follows .mixedOrders = true := by kernel_rfl
/-- padlock/fnv.Add -/
def rc8 : RC :=
  (.seq
   (.reg false [⟨(some 4), .mov (.c (.int .u64 0)), none⟩] [0, 1])
   (.seq
    (.reg false [⟨(some 5), .mov (.t 0), none⟩,
      ⟨(some 6), .mov (.t 1), none⟩,
      ⟨(some 7), .conv true .u64 (.t 6), none⟩,
      ⟨(some 8), .bin .xor false (.t 5) (.t 7), none⟩,
      ⟨(some 9), .bin .mul false (.t 8) (.c (.int .u64 1099511628211)), none⟩,
      ⟨(some 4), .mov (.t 9), none⟩] [4])
    .ret))
def rs8 : List RS := [.tmp 4]
/-- padlock/padlockref03.Add -/
def rc9 : RC :=
  (.seq
   (.reg false [⟨(some 4), .mov (.c (.int .u64 0)), none⟩] [0, 1])
   (.seq
    (.reg false [⟨(some 5), .mov (.t 0), none⟩,
      ⟨(some 6), .mov (.t 1), none⟩,
      ⟨(some 7), .conv true .u64 (.t 6), none⟩,
      ⟨(some 8), .bin .xor false (.t 5) (.t 7), none⟩,
      ⟨(some 9), .bin .mul false (.t 8) (.c (.int .u64 1099511628211)), none⟩,
      ⟨(some 4), .mov (.t 9), none⟩] [4])
    .ret))
def rs9 : List RS := [.tmp 4]
/-- padlock/fnv.Sum -/
def rc10 : RC :=
  (.seq
   (.reg false [⟨(some 2), .mov (.c (.int .u64 0)), none⟩] [0])
   (.seq
    (.reg false [⟨(some 3), .mov (.c (.int .u64 14695981039346656037)), none⟩] [0, 3])
    (.seq
     (.seq
      (.reg false [⟨(some 5), .mov (.t 0), none⟩,
        ⟨(some 6), .len true (.t 5), none⟩,
        ⟨(some 7), .mov (.c (.int .i64 0)), none⟩] [0, 3, 6, 7])
      (.block 0
       (.loop
        (.seq
         (.reg false [⟨(some 8), .bin .lss true (.t 7) (.t 6), none⟩] [0, 3, 6, 7, 8])
         (.seq
          (.cond 8
           .skip
           (.exit 0))
          (.seq
           (.block 1
            (.seq
             (.reg false [⟨(some 9), .mov (.t 7), none⟩,
               ⟨(some 4), .mov (.t 9), none⟩] [0, 3, 4, 6, 7])
             (.reg false [⟨(some 10), .mov (.t 3), none⟩,
               ⟨(some 11), .mov (.t 0), none⟩,
               ⟨(some 12), .mov (.t 4), none⟩,
               ⟨(some 13), .sidx (.t 11) (.t 12), none⟩,
               ⟨(some 14), .call 8 [(false, (.t 10)), (false, (.t 13))], none⟩,
               ⟨(some 3), .mov (.t 14), none⟩] [0, 3, 6, 7])))
           (.reg false [⟨(some 15), .bin .add true (.t 7) (.c (.int .i64 1)), none⟩,
             ⟨(some 7), .mov (.t 15), none⟩] [0, 3, 6, 7])))))))
     (.seq
      (.reg false [⟨(some 16), .mov (.t 3), none⟩,
        ⟨(some 2), .mov (.t 16), none⟩] [2])
      .ret))))
def rs10 : List RS := [.tmp 2]
/-- padlock/padlockref03.Sum -/
def rc11 : RC :=
  (.seq
   (.reg false [⟨(some 2), .mov (.c (.int .u64 0)), none⟩] [0])
   (.seq
    (.reg false [⟨(some 3), .mov (.c (.int .u64 14695981039346656037)), none⟩] [0, 3])
    (.seq
     (.seq
      (.reg false [⟨(some 4), .mov (.c (.int .i64 0)), none⟩] [0, 3, 4])
      (.block 0
       (.loop
        (.seq
         (.seq
          (.reg false [⟨(some 5), .mov (.t 4), none⟩,
            ⟨(some 6), .mov (.t 0), none⟩,
            ⟨(some 7), .len true (.t 6), none⟩,
            ⟨(some 8), .bin .lss true (.t 5) (.t 7), none⟩] [0, 3, 4, 8])
          (.cond 8
           .skip
           (.exit 0)))
         (.seq
          (.block 1
           (.reg false [⟨(some 11), .mov (.t 3), none⟩,
             ⟨(some 12), .mov (.t 0), none⟩,
             ⟨(some 13), .mov (.t 4), none⟩,
             ⟨(some 14), .sidx (.t 12) (.t 13), none⟩,
             ⟨(some 15), .call 9 [(false, (.t 11)), (false, (.t 14))], none⟩,
             ⟨(some 3), .mov (.t 15), none⟩] [0, 3, 4]))
          (.reg false [⟨(some 9), .mov (.t 4), none⟩,
            ⟨(some 10), .bin .add true (.t 9) (.c (.int .i64 1)), none⟩,
            ⟨(some 4), .mov (.t 10), none⟩] [0, 3, 4]))))))
     (.seq
      (.reg false [⟨(some 16), .mov (.t 3), none⟩,
        ⟨(some 2), .mov (.t 16), none⟩] [2])
      .ret))))
def rs11 : List RS := [.tmp 2]
/-- padlock/fnv.isCount -/
def rc21 : RC :=
  (.seq
   (.reg false [⟨(some 2), .mov (.c (.bool false)), none⟩] [0])
   (.seq
    (.reg false [⟨(some 3), .mov (.t 0), none⟩,
      ⟨(some 4), .bin .geq true (.t 3) (.c (.int .i64 1)), none⟩,
      ⟨(some 5), .mov (.t 4), none⟩,
      ⟨(some 6), .mov (.t 0), (some (5, true))⟩,
      ⟨(some 7), .bin .leq true (.t 6) (.c (.int .i64 8)), (some (5, true))⟩,
      ⟨(some 8), .pick (.t 5) (.t 7) (.c (.bool false)), none⟩,
      ⟨(some 2), .mov (.t 8), none⟩] [2])
    .ret))
def rs21 : List RS := [.tmp 2]
/-- padlock/fnv.Shard -/
def rc12 : RC :=
  (.seq
   (.reg false [⟨(some 4), .mov (.c (.int .i64 0)), none⟩] [0, 1])
   (.seq
    (.seq
     (.reg false [⟨(some 7), .mov (.t 1), none⟩,
       ⟨(some 8), .call 21 [(false, (.t 7))], none⟩,
       ⟨(some 9), .un .not (.t 8), none⟩] [0, 1, 9])
     (.cond 9
      (.seq
       (.reg false [⟨(some 4), .mov (.c (.int .i64 0)), none⟩] [4])
       .ret)
      .skip))
    (.seq
     (.reg false [⟨(some 10), .mov (.t 0), none⟩,
       ⟨(some 11), .call 10 [(false, (.t 10))], none⟩,
       ⟨(some 5), .mov (.t 11), none⟩] [1, 5])
     (.seq
      (.reg false [⟨(some 12), .mov (.t 5), none⟩,
        ⟨(some 13), .bin .shr false (.t 12) (.c (.int .u64 32)), none⟩,
        ⟨(some 14), .conv false .u32 (.t 13), none⟩,
        ⟨(some 15), .mov (.t 5), none⟩,
        ⟨(some 16), .conv false .u32 (.t 15), none⟩,
        ⟨(some 17), .bin .xor false (.t 14) (.t 16), none⟩,
        ⟨(some 6), .mov (.t 17), none⟩] [1, 6])
      (.seq
       (.reg false [⟨(some 18), .mov (.t 6), none⟩,
         ⟨(some 19), .mov (.t 1), none⟩,
         ⟨(some 20), .conv false .u32 (.t 19), none⟩,
         ⟨(some 21), .bin .rem false (.t 18) (.t 20), none⟩,
         ⟨(some 22), .conv true .i64 (.t 21), none⟩,
         ⟨(some 4), .mov (.t 22), none⟩] [4])
       .ret)))))
def rs12 : List RS := [.tmp 4]
/-- padlock/padlockref03.Shard -/
def rc13 : RC :=
  (.seq
   (.reg false [⟨(some 4), .mov (.c (.int .i64 0)), none⟩] [0, 1])
   (.seq
    (.seq
     (.reg false [⟨(some 6), .mov (.t 1), none⟩,
       ⟨(some 7), .bin .lss true (.t 6) (.c (.int .i64 1)), none⟩,
       ⟨(some 8), .mov (.t 7), none⟩,
       ⟨(some 9), .mov (.t 1), (some (8, false))⟩,
       ⟨(some 10), .bin .gtr true (.t 9) (.c (.int .i64 8)), (some (8, false))⟩,
       ⟨(some 11), .pick (.t 8) (.c (.bool true)) (.t 10), none⟩] [0, 1, 11])
     (.cond 11
      (.seq
       (.reg false [⟨(some 4), .mov (.c (.int .i64 0)), none⟩] [4])
       .ret)
      .skip))
    (.seq
     (.reg false [⟨(some 12), .mov (.t 0), none⟩,
       ⟨(some 13), .call 11 [(false, (.t 12))], none⟩,
       ⟨(some 5), .mov (.t 13), none⟩] [1, 5])
     (.seq
      (.reg false [⟨(some 14), .mov (.t 5), none⟩,
        ⟨(some 15), .bin .quo false (.t 14) (.c (.int .u64 4294967296)), none⟩,
        ⟨(some 16), .mov (.t 5), none⟩,
        ⟨(some 17), .bin .rem false (.t 16) (.c (.int .u64 4294967296)), none⟩,
        ⟨(some 18), .bin .xor false (.t 15) (.t 17), none⟩,
        ⟨(some 19), .mov (.t 1), none⟩,
        ⟨(some 20), .conv true .u64 (.t 19), none⟩,
        ⟨(some 21), .bin .rem false (.t 18) (.t 20), none⟩,
        ⟨(some 22), .conv true .i64 (.t 21), none⟩,
        ⟨(some 4), .mov (.t 22), none⟩] [4])
      .ret))))
def rs13 : List RS := [.tmp 4]
/-- padlock/fnv.Undo -/
def rc19 : RC :=
  (.seq
   (.reg false [⟨(some 4), .mov (.c (.int .u64 0)), none⟩] [0, 1])
   (.seq
    (.reg false [⟨(some 5), .mov (.t 0), none⟩,
      ⟨(some 6), .bin .mul false (.t 5) (.c (.int .u64 14886173955864302971)), none⟩,
      ⟨(some 7), .mov (.t 1), none⟩,
      ⟨(some 8), .conv true .u64 (.t 7), none⟩,
      ⟨(some 9), .bin .xor false (.t 6) (.t 8), none⟩,
      ⟨(some 4), .mov (.t 9), none⟩] [4])
    .ret))
def rs19 : List RS := [.tmp 4]
/-- padlock/padlocklaw03.in -/
def rc20 : RC :=
  (.seq
   (.reg false [⟨(some 4), .mov (.c (.bool false)), none⟩] [0, 1])
   (.seq
    (.seq
     (.reg false [⟨(some 5), .mov (.c (.int .i64 0)), none⟩] [0, 1, 5])
     (.block 0
      (.loop
       (.seq
        (.seq
         (.reg false [⟨(some 6), .mov (.t 5), none⟩,
           ⟨(some 7), .mov (.t 0), none⟩,
           ⟨(some 8), .len false (.t 7), none⟩,
           ⟨(some 9), .bin .lss true (.t 6) (.t 8), none⟩] [0, 1, 5, 9])
         (.cond 9
          .skip
          (.exit 0)))
        (.seq
         (.block 1
          (.seq
           (.reg false [⟨(some 12), .mov (.t 0), none⟩,
             ⟨(some 13), .mov (.t 5), none⟩,
             ⟨(some 14), .idxA 1 (.t 12) (.t 13), none⟩,
             ⟨(some 15), .loadP (.t 14) 1 false, none⟩,
             ⟨(some 16), .mov (.t 1), none⟩,
             ⟨(some 17), .bin .eql true (.t 15) (.t 16), none⟩] [0, 1, 5, 17])
           (.cond 17
            (.seq
             (.reg false [⟨(some 4), .mov (.c (.bool true)), none⟩] [4])
             .ret)
            .skip)))
         (.reg false [⟨(some 10), .mov (.t 5), none⟩,
           ⟨(some 11), .bin .add true (.t 10) (.c (.int .i64 1)), none⟩,
           ⟨(some 5), .mov (.t 11), none⟩] [0, 1, 5]))))))
    (.seq
     (.reg false [⟨(some 4), .mov (.c (.bool false)), none⟩] [4])
     .ret)))
def rs20 : List RS := [.tmp 4]
/-- padlock/fnv.All -/
def rc15 : RC :=
  (.seq
   (.reg false [⟨(some 2), .nilR 1, none⟩] [0])
   (.seq
    (.seq
     (.reg false [⟨(some 5), .mov (.t 0), none⟩,
       ⟨(some 6), .call 21 [(false, (.t 5))], none⟩,
       ⟨(some 7), .un .not (.t 6), none⟩] [0, 7])
     (.cond 7
      (.seq
       (.reg false [⟨(some 2), .nilR 1, none⟩] [2])
       .ret)
      .skip))
    (.seq
     (.reg false [⟨(some 8), .mov (.t 0), none⟩,
       ⟨(some 9), .makeM 1 8 [(.int .i64 0)] (.t 8) (.t 8), none⟩,
       ⟨(some 3), .stealM 9, none⟩] [3])
     (.seq
      (.seq
       (.reg false [⟨(some 10), .al 3, none⟩,
         ⟨(some 11), .lenM 10 3, none⟩,
         ⟨(some 12), .mov (.c (.int .i64 0)), none⟩] [3, 11, 12])
       (.block 0
        (.loop
         (.seq
          (.reg false [⟨(some 13), .bin .lss true (.t 12) (.t 11), none⟩] [3, 11, 12, 13])
          (.seq
           (.cond 13
            .skip
            (.exit 0))
           (.seq
            (.block 1
             (.seq
              (.reg false [⟨(some 14), .mov (.t 12), none⟩,
                ⟨(some 4), .mov (.t 14), none⟩] [3, 4, 11, 12])
              (.reg false [⟨(some 15), .al 3, none⟩,
                ⟨(some 16), .mov (.t 4), none⟩,
                ⟨(some 17), .mov (.t 4), none⟩,
                ⟨(some 18), .idxM 15 3 1 (.t 16), none⟩,
                ⟨none, .stR 18 3 1 (.t 17), none⟩] [3, 11, 12])))
            (.reg false [⟨(some 19), .bin .add true (.t 12) (.c (.int .i64 1)), none⟩,
              ⟨(some 12), .mov (.t 19), none⟩] [3, 11, 12])))))))
      (.seq
       (.reg false [⟨(some 20), .frz 3, none⟩,
         ⟨(some 2), .steal 20, none⟩] [2])
       .ret)))))
def rs15 : List RS := [.tmp 2]
/-- padlock/fnv.Shards -/
def rc16 : RC :=
  (.seq
   (.reg false [⟨(some 4), .nilR 1, none⟩] [0, 1])
   (.seq
    (.seq
     (.reg false [⟨(some 11), .mov (.t 0), none⟩,
       ⟨(some 12), .call 21 [(false, (.t 11))], none⟩,
       ⟨(some 13), .un .not (.t 12), none⟩] [0, 1, 13])
     (.cond 13
      (.seq
       (.reg false [⟨(some 4), .nilR 1, none⟩] [4])
       .ret)
      .skip))
    (.seq
     (.reg false [⟨(some 5), .alloc [(.bool false), (.bool false), (.bool false), (.bool false), (.bool false), (.bool false), (.bool false), (.bool false)], none⟩] [0, 1, 5])
     (.seq
      (.seq
       (.reg false [⟨(some 14), .mov (.t 1), none⟩,
         ⟨(some 15), .len false (.t 14), none⟩,
         ⟨(some 16), .mov (.c (.int .i64 0)), none⟩] [0, 5, 14, 15, 16])
       (.block 0
        (.loop
         (.seq
          (.reg false [⟨(some 17), .bin .lss true (.t 16) (.t 15), none⟩] [0, 5, 14, 15, 16, 17])
          (.seq
           (.cond 17
            .skip
            (.exit 0))
           (.seq
            (.block 1
             (.seq
              (.reg false [⟨(some 18), .idxA 1 (.t 14) (.t 16), none⟩,
                ⟨(some 19), .loadP (.t 18) 1 false, none⟩,
                ⟨(some 7), .mov (.t 19), none⟩] [0, 5, 7, 14, 15, 16])
              (.reg false [⟨(some 20), .mov (.t 7), none⟩,
                ⟨(some 21), .mov (.t 0), none⟩,
                ⟨(some 22), .call 12 [(false, (.t 20)), (false, (.t 21))], none⟩,
                ⟨(some 23), .idxB 5 1 8 (.t 22), none⟩,
                ⟨none, .stR 23 5 1 (.c (.bool true)), none⟩] [0, 5, 14, 15, 16])))
            (.reg false [⟨(some 24), .bin .add true (.t 16) (.c (.int .i64 1)), none⟩,
              ⟨(some 16), .mov (.t 24), none⟩] [0, 5, 14, 15, 16])))))))
      (.seq
       (.reg false [⟨(some 8), .nilR 1, none⟩] [5, 8])
       (.seq
        (.seq
         (.reg false [⟨(some 25), .loadB 5 8 true, none⟩,
           ⟨(some 26), .mov (.c (.int .i64 0)), none⟩] [8, 25, 26])
         (.block 2
          (.loop
           (.seq
            (.reg false [⟨(some 27), .bin .lss true (.t 26) (.c (.int .i64 8)), none⟩] [8, 25, 26, 27])
            (.seq
             (.cond 27
              .skip
              (.exit 2))
             (.seq
              (.block 3
               (.seq
                (.reg false [⟨(some 28), .mov (.t 26), none⟩,
                  ⟨(some 29), .aidx 1 8 false (.t 25) (.t 26), none⟩,
                  ⟨(some 9), .mov (.t 28), none⟩,
                  ⟨(some 10), .mov (.t 29), none⟩] [8, 9, 10, 25, 26])
                (.seq
                 (.reg false [⟨(some 30), .mov (.t 10), none⟩] [8, 9, 25, 26, 30])
                 (.cond 30
                  (.reg false [⟨(some 31), .steal 8, none⟩,
                    ⟨(some 32), .mov (.t 9), none⟩,
                    ⟨(some 33), .mkSl 1 1 [(.int .i64 0)] [(0, 1, (.t 32))], none⟩,
                    ⟨(some 34), .app 1 8 (.t 31) (.t 33), none⟩,
                    ⟨(some 8), .steal 34, none⟩] [8, 25, 26])
                  .skip))))
              (.reg false [⟨(some 35), .bin .add true (.t 26) (.c (.int .i64 1)), none⟩,
                ⟨(some 26), .mov (.t 35), none⟩] [8, 25, 26])))))))
        (.seq
         (.reg false [⟨(some 36), .steal 8, none⟩,
           ⟨(some 4), .steal 36, none⟩] [4])
         .ret)))))))
def rs16 : List RS := [.tmp 4]
/-- padlock/padlockref03.SameInts -/
def rc17 : RC :=
  (.seq
   (.reg false [⟨(some 4), .mov (.c (.bool false)), none⟩] [0, 1])
   (.seq
    (.seq
     (.reg false [⟨(some 6), .mov (.t 0), none⟩,
       ⟨(some 7), .len false (.t 6), none⟩,
       ⟨(some 8), .mov (.t 1), none⟩,
       ⟨(some 9), .len false (.t 8), none⟩,
       ⟨(some 10), .bin .neq true (.t 7) (.t 9), none⟩] [0, 1, 10])
     (.cond 10
      (.seq
       (.reg false [⟨(some 4), .mov (.c (.bool false)), none⟩] [4])
       .ret)
      .skip))
    (.seq
     (.seq
      (.reg false [⟨(some 5), .mov (.c (.int .i64 0)), none⟩] [0, 1, 5])
      (.block 0
       (.loop
        (.seq
         (.seq
          (.reg false [⟨(some 11), .mov (.t 5), none⟩,
            ⟨(some 12), .mov (.t 0), none⟩,
            ⟨(some 13), .len false (.t 12), none⟩,
            ⟨(some 14), .bin .lss true (.t 11) (.t 13), none⟩] [0, 1, 5, 14])
          (.cond 14
           .skip
           (.exit 0)))
         (.seq
          (.block 1
           (.seq
            (.reg true [⟨(some 17), .mov (.t 0), none⟩,
              ⟨(some 18), .mov (.t 5), none⟩,
              ⟨(some 19), .idxA 1 (.t 17) (.t 18), none⟩,
              ⟨(some 20), .loadP (.t 19) 1 false, none⟩,
              ⟨(some 21), .mov (.t 1), none⟩,
              ⟨(some 22), .mov (.t 5), none⟩,
              ⟨(some 23), .idxA 1 (.t 21) (.t 22), none⟩,
              ⟨(some 24), .loadP (.t 23) 1 false, none⟩,
              ⟨(some 25), .bin .neq true (.t 20) (.t 24), none⟩] [0, 1, 5, 25])
            (.cond 25
             (.seq
              (.reg false [⟨(some 4), .mov (.c (.bool false)), none⟩] [4])
              .ret)
             .skip)))
          (.reg false [⟨(some 15), .mov (.t 5), none⟩,
            ⟨(some 16), .bin .add true (.t 15) (.c (.int .i64 1)), none⟩,
            ⟨(some 5), .mov (.t 16), none⟩] [0, 1, 5]))))))
     (.seq
      (.reg false [⟨(some 4), .mov (.c (.bool true)), none⟩] [4])
      .ret))))
def rs17 : List RS := [.tmp 4]
/-- padlock/padlockref03.Shards -/
def rc18 : RC :=
  (.seq
   (.reg false [⟨(some 4), .nilR 1, none⟩] [0, 1])
   (.seq
    (.reg false [⟨(some 5), .nilR 1, none⟩] [0, 1, 5])
    (.seq
     (.seq
      (.reg false [⟨(some 6), .mov (.c (.int .i64 0)), none⟩] [0, 1, 5, 6])
      (.block 0
       (.loop
        (.seq
         (.seq
          (.reg false [⟨(some 9), .mov (.t 6), none⟩,
            ⟨(some 10), .mov (.t 0), none⟩,
            ⟨(some 11), .bin .lss true (.t 9) (.t 10), none⟩,
            ⟨(some 12), .mov (.t 11), none⟩,
            ⟨(some 13), .mov (.t 0), (some (12, true))⟩,
            ⟨(some 14), .bin .leq true (.t 13) (.c (.int .i64 8)), (some (12, true))⟩,
            ⟨(some 15), .pick (.t 12) (.t 14) (.c (.bool false)), none⟩] [0, 1, 5, 6, 15])
          (.cond 15
           .skip
           (.exit 0)))
         (.seq
          (.block 1
           (.seq
            (.reg false [⟨(some 7), .mov (.c (.bool false)), none⟩] [0, 1, 5, 6, 7])
            (.seq
             (.seq
              (.reg false [⟨(some 8), .mov (.c (.int .i64 0)), none⟩] [0, 1, 5, 6, 7, 8])
              (.block 2
               (.loop
                (.seq
                 (.seq
                  (.reg false [⟨(some 18), .mov (.t 8), none⟩,
                    ⟨(some 19), .mov (.t 1), none⟩,
                    ⟨(some 20), .len false (.t 19), none⟩,
                    ⟨(some 21), .bin .lss true (.t 18) (.t 20), none⟩] [0, 1, 5, 6, 7, 8, 21])
                  (.cond 21
                   .skip
                   (.exit 2)))
                 (.seq
                  (.block 3
                   (.reg false [⟨(some 24), .mov (.t 7), none⟩,
                     ⟨(some 25), .mov (.t 24), none⟩,
                     ⟨(some 26), .mov (.t 1), (some (25, false))⟩,
                     ⟨(some 27), .mov (.t 8), (some (25, false))⟩,
                     ⟨(some 28), .idxA 1 (.t 26) (.t 27), (some (25, false))⟩,
                     ⟨(some 29), .loadP (.t 28) 1 false, (some (25, false))⟩,
                     ⟨(some 30), .mov (.t 0), (some (25, false))⟩,
                     ⟨(some 31), .call 13 [(false, (.t 29)), (false, (.t 30))], (some (25, false))⟩,
                     ⟨(some 32), .mov (.t 6), (some (25, false))⟩,
                     ⟨(some 33), .bin .eql true (.t 31) (.t 32), (some (25, false))⟩,
                     ⟨(some 34), .pick (.t 25) (.c (.bool true)) (.t 33), none⟩,
                     ⟨(some 7), .mov (.t 34), none⟩] [0, 1, 5, 6, 7, 8]))
                  (.reg false [⟨(some 22), .mov (.t 8), none⟩,
                    ⟨(some 23), .bin .add true (.t 22) (.c (.int .i64 1)), none⟩,
                    ⟨(some 8), .mov (.t 23), none⟩] [0, 1, 5, 6, 7, 8]))))))
             (.seq
              (.reg false [⟨(some 35), .mov (.t 7), none⟩] [0, 1, 5, 6, 35])
              (.cond 35
               (.reg false [⟨(some 36), .steal 5, none⟩,
                 ⟨(some 37), .mov (.t 6), none⟩,
                 ⟨(some 38), .mkSl 1 1 [(.int .i64 0)] [(0, 1, (.t 37))], none⟩,
                 ⟨(some 39), .app 1 8 (.t 36) (.t 38), none⟩,
                 ⟨(some 5), .steal 39, none⟩] [0, 1, 5, 6])
               .skip)))))
          (.reg false [⟨(some 16), .mov (.t 6), none⟩,
            ⟨(some 17), .bin .add true (.t 16) (.c (.int .i64 1)), none⟩,
            ⟨(some 6), .mov (.t 17), none⟩] [0, 1, 5, 6]))))))
     (.seq
      (.reg false [⟨(some 40), .steal 5, none⟩,
        ⟨(some 4), .steal 40, none⟩] [4])
      .ret))))
def rs18 : List RS := [.tmp 4]
/-- padlock/padlocklaw01.Over -/
def rc14 : RC :=
  (.seq
   (.reg false [⟨(some 2), .mov (.c (.int .i64 0)), none⟩] [0])
   (.seq
    (.seq
     (.reg false [⟨(some 4), .mov (.t 0), none⟩,
       ⟨(some 5), .len false (.t 4), none⟩,
       ⟨(some 6), .bin .gtr true (.t 5) (.c (.int .i64 40)), none⟩] [0, 6])
     (.cond 6
      (.seq
       (.reg false [⟨(some 2), .mov (.c (.int .i64 1)), none⟩] [2])
       .ret)
      .skip))
    (.seq
     (.seq
      (.reg false [⟨(some 3), .mov (.c (.int .i64 0)), none⟩] [0, 3])
      (.block 0
       (.loop
        (.seq
         (.seq
          (.reg false [⟨(some 7), .mov (.t 3), none⟩,
            ⟨(some 8), .mov (.t 0), none⟩,
            ⟨(some 9), .len false (.t 8), none⟩,
            ⟨(some 10), .bin .lss true (.t 7) (.t 9), none⟩] [0, 3, 10])
          (.cond 10
           .skip
           (.exit 0)))
         (.seq
          (.block 1
           (.seq
            (.reg false [⟨(some 13), .mov (.t 0), none⟩,
              ⟨(some 14), .mov (.t 3), none⟩,
              ⟨(some 15), .idxA 1 (.t 13) (.t 14), none⟩,
              ⟨(some 16), .loadP (.t 15) 1 false, none⟩,
              ⟨(some 17), .len true (.t 16), none⟩,
              ⟨(some 18), .bin .gtr true (.t 17) (.c (.int .i64 200)), none⟩] [0, 3, 18])
            (.cond 18
             (.seq
              (.reg false [⟨(some 2), .mov (.c (.int .i64 1)), none⟩] [2])
              .ret)
             .skip)))
          (.reg false [⟨(some 11), .mov (.t 3), none⟩,
            ⟨(some 12), .bin .add true (.t 11) (.c (.int .i64 1)), none⟩,
            ⟨(some 3), .mov (.t 12), none⟩] [0, 3]))))))
     (.seq
      (.reg false [⟨(some 2), .mov (.c (.int .i64 0)), none⟩] [2])
      .ret))))
def rs14 : List RS := [.tmp 2]
theorem p_lit : (1099511628211 : Int) = bv prime := by decide
theorem i_lit : (14886173955864302971 : Int) = bv inv := by decide
theorem s_lit : (14695981039346656037 : Int) = bv Fnv.start := by decide
theorem x_byte (x : B) (b : UInt8) : bits .xor .u64 (bv x) (b.toNat : Int) = bv (x ^^^ w b) := by
  rw [bv_byte64, bv_xor64]; rfl
theorem pf8 (x : B) (b : UInt8)  : PFx Try.prog 8 [.int .u64 (bv x), .int .u8 b.toNat] (.int .u64 (bv (add x b))) := by
  refine PFx_of_W (rc := rc8) (rs := rs8) Try.func8 rfl tabNil_sound hm (by kernel_rfl) (by kernel_rfl) (by simp [Try.ntmps8]) ?_
  have hb := b.toNat_lt
  simp [rc8, rs8, x_byte, p_lit, bv_mul64, add]
  omega
noncomputable def T8 : Tab := tabAdd tabNil 8 (fun _ : B × UInt8 => True) (fun z => [.int .u64 (bv z.1), .int .u8 z.2.toNat]) (fun z => .int .u64 (bv (add z.1 z.2)))
@[simp] theorem T8_eq (x : B) (b : UInt8)  : T8 8 [.int .u64 (bv x), .int .u8 b.toNat] = some (.int .u64 (bv (add x b))) := tabAdd_eq (a := (x, b)) (by simp +contextual) trivial rfl
@[simp] theorem T8_ne {g : Nat} {xs : List AV} (h : g ≠ 8) : T8 g xs = tabNil g xs := tabAdd_ne h
theorem T8_ok : Sound Try.prog T8 := tabAdd_sound tabNil_sound fun z _ => pf8 z.1 z.2 
theorem pf9 (x : B) (b : UInt8)  : PFx Try.prog 9 [.int .u64 (bv x), .int .u8 b.toNat] (.int .u64 (bv (add x b))) := by
  refine PFx_of_W (rc := rc9) (rs := rs9) Try.func9 rfl T8_ok hm (by kernel_rfl) (by kernel_rfl) (by simp [Try.ntmps9]) ?_
  have hb := b.toNat_lt
  simp [rc9, rs9, x_byte, p_lit, bv_mul64, add]
  omega
noncomputable def T9 : Tab := tabAdd T8 9 (fun _ : B × UInt8 => True) (fun z => [.int .u64 (bv z.1), .int .u8 z.2.toNat]) (fun z => .int .u64 (bv (add z.1 z.2)))
@[simp] theorem T9_eq (x : B) (b : UInt8)  : T9 9 [.int .u64 (bv x), .int .u8 b.toNat] = some (.int .u64 (bv (add x b))) := tabAdd_eq (a := (x, b)) (by simp +contextual) trivial rfl
@[simp] theorem T9_ne {g : Nat} {xs : List AV} (h : g ≠ 9) : T9 g xs = T8 g xs := tabAdd_ne h
theorem T9_ok : Sound Try.prog T9 := tabAdd_sound T8_ok fun z _ => pf9 z.1 z.2 
theorem pf10 (l : List UInt8) (h : l.length ≤ 1000000) : PFx Try.prog 10 [.str l] (.int .u64 (bv (sum l))) := by
  refine PFx_of_W (rc := rc10) (rs := rs10) Try.func10 rfl T9_ok hm (by kernel_rfl) (by kernel_rfl) (by simp [Try.ntmps10]) ?_
  simp [rc10, rs10]
  refine W_forU l.length (fun _ => True) (fun k => [(3, .int .u64 (bv (sum (l.take k)))), (7, .int .i64 k)]) trivial (by simp [sum_nil, s_lit]) (fun k hk _ => ?_) fun _ => ?_
  · simp [hk, sum_take]
    omega
  · simp
noncomputable def T10 : Tab := tabAdd T9 10 (fun z : (List UInt8) => z.length ≤ 1000000) (fun z => [.str z]) (fun z => .int .u64 (bv (sum z)))
@[simp] theorem T10_eq (l : List UInt8) (h : l.length ≤ 1000000) : T10 10 [.str l] = some (.int .u64 (bv (sum l))) := tabAdd_eq (a := l) (by simp +contextual) h rfl
@[simp] theorem T10_ne {g : Nat} {xs : List AV} (h : g ≠ 10) : T10 g xs = T9 g xs := tabAdd_ne h
theorem T10_ok : Sound Try.prog T10 := tabAdd_sound T9_ok fun z h => pf10 z h
theorem pf11 (l : List UInt8) (h : l.length ≤ 1000000) : PFx Try.prog 11 [.str l] (.int .u64 (bv (sum l))) := by
  refine PFx_of_W (rc := rc11) (rs := rs11) Try.func11 rfl T10_ok hm (by kernel_rfl) (by kernel_rfl) (by simp [Try.ntmps11]) ?_
  simp [rc11, rs11]
  refine W_forU l.length (fun _ => True) (fun k => [(3, .int .u64 (bv (sum (l.take k)))), (4, .int .i64 k)]) trivial (by simp [sum_nil, s_lit]) (fun k hk _ => ?_) fun _ => ?_
  · simp [hk, sum_take]
    omega
  · simp
noncomputable def T11 : Tab := tabAdd T10 11 (fun z : (List UInt8) => z.length ≤ 1000000) (fun z => [.str z]) (fun z => .int .u64 (bv (sum z)))
@[simp] theorem T11_eq (l : List UInt8) (h : l.length ≤ 1000000) : T11 11 [.str l] = some (.int .u64 (bv (sum l))) := tabAdd_eq (a := l) (by simp +contextual) h rfl
@[simp] theorem T11_ne {g : Nat} {xs : List AV} (h : g ≠ 11) : T11 g xs = T10 g xs := tabAdd_ne h
theorem T11_ok : Sound Try.prog T11 := tabAdd_sound T10_ok fun z h => pf11 z h
theorem pf21 (n : Int)  : PFx Try.prog 21 [.int .i64 n] (.bool (decide (1 ≤ n ∧ n ≤ 8))) := by
  refine PFx_of_W (rc := rc21) (rs := rs21) Try.func21 rfl T11_ok hm (by kernel_rfl) (by kernel_rfl) (by simp [Try.ntmps21]) ?_
  by_cases h : 1 ≤ n <;> simp [rc21, rs21, h]
noncomputable def T21 : Tab := tabAdd T11 21 (fun _ : Int => True) (fun z => [.int .i64 z]) (fun z => .bool (decide (1 ≤ z ∧ z ≤ 8)))
@[simp] theorem T21_eq (n : Int)  : T21 21 [.int .i64 n] = some (.bool (decide (1 ≤ n ∧ n ≤ 8))) := tabAdd_eq (a := n) (by simp +contextual) trivial rfl
@[simp] theorem T21_ne {g : Nat} {xs : List AV} (h : g ≠ 21) : T21 g xs = T11 g xs := tabAdd_ne h
theorem T21_ok : Sound Try.prog T21 := tabAdd_sound T11_ok fun z _ => pf21 z 
def shI (l : List UInt8) (n : Int) : Int := if 1 ≤ n ∧ n ≤ 8 then ((shN l n.toNat : Nat) : Int) else 0
theorem mix32 (l : List UInt8) : bits .xor .u32 (IntKind.u32.wrap ((bv (sum l)).fdiv 4294967296)) (IntKind.u32.wrap (bv (sum l))) = (mix l : Int) := by
  have h := (sum l).isLt
  unfold bv
  rw [Int.fdiv_eq_ediv_of_nonneg _ (by decide), u32_wrap, u32_wrap, show ((sum l).toNat : Int) / 4294967296 % 4294967296 = (((sum l).toNat / 4294967296 : Nat) : Int) by omega,
    show ((sum l).toNat : Int) % 4294967296 = (((sum l).toNat % 4294967296 : Nat) : Int) by omega, u32_xor_nat _ _ (by omega) (by omega)]
  rfl
theorem mix64 (l : List UInt8) : bits .xor .u64 (IntKind.u64.wrap ((bv (sum l)).tdiv 4294967296)) ((bv (sum l)).tmod 4294967296) = (mix l : Int) := by
  have h := (sum l).isLt
  unfold bv
  rw [Int.tdiv_eq_ediv_of_nonneg (Int.natCast_nonneg _), Int.tmod_eq_emod_of_nonneg (Int.natCast_nonneg _), u64_wrap, show ((sum l).toNat : Int) / 4294967296 % 18446744073709551616 = (((sum l).toNat / 4294967296 : Nat) : Int) by omega,
    show ((sum l).toNat : Int) % 4294967296 = (((sum l).toNat % 4294967296 : Nat) : Int) by omega, u64_xor_nat _ _ (by omega) (by omega)]
  rfl
theorem shI_mod (l : List UInt8) (n : Int) (h : 1 ≤ n ∧ n ≤ 8) : (mix l : Int).tmod n = shI l n := by
  obtain ⟨m, rfl⟩ := Int.eq_ofNat_of_zero_le (show 0 ≤ n by omega)
  rw [Int.tmod_eq_emod_of_nonneg (Int.natCast_nonneg _), shI, if_pos h]
  rfl
theorem shI_lo (l : List UInt8) (n : Int) : 0 ≤ shI l n := by
  unfold shI; split <;> omega
theorem shI_hi (l : List UInt8) (n : Int) : shI l n < 8 := by
  unfold shI
  split
  · have := shN_lt l (show 0 < n.toNat by omega); omega
  · omega
theorem pf12 (l : List UInt8) (n : Int) (h : l.length ≤ 1000000) : PFx Try.prog 12 [.str l, .int .i64 n] (.int .i64 (shI l n)) := by
  refine PFx_of_W (rc := rc12) (rs := rs12) Try.func12 rfl T21_ok hm (by kernel_rfl) (by kernel_rfl) (by simp [Try.ntmps12]) ?_
  by_cases hn : 1 ≤ n ∧ n ≤ 8
  · have h1 : IntKind.u32.wrap n = n := by rw [u32_wrap]; omega
    have h2 := shI_lo l n; have h3 := shI_hi l n
    simp [rc12, rs12, IntKind.bits, h, hn, h1, mix32, shI_mod]
    omega
  · simp [rc12, rs12, h, hn, shI]
noncomputable def T12 : Tab := tabAdd T21 12 (fun z : (List UInt8) × Int => z.1.length ≤ 1000000) (fun z => [.str z.1, .int .i64 z.2]) (fun z => .int .i64 (shI z.1 z.2))
@[simp] theorem T12_eq (l : List UInt8) (n : Int) (h : l.length ≤ 1000000) : T12 12 [.str l, .int .i64 n] = some (.int .i64 (shI l n)) := tabAdd_eq (a := (l, n)) (by simp +contextual) h rfl
@[simp] theorem T12_ne {g : Nat} {xs : List AV} (h : g ≠ 12) : T12 g xs = T21 g xs := tabAdd_ne h
theorem T12_ok : Sound Try.prog T12 := tabAdd_sound T21_ok fun z h => pf12 z.1 z.2 h
theorem pf13 (l : List UInt8) (n : Int) (h : l.length ≤ 1000000) : PFx Try.prog 13 [.str l, .int .i64 n] (.int .i64 (shI l n)) := by
  refine PFx_of_W (rc := rc13) (rs := rs13) Try.func13 rfl T12_ok hm (by kernel_rfl) (by kernel_rfl) (by simp [Try.ntmps13]) ?_
  by_cases hn : 1 ≤ n ∧ n ≤ 8
  · have h1 : IntKind.u64.wrap n = n := by rw [u64_wrap]; omega
    have h2 := shI_lo l n; have h3 := shI_hi l n
    have h4 : ¬ n < 1 := by omega
    have h5 : ¬ 8 < n := by omega
    simp [rc13, rs13, h, h4, h5, h1, mix64, shI_mod, hn]
    omega
  · rcases Int.lt_or_le n 1 with h4 | h4
    · simp [rc13, rs13, h, h4, shI, hn]
    · have h5 : 8 < n := by omega
      have h4' : ¬ n < 1 := by omega
      simp [rc13, rs13, h, h4', h5, shI, hn]
noncomputable def T13 : Tab := tabAdd T12 13 (fun z : (List UInt8) × Int => z.1.length ≤ 1000000) (fun z => [.str z.1, .int .i64 z.2]) (fun z => .int .i64 (shI z.1 z.2))
@[simp] theorem T13_eq (l : List UInt8) (n : Int) (h : l.length ≤ 1000000) : T13 13 [.str l, .int .i64 n] = some (.int .i64 (shI l n)) := tabAdd_eq (a := (l, n)) (by simp +contextual) h rfl
@[simp] theorem T13_ne {g : Nat} {xs : List AV} (h : g ≠ 13) : T13 g xs = T12 g xs := tabAdd_ne h
theorem T13_ok : Sound Try.prog T13 := tabAdd_sound T12_ok fun z h => pf13 z.1 z.2 h
theorem pf19 (x : B) (b : UInt8)  : PFx Try.prog 19 [.int .u64 (bv x), .int .u8 b.toNat] (.int .u64 (bv (undo x b))) := by
  refine PFx_of_W (rc := rc19) (rs := rs19) Try.func19 rfl T13_ok hm (by kernel_rfl) (by kernel_rfl) (by simp [Try.ntmps19]) ?_
  have hb := b.toNat_lt
  simp [rc19, rs19, x_byte, i_lit, bv_mul64, undo]
  omega
noncomputable def T19 : Tab := tabAdd T13 19 (fun _ : B × UInt8 => True) (fun z => [.int .u64 (bv z.1), .int .u8 z.2.toNat]) (fun z => .int .u64 (bv (undo z.1 z.2)))
@[simp] theorem T19_eq (x : B) (b : UInt8)  : T19 19 [.int .u64 (bv x), .int .u8 b.toNat] = some (.int .u64 (bv (undo x b))) := tabAdd_eq (a := (x, b)) (by simp +contextual) trivial rfl
@[simp] theorem T19_ne {g : Nat} {xs : List AV} (h : g ≠ 19) : T19 g xs = T13 g xs := tabAdd_ne h
theorem T19_ok : Sound Try.prog T19 := tabAdd_sound T13_ok fun z _ => pf19 z.1 z.2 
end Go.Proofs.Ytjljeojfomjefaa

