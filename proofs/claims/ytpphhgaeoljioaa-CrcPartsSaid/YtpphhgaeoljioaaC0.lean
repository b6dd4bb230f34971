/- Code of the program, as it is reckoned. -/
import Derived.Test.YtpphhgaeoljioaaProg
import Derived.Test.YtpphhgaeoljioaaE17
namespace Go.Proofs.Ytpphhgaeoljioaa
open Go.Proofs.Ytpphhgaeoljioaa.Pad
/-- padlock/crc.shift -/
def rc22 : RC :=
  (.seq
   (.reg false [⟨(some 2), .mov (.c (.int .u32 0)), none⟩] [0])
   (.seq
    (.reg false [⟨(some 4), .mov (.t 0), none⟩,
      ⟨(some 5), .bin .and false (.t 4) (.c (.int .u32 1)), none⟩,
      ⟨(some 3), .mov (.t 5), none⟩] [0, 3])
    (.seq
     (.reg false [⟨(some 6), .mov (.t 0), none⟩,
       ⟨(some 7), .bin .shr false (.t 6) (.c (.int .u64 1)), none⟩,
       ⟨(some 0), .mov (.t 7), none⟩] [0, 3])
     (.seq
      (.seq
       (.reg false [⟨(some 8), .mov (.t 3), none⟩,
         ⟨(some 9), .bin .eql false (.t 8) (.c (.int .u32 1)), none⟩] [0, 9])
       (.cond 9
        (.reg false [⟨(some 10), .mov (.t 0), none⟩,
          ⟨(some 11), .bin .xor false (.t 10) (.c (.int .u32 3988292384)), none⟩,
          ⟨(some 0), .mov (.t 11), none⟩] [0])
        .skip))
      (.seq
       (.reg false [⟨(some 12), .mov (.t 0), none⟩,
         ⟨(some 2), .mov (.t 12), none⟩] [2])
       .ret)))))
def rs22 : List RS := [.tmp 2]
/-- padlock/crc.Step -/
def rc9 : RC :=
  (.seq
   (.reg false [⟨(some 4), .mov (.c (.int .u32 0)), none⟩] [0, 1])
   (.seq
    (.reg false [⟨(some 5), .mov (.t 0), none⟩,
      ⟨(some 6), .mov (.t 1), none⟩,
      ⟨(some 7), .conv true .u32 (.t 6), none⟩,
      ⟨(some 8), .bin .xor false (.t 5) (.t 7), none⟩,
      ⟨(some 0), .mov (.t 8), none⟩] [0])
    (.seq
     (.seq
      (.reg false [⟨(some 9), .mov (.c (.int .i64 0)), none⟩] [0, 9])
      (.block 0
       (.loop
        (.seq
         (.reg false [⟨(some 10), .bin .lss true (.t 9) (.c (.int .i64 8)), none⟩] [0, 9, 10])
         (.seq
          (.cond 10
           .skip
           (.exit 0))
          (.seq
           (.block 1
            (.reg false [⟨(some 11), .mov (.t 0), none⟩,
              ⟨(some 12), .call 22 [(false, (.t 11))], none⟩,
              ⟨(some 0), .mov (.t 12), none⟩] [0, 9]))
           (.reg false [⟨(some 13), .bin .add true (.t 9) (.c (.int .i64 1)), none⟩,
             ⟨(some 9), .mov (.t 13), none⟩] [0, 9])))))))
     (.seq
      (.reg false [⟨(some 14), .mov (.t 0), none⟩,
        ⟨(some 4), .mov (.t 14), none⟩] [4])
      .ret))))
def rs9 : List RS := [.tmp 4]
/-- padlock/crc.Feed -/
def rc11 : RC :=
  (.seq
   (.reg false [⟨(some 4), .mov (.c (.int .u32 0)), none⟩] [0, 1])
   (.seq
    (.seq
     (.reg false [⟨(some 6), .mov (.t 1), none⟩,
       ⟨(some 7), .len true (.t 6), none⟩,
       ⟨(some 8), .mov (.c (.int .i64 0)), none⟩] [0, 1, 7, 8])
     (.block 0
      (.loop
       (.seq
        (.reg false [⟨(some 9), .bin .lss true (.t 8) (.t 7), none⟩] [0, 1, 7, 8, 9])
        (.seq
         (.cond 9
          .skip
          (.exit 0))
         (.seq
          (.block 1
           (.seq
            (.reg false [⟨(some 10), .mov (.t 8), none⟩,
              ⟨(some 5), .mov (.t 10), none⟩] [0, 1, 5, 7, 8])
            (.reg false [⟨(some 11), .mov (.t 0), none⟩,
              ⟨(some 12), .mov (.t 1), none⟩,
              ⟨(some 13), .mov (.t 5), none⟩,
              ⟨(some 14), .sidx (.t 12) (.t 13), none⟩,
              ⟨(some 15), .call 9 [(false, (.t 11)), (false, (.t 14))], none⟩,
              ⟨(some 0), .mov (.t 15), none⟩] [0, 1, 7, 8])))
          (.reg false [⟨(some 16), .bin .add true (.t 8) (.c (.int .i64 1)), none⟩,
            ⟨(some 8), .mov (.t 16), none⟩] [0, 1, 7, 8])))))))
    (.seq
     (.reg false [⟨(some 17), .mov (.t 0), none⟩,
       ⟨(some 4), .mov (.t 17), none⟩] [4])
     .ret)))
def rs11 : List RS := [.tmp 4]
/-- padlock/crc.Sum -/
def rc13 : RC :=
  (.seq
   (.reg false [⟨(some 2), .mov (.c (.int .u32 0)), none⟩] [0])
   (.seq
    (.reg false [⟨(some 3), .mov (.t 0), none⟩,
      ⟨(some 4), .call 11 [(false, (.c (.int .u32 4294967295))), (false, (.t 3))], none⟩,
      ⟨(some 5), .un .xor (.t 4), none⟩,
      ⟨(some 2), .mov (.t 5), none⟩] [2])
    .ret))
def rs13 : List RS := [.tmp 2]
/-- padlock/crc.Skip -/
def rc15 : RC :=
  (.seq
   (.reg false [⟨(some 4), .mov (.c (.int .u32 0)), none⟩] [0, 1])
   (.seq
    (.reg false [⟨(some 5), .mov (.c (.int .u32 8388608)), none⟩] [0, 1, 5])
    (.seq
     (.seq
      (.reg false [⟨(some 6), .mov (.t 1), none⟩,
        ⟨(some 7), .mm false (.t 6) (.c (.int .i64 1073741824)), none⟩,
        ⟨(some 1), .mov (.t 7), none⟩] [0, 1, 5])
      (.block 0
       (.loop
        (.seq
         (.seq
          (.reg false [⟨(some 8), .mov (.t 1), none⟩,
            ⟨(some 9), .bin .gtr true (.t 8) (.c (.int .i64 0)), none⟩] [0, 1, 5, 9])
          (.cond 9
           .skip
           (.exit 0)))
         (.seq
          (.block 1
           (.seq
            (.seq
             (.reg false [⟨(some 12), .mov (.t 1), none⟩,
               ⟨(some 13), .bin .and true (.t 12) (.c (.int .i64 1)), none⟩,
               ⟨(some 14), .bin .eql true (.t 13) (.c (.int .i64 1)), none⟩] [0, 1, 5, 14])
             (.cond 14
              (.reg false [⟨(some 15), .mov (.t 0), none⟩,
                ⟨(some 16), .mov (.t 5), none⟩,
                ⟨(some 17), .call 24 [(false, (.t 15)), (false, (.t 16))], none⟩,
                ⟨(some 0), .mov (.t 17), none⟩] [0, 1, 5])
              .skip))
            (.reg false [⟨(some 18), .mov (.t 5), none⟩,
              ⟨(some 19), .mov (.t 5), none⟩,
              ⟨(some 20), .call 24 [(false, (.t 18)), (false, (.t 19))], none⟩,
              ⟨(some 5), .mov (.t 20), none⟩] [0, 1, 5])))
          (.reg false [⟨(some 10), .mov (.t 1), none⟩,
            ⟨(some 11), .bin .shr true (.t 10) (.c (.int .u64 1)), none⟩,
            ⟨(some 1), .mov (.t 11), none⟩] [0, 1, 5]))))))
     (.seq
      (.reg false [⟨(some 21), .mov (.t 0), none⟩,
        ⟨(some 4), .mov (.t 21), none⟩] [4])
      .ret))))
def rs15 : List RS := [.tmp 4]
/-- padlock/crc.times -/
def rc24 : RC :=
  (.seq
   (.reg false [⟨(some 4), .mov (.c (.int .u32 0)), none⟩] [0, 1])
   (.seq
    (.reg false [⟨(some 5), .mov (.c (.int .u32 0)), none⟩] [0, 1, 5])
    (.seq
     (.seq
      (.reg false [⟨(some 7), .mov (.c (.int .i64 0)), none⟩] [0, 1, 5, 7])
      (.block 0
       (.loop
        (.seq
         (.reg false [⟨(some 8), .bin .lss true (.t 7) (.c (.int .i64 32)), none⟩] [0, 1, 5, 7, 8])
         (.seq
          (.cond 8
           .skip
           (.exit 0))
          (.seq
           (.block 1
            (.seq
             (.reg false [⟨(some 9), .mov (.t 7), none⟩,
               ⟨(some 6), .mov (.t 9), none⟩] [0, 1, 5, 6, 7])
             (.seq
              (.seq
               (.reg false [⟨(some 10), .mov (.t 0), none⟩,
                 ⟨(some 11), .mov (.t 6), none⟩,
                 ⟨(some 12), .bin .sub true (.c (.int .i64 31)) (.t 11), none⟩,
                 ⟨(some 13), .bin .shr false (.t 10) (.t 12), none⟩,
                 ⟨(some 14), .bin .and false (.t 13) (.c (.int .u32 1)), none⟩,
                 ⟨(some 15), .bin .eql false (.t 14) (.c (.int .u32 1)), none⟩] [0, 1, 5, 7, 15])
               (.cond 15
                (.reg false [⟨(some 16), .mov (.t 5), none⟩,
                  ⟨(some 17), .mov (.t 1), none⟩,
                  ⟨(some 18), .bin .xor false (.t 16) (.t 17), none⟩,
                  ⟨(some 5), .mov (.t 18), none⟩] [0, 1, 5, 7])
                .skip))
              (.reg false [⟨(some 19), .mov (.t 1), none⟩,
                ⟨(some 20), .call 22 [(false, (.t 19))], none⟩,
                ⟨(some 1), .mov (.t 20), none⟩] [0, 1, 5, 7]))))
           (.reg false [⟨(some 21), .bin .add true (.t 7) (.c (.int .i64 1)), none⟩,
             ⟨(some 7), .mov (.t 21), none⟩] [0, 1, 5, 7])))))))
     (.seq
      (.reg false [⟨(some 22), .mov (.t 5), none⟩,
        ⟨(some 4), .mov (.t 22), none⟩] [4])
      .ret))))
def rs24 : List RS := [.tmp 4]
/-- padlock/crc.Join -/
def rc21 : RC :=
  (.seq
   (.reg false [⟨(some 6), .mov (.c (.int .u32 0)), none⟩] [0, 1, 2])
   (.seq
    (.reg false [⟨(some 7), .mov (.t 0), none⟩,
      ⟨(some 8), .mov (.t 2), none⟩,
      ⟨(some 9), .call 15 [(false, (.t 7)), (false, (.t 8))], none⟩,
      ⟨(some 10), .mov (.t 1), none⟩,
      ⟨(some 11), .bin .xor false (.t 9) (.t 10), none⟩,
      ⟨(some 6), .mov (.t 11), none⟩] [6])
    .ret))
def rs21 : List RS := [.tmp 6]
/-- padlock/crc.sumOf -/
def rc25 : RC :=
  (.seq
   (.reg false [⟨(some 2), .mov (.c (.str [])), none⟩] [0])
   (.seq
    (.reg false [⟨(some 4), .mov (.t 0), none⟩,
      ⟨(some 5), .call 13 [(false, (.t 4))], none⟩,
      ⟨(some 3), .mov (.t 5), none⟩] [3])
    (.seq
     (.reg false [⟨(some 6), .mov (.t 3), none⟩,
       ⟨(some 7), .bin .shr false (.t 6) (.c (.int .u64 24)), none⟩,
       ⟨(some 8), .conv false .u8 (.t 7), none⟩,
       ⟨(some 9), .mov (.t 3), none⟩,
       ⟨(some 10), .bin .shr false (.t 9) (.c (.int .u64 16)), none⟩,
       ⟨(some 11), .conv false .u8 (.t 10), none⟩,
       ⟨(some 12), .mov (.t 3), none⟩,
       ⟨(some 13), .bin .shr false (.t 12) (.c (.int .u64 8)), none⟩,
       ⟨(some 14), .conv false .u8 (.t 13), none⟩,
       ⟨(some 15), .mov (.t 3), none⟩,
       ⟨(some 16), .conv false .u8 (.t 15), none⟩,
       ⟨(some 17), .mkSl 1 4 [(.int .u8 0), (.int .u8 0), (.int .u8 0), (.int .u8 0)] [(0, 1, (.t 8)), (1, 1, (.t 11)), (2, 1, (.t 14)), (3, 1, (.t 16))], none⟩,
       ⟨(some 18), .b2s (.t 17), none⟩,
       ⟨(some 2), .mov (.t 18), none⟩] [2])
     .ret)))
def rs25 : List RS := [.tmp 2]
/-- padlock/crc.Seal -/
def rc19 : RC :=
  (.seq
   (.reg false [⟨(some 2), .mov (.c (.str [])), none⟩] [0])
   (.seq
    (.reg false [⟨(some 3), .mov (.t 0), none⟩,
      ⟨(some 4), .mov (.t 0), none⟩,
      ⟨(some 5), .call 25 [(false, (.t 4))], none⟩,
      ⟨(some 6), .bin .add false (.t 3) (.t 5), none⟩,
      ⟨(some 2), .mov (.t 6), none⟩] [2])
    .ret))
def rs19 : List RS := [.tmp 2]
/-- padlock/crc.Open -/
def rc17 : RC :=
  (.seq
   (.reg false [⟨(some 2), .mov (.c (.str [])), none⟩,
     ⟨(some 3), .mov (.c (.int .i64 0)), none⟩] [0])
   (.seq
    (.seq
     (.reg false [⟨(some 5), .mov (.t 0), none⟩,
       ⟨(some 6), .len true (.t 5), none⟩,
       ⟨(some 7), .bin .lss true (.t 6) (.c (.int .i64 4)), none⟩] [0, 7])
     (.cond 7
      (.seq
       (.reg false [⟨(some 2), .mov (.c (.str [])), none⟩,
         ⟨(some 3), .mov (.c (.int .i64 3)), none⟩] [2, 3])
       .ret)
      .skip))
    (.seq
     (.reg false [⟨(some 8), .mov (.t 0), none⟩,
       ⟨(some 9), .len true (.t 8), none⟩,
       ⟨(some 10), .bin .sub true (.t 9) (.c (.int .i64 4)), none⟩,
       ⟨(some 4), .mov (.t 10), none⟩] [0, 4])
     (.seq
      (.seq
       (.reg true [⟨(some 11), .mov (.t 0), none⟩,
         ⟨(some 12), .mov (.t 4), none⟩,
         ⟨(some 13), .ssl (.t 11) none (some (.t 12)), none⟩,
         ⟨(some 14), .call 25 [(false, (.t 13))], none⟩,
         ⟨(some 15), .mov (.t 0), none⟩,
         ⟨(some 16), .mov (.t 4), none⟩,
         ⟨(some 17), .ssl (.t 15) (some (.t 16)) none, none⟩,
         ⟨(some 18), .bin .neq false (.t 14) (.t 17), none⟩] [0, 4, 18])
       (.cond 18
        (.seq
         (.reg false [⟨(some 2), .mov (.c (.str [])), none⟩,
           ⟨(some 3), .mov (.c (.int .i64 10)), none⟩] [2, 3])
         .ret)
        .skip))
      (.seq
       (.reg false [⟨(some 19), .mov (.t 0), none⟩,
         ⟨(some 20), .mov (.t 4), none⟩,
         ⟨(some 21), .ssl (.t 19) none (some (.t 20)), none⟩,
         ⟨(some 22), .call 26 [(false, (.t 21))], none⟩,
         ⟨(some 2), .mov (.t 22), none⟩,
         ⟨(some 3), .mov (.c (.int .i64 0)), none⟩] [2, 3])
       .ret)))))
def rs17 : List RS := [.tmp 2, .tmp 3]
/-- padlock/padlockref02.shift -/
def rc23 : RC :=
  (.seq
   (.reg false [⟨(some 2), .mov (.c (.int .u32 0)), none⟩] [0])
   (.seq
    (.seq
     (.reg false [⟨(some 3), .mov (.t 0), none⟩,
       ⟨(some 4), .bin .rem false (.t 3) (.c (.int .u32 2)), none⟩,
       ⟨(some 5), .bin .eql false (.t 4) (.c (.int .u32 1)), none⟩] [0, 5])
     (.cond 5
      (.seq
       (.reg false [⟨(some 6), .mov (.t 0), none⟩,
         ⟨(some 7), .bin .quo false (.t 6) (.c (.int .u32 2)), none⟩,
         ⟨(some 8), .bin .xor false (.t 7) (.c (.int .u32 3988292384)), none⟩,
         ⟨(some 2), .mov (.t 8), none⟩] [2])
       .ret)
      .skip))
    (.seq
     (.reg false [⟨(some 9), .mov (.t 0), none⟩,
       ⟨(some 10), .bin .quo false (.t 9) (.c (.int .u32 2)), none⟩,
       ⟨(some 2), .mov (.t 10), none⟩] [2])
     .ret)))
def rs23 : List RS := [.tmp 2]
/-- padlock/padlockref02.Step -/
def rc10 : RC :=
  (.seq
   (.reg false [⟨(some 4), .mov (.c (.int .u32 0)), none⟩] [0, 1])
   (.seq
    (.reg false [⟨(some 6), .mov (.t 0), none⟩,
      ⟨(some 7), .mov (.t 1), none⟩,
      ⟨(some 8), .conv true .u32 (.t 7), none⟩,
      ⟨(some 9), .bin .xor false (.t 6) (.t 8), none⟩,
      ⟨(some 0), .mov (.t 9), none⟩] [0])
    (.seq
     (.seq
      (.reg false [⟨(some 5), .mov (.c (.int .i64 0)), none⟩] [0, 5])
      (.block 0
       (.loop
        (.seq
         (.seq
          (.reg false [⟨(some 10), .mov (.t 5), none⟩,
            ⟨(some 11), .bin .lss true (.t 10) (.c (.int .i64 8)), none⟩] [0, 5, 11])
          (.cond 11
           .skip
           (.exit 0)))
         (.seq
          (.block 1
           (.reg false [⟨(some 14), .mov (.t 0), none⟩,
             ⟨(some 15), .call 23 [(false, (.t 14))], none⟩,
             ⟨(some 0), .mov (.t 15), none⟩] [0, 5]))
          (.reg false [⟨(some 12), .mov (.t 5), none⟩,
            ⟨(some 13), .bin .add true (.t 12) (.c (.int .i64 1)), none⟩,
            ⟨(some 5), .mov (.t 13), none⟩] [0, 5]))))))
     (.seq
      (.reg false [⟨(some 16), .mov (.t 0), none⟩,
        ⟨(some 4), .mov (.t 16), none⟩] [4])
      .ret))))
def rs10 : List RS := [.tmp 4]
/-- padlock/padlockref02.Feed -/
def rc12 : RC :=
  (.seq
   (.reg false [⟨(some 4), .mov (.c (.int .u32 0)), none⟩] [0, 1])
   (.seq
    (.seq
     (.reg false [⟨(some 5), .mov (.c (.int .i64 0)), none⟩] [0, 1, 5])
     (.block 0
      (.loop
       (.seq
        (.seq
         (.reg false [⟨(some 6), .mov (.t 5), none⟩,
           ⟨(some 7), .mov (.t 1), none⟩,
           ⟨(some 8), .len true (.t 7), none⟩,
           ⟨(some 9), .bin .lss true (.t 6) (.t 8), none⟩] [0, 1, 5, 9])
         (.cond 9
          .skip
          (.exit 0)))
        (.seq
         (.block 1
          (.reg false [⟨(some 12), .mov (.t 0), none⟩,
            ⟨(some 13), .mov (.t 1), none⟩,
            ⟨(some 14), .mov (.t 5), none⟩,
            ⟨(some 15), .sidx (.t 13) (.t 14), none⟩,
            ⟨(some 16), .call 10 [(false, (.t 12)), (false, (.t 15))], none⟩,
            ⟨(some 0), .mov (.t 16), none⟩] [0, 1, 5]))
         (.reg false [⟨(some 10), .mov (.t 5), none⟩,
           ⟨(some 11), .bin .add true (.t 10) (.c (.int .i64 1)), none⟩,
           ⟨(some 5), .mov (.t 11), none⟩] [0, 1, 5]))))))
    (.seq
     (.reg false [⟨(some 17), .mov (.t 0), none⟩,
       ⟨(some 4), .mov (.t 17), none⟩] [4])
     .ret)))
def rs12 : List RS := [.tmp 4]
/-- padlock/padlockref02.Sum -/
def rc14 : RC :=
  (.seq
   (.reg false [⟨(some 2), .mov (.c (.int .u32 0)), none⟩] [0])
   (.seq
    (.reg false [⟨(some 3), .mov (.t 0), none⟩,
      ⟨(some 4), .call 12 [(false, (.c (.int .u32 4294967295))), (false, (.t 3))], none⟩,
      ⟨(some 5), .bin .sub false (.c (.int .u32 4294967295)) (.t 4), none⟩,
      ⟨(some 2), .mov (.t 5), none⟩] [2])
    .ret))
def rs14 : List RS := [.tmp 2]
/-- padlock/padlockref02.Skip -/
def rc16 : RC :=
  (.seq
   (.reg false [⟨(some 4), .mov (.c (.int .u32 0)), none⟩] [0, 1])
   (.seq
    (.seq
     (.reg false [⟨(some 5), .mov (.c (.int .i64 0)), none⟩] [0, 1, 5])
     (.block 0
      (.loop
       (.seq
        (.seq
         (.reg false [⟨(some 6), .mov (.t 5), none⟩,
           ⟨(some 7), .mov (.t 1), none⟩,
           ⟨(some 8), .bin .lss true (.t 6) (.t 7), none⟩] [0, 1, 5, 8])
         (.cond 8
          .skip
          (.exit 0)))
        (.seq
         (.block 1
          (.reg false [⟨(some 11), .mov (.t 0), none⟩,
            ⟨(some 12), .call 10 [(false, (.t 11)), (false, (.c (.int .u8 0)))], none⟩,
            ⟨(some 0), .mov (.t 12), none⟩] [0, 1, 5]))
         (.reg false [⟨(some 9), .mov (.t 5), none⟩,
           ⟨(some 10), .bin .add true (.t 9) (.c (.int .i64 1)), none⟩,
           ⟨(some 5), .mov (.t 10), none⟩] [0, 1, 5]))))))
    (.seq
     (.reg false [⟨(some 13), .mov (.t 0), none⟩,
       ⟨(some 4), .mov (.t 13), none⟩] [4])
     .ret)))
def rs16 : List RS := [.tmp 4]
/-- padlock/padlockref02.Seal -/
def rc20 : RC :=
  (.seq
   (.reg false [⟨(some 2), .mov (.c (.str [])), none⟩] [0])
   (.seq
    (.reg false [⟨(some 4), .mov (.t 0), none⟩,
      ⟨(some 5), .call 14 [(false, (.t 4))], none⟩,
      ⟨(some 3), .mov (.t 5), none⟩] [0, 3])
    (.seq
     (.reg false [⟨(some 6), .mov (.t 0), none⟩,
       ⟨(some 7), .mov (.t 3), none⟩,
       ⟨(some 8), .bin .quo false (.t 7) (.c (.int .u32 16777216)), none⟩,
       ⟨(some 9), .conv false .u8 (.t 8), none⟩,
       ⟨(some 10), .mov (.t 3), none⟩,
       ⟨(some 11), .bin .quo false (.t 10) (.c (.int .u32 65536)), none⟩,
       ⟨(some 12), .bin .rem false (.t 11) (.c (.int .u32 256)), none⟩,
       ⟨(some 13), .conv false .u8 (.t 12), none⟩,
       ⟨(some 14), .mov (.t 3), none⟩,
       ⟨(some 15), .bin .quo false (.t 14) (.c (.int .u32 256)), none⟩,
       ⟨(some 16), .bin .rem false (.t 15) (.c (.int .u32 256)), none⟩,
       ⟨(some 17), .conv false .u8 (.t 16), none⟩,
       ⟨(some 18), .mov (.t 3), none⟩,
       ⟨(some 19), .bin .rem false (.t 18) (.c (.int .u32 256)), none⟩,
       ⟨(some 20), .conv false .u8 (.t 19), none⟩,
       ⟨(some 21), .mkSl 1 4 [(.int .u8 0), (.int .u8 0), (.int .u8 0), (.int .u8 0)] [(0, 1, (.t 9)), (1, 1, (.t 13)), (2, 1, (.t 17)), (3, 1, (.t 20))], none⟩,
       ⟨(some 22), .b2s (.t 21), none⟩,
       ⟨(some 23), .bin .add false (.t 6) (.t 22), none⟩,
       ⟨(some 2), .mov (.t 23), none⟩] [2])
     .ret)))
def rs20 : List RS := [.tmp 2]
/-- padlock/padlockref02.Open -/
def rc18 : RC :=
  (.seq
   (.reg false [⟨(some 2), .mov (.c (.str [])), none⟩,
     ⟨(some 3), .mov (.c (.int .i64 0)), none⟩] [0])
   (.seq
    (.seq
     (.reg false [⟨(some 4), .mov (.t 0), none⟩,
       ⟨(some 5), .len true (.t 4), none⟩,
       ⟨(some 6), .bin .lss true (.t 5) (.c (.int .i64 4)), none⟩] [0, 6])
     (.cond 6
      (.seq
       (.reg false [⟨(some 2), .mov (.c (.str [])), none⟩,
         ⟨(some 3), .mov (.c (.int .i64 3)), none⟩] [2, 3])
       .ret)
      .skip))
    (.seq
     (.seq
      (.reg false [⟨(some 7), .mov (.t 0), none⟩,
        ⟨(some 8), .mov (.t 0), none⟩,
        ⟨(some 9), .len true (.t 8), none⟩,
        ⟨(some 10), .bin .sub true (.t 9) (.c (.int .i64 4)), none⟩,
        ⟨(some 11), .ssl (.t 7) none (some (.t 10)), none⟩,
        ⟨(some 12), .call 20 [(false, (.t 11))], none⟩,
        ⟨(some 13), .mov (.t 0), none⟩,
        ⟨(some 14), .bin .neq false (.t 12) (.t 13), none⟩] [0, 14])
      (.cond 14
       (.seq
        (.reg false [⟨(some 2), .mov (.c (.str [])), none⟩,
          ⟨(some 3), .mov (.c (.int .i64 10)), none⟩] [2, 3])
        .ret)
       .skip))
     (.seq
      (.reg false [⟨(some 15), .mov (.t 0), none⟩,
        ⟨(some 16), .mov (.t 0), none⟩,
        ⟨(some 17), .len true (.t 16), none⟩,
        ⟨(some 18), .bin .sub true (.t 17) (.c (.int .i64 4)), none⟩,
        ⟨(some 19), .ssl (.t 15) none (some (.t 18)), none⟩,
        ⟨(some 2), .mov (.t 19), none⟩,
        ⟨(some 3), .mov (.c (.int .i64 0)), none⟩] [2, 3])
      .ret))))
def rs18 : List RS := [.tmp 2, .tmp 3]
/-- padlock/padlocklaw02.CrcFeeds -/
def rc3 : RC :=
  (.seq
   (.reg false [⟨(some 6), .mov (.c (.bool false)), none⟩] [0, 1, 2])
   (.seq
    (.seq
     (.reg false [⟨(some 7), .mov (.t 1), none⟩,
       ⟨(some 8), .len true (.t 7), none⟩,
       ⟨(some 9), .bin .gtr true (.t 8) (.c (.int .i64 300)), none⟩,
       ⟨(some 10), .mov (.t 9), none⟩,
       ⟨(some 11), .mov (.t 2), (some (10, false))⟩,
       ⟨(some 12), .bin .gtr true (.t 11) (.c (.int .i64 2000)), (some (10, false))⟩,
       ⟨(some 13), .pick (.t 10) (.c (.bool true)) (.t 12), none⟩] [0, 1, 2, 13])
     (.cond 13
      (.seq
       (.reg false [⟨(some 14), .call 8 [], none⟩,
         ⟨(some 6), .mov (.t 14), none⟩] [6])
       .ret)
      .skip))
    (.seq
     (.reg false [⟨(some 15), .mov (.t 0), none⟩,
       ⟨(some 16), .mov (.t 0), none⟩,
       ⟨(some 17), .bin .quo false (.t 16) (.c (.int .u32 256)), none⟩,
       ⟨(some 18), .conv false .u8 (.t 17), none⟩,
       ⟨(some 19), .call 9 [(false, (.t 15)), (false, (.t 18))], none⟩,
       ⟨(some 20), .mov (.t 0), none⟩,
       ⟨(some 21), .mov (.t 0), none⟩,
       ⟨(some 22), .bin .quo false (.t 21) (.c (.int .u32 256)), none⟩,
       ⟨(some 23), .conv false .u8 (.t 22), none⟩,
       ⟨(some 24), .call 10 [(false, (.t 20)), (false, (.t 23))], none⟩,
       ⟨(some 25), .bin .eql false (.t 19) (.t 24), none⟩,
       ⟨(some 26), .mov (.t 25), none⟩,
       ⟨(some 27), .mov (.t 0), (some (26, true))⟩,
       ⟨(some 28), .mov (.t 1), (some (26, true))⟩,
       ⟨(some 29), .call 11 [(false, (.t 27)), (false, (.t 28))], (some (26, true))⟩,
       ⟨(some 30), .mov (.t 0), (some (26, true))⟩,
       ⟨(some 31), .mov (.t 1), (some (26, true))⟩,
       ⟨(some 32), .call 12 [(false, (.t 30)), (false, (.t 31))], (some (26, true))⟩,
       ⟨(some 33), .bin .eql false (.t 29) (.t 32), (some (26, true))⟩,
       ⟨(some 34), .pick (.t 26) (.t 33) (.c (.bool false)), none⟩,
       ⟨(some 35), .mov (.t 34), none⟩,
       ⟨(some 36), .mov (.t 1), (some (35, true))⟩,
       ⟨(some 37), .call 13 [(false, (.t 36))], (some (35, true))⟩,
       ⟨(some 38), .mov (.t 1), (some (35, true))⟩,
       ⟨(some 39), .call 14 [(false, (.t 38))], (some (35, true))⟩,
       ⟨(some 40), .bin .eql false (.t 37) (.t 39), (some (35, true))⟩,
       ⟨(some 41), .pick (.t 35) (.t 40) (.c (.bool false)), none⟩,
       ⟨(some 42), .mov (.t 41), none⟩,
       ⟨(some 43), .mov (.t 0), (some (42, true))⟩,
       ⟨(some 44), .mov (.t 2), (some (42, true))⟩,
       ⟨(some 45), .call 15 [(false, (.t 43)), (false, (.t 44))], (some (42, true))⟩,
       ⟨(some 46), .mov (.t 0), (some (42, true))⟩,
       ⟨(some 47), .mov (.t 2), (some (42, true))⟩,
       ⟨(some 48), .call 16 [(false, (.t 46)), (false, (.t 47))], (some (42, true))⟩,
       ⟨(some 49), .bin .eql false (.t 45) (.t 48), (some (42, true))⟩,
       ⟨(some 50), .pick (.t 42) (.t 49) (.c (.bool false)), none⟩,
       ⟨(some 51), .mov (.t 50), none⟩,
       ⟨(some 52), .call 8 [], (some (51, true))⟩,
       ⟨(some 53), .pick (.t 51) (.t 52) (.c (.bool false)), none⟩,
       ⟨(some 6), .mov (.t 53), none⟩] [6])
     .ret)))
def rs3 : List RS := [.tmp 6]
/-- padlock/padlocklaw02.CrcSeals -/
def rc4 : RC :=
  (.seq
   (.reg false [⟨(some 2), .mov (.c (.bool false)), none⟩] [0])
   (.seq
    (.seq
     (.reg false [⟨(some 7), .mov (.t 0), none⟩,
       ⟨(some 8), .len true (.t 7), none⟩,
       ⟨(some 9), .bin .gtr true (.t 8) (.c (.int .i64 300)), none⟩] [0, 9])
     (.cond 9
      (.seq
       (.reg false [⟨(some 10), .call 8 [], none⟩,
         ⟨(some 2), .mov (.t 10), none⟩] [2])
       .ret)
      .skip))
    (.seq
     (.reg false [⟨(some 12), .mov (.t 0), none⟩,
       ⟨(some 13), .call 17 [(false, (.t 12))], none⟩,
       ⟨(some 11), .mov (.t 13), none⟩,
       ⟨(some 14), .ext (.t 11) 0, none⟩,
       ⟨(some 15), .ext (.t 11) 1, none⟩,
       ⟨(some 3), .mov (.t 14), none⟩,
       ⟨(some 4), .mov (.t 15), none⟩] [0, 3, 4])
     (.seq
      (.reg false [⟨(some 17), .mov (.t 0), none⟩,
        ⟨(some 18), .call 18 [(false, (.t 17))], none⟩,
        ⟨(some 16), .mov (.t 18), none⟩,
        ⟨(some 19), .ext (.t 16) 0, none⟩,
        ⟨(some 20), .ext (.t 16) 1, none⟩,
        ⟨(some 5), .mov (.t 19), none⟩,
        ⟨(some 6), .mov (.t 20), none⟩] [0, 3, 4, 5, 6])
      (.seq
       (.reg false [⟨(some 21), .mov (.t 0), none⟩,
         ⟨(some 22), .call 19 [(false, (.t 21))], none⟩,
         ⟨(some 23), .mov (.t 0), none⟩,
         ⟨(some 24), .call 20 [(false, (.t 23))], none⟩,
         ⟨(some 25), .bin .eql false (.t 22) (.t 24), none⟩,
         ⟨(some 26), .mov (.t 25), none⟩,
         ⟨(some 27), .mov (.t 3), (some (26, true))⟩,
         ⟨(some 28), .mov (.t 5), (some (26, true))⟩,
         ⟨(some 29), .bin .eql false (.t 27) (.t 28), (some (26, true))⟩,
         ⟨(some 30), .pick (.t 26) (.t 29) (.c (.bool false)), none⟩,
         ⟨(some 31), .mov (.t 30), none⟩,
         ⟨(some 32), .mov (.t 4), (some (31, true))⟩,
         ⟨(some 33), .mov (.t 6), (some (31, true))⟩,
         ⟨(some 34), .bin .eql true (.t 32) (.t 33), (some (31, true))⟩,
         ⟨(some 35), .pick (.t 31) (.t 34) (.c (.bool false)), none⟩,
         ⟨(some 36), .mov (.t 35), none⟩,
         ⟨(some 37), .call 8 [], (some (36, true))⟩,
         ⟨(some 38), .pick (.t 36) (.t 37) (.c (.bool false)), none⟩,
         ⟨(some 2), .mov (.t 38), none⟩] [2])
       .ret)))))
def rs4 : List RS := [.tmp 2]
/-- padlock/padlocklaw02.CrcParts -/
def rc5 : RC :=
  (.seq
   (.reg false [⟨(some 5), .box (.t 2), none⟩,
     ⟨(some 6), .mov (.c (.bool false)), none⟩] [0, 1, 5])
   (.seq
    (.seq
     (.reg false [⟨(some 10), .mov (.t 0), none⟩,
       ⟨(some 11), .len true (.t 10), none⟩,
       ⟨(some 12), .bin .gtr true (.t 11) (.c (.int .i64 300)), none⟩,
       ⟨(some 13), .mov (.t 12), none⟩,
       ⟨(some 14), .mov (.t 1), (some (13, false))⟩,
       ⟨(some 15), .len true (.t 14), (some (13, false))⟩,
       ⟨(some 16), .bin .gtr true (.t 15) (.c (.int .i64 300)), (some (13, false))⟩,
       ⟨(some 17), .pick (.t 13) (.c (.bool true)) (.t 16), none⟩] [0, 1, 5, 17])
     (.cond 17
      (.seq
       (.reg false [⟨(some 18), .call 8 [], none⟩,
         ⟨(some 6), .mov (.t 18), none⟩] [6])
       .ret)
      .skip))
    (.seq
     (.reg true [⟨(some 19), .idxB 5 1 2 (.c (.int .i64 0)), none⟩,
       ⟨(some 20), .loadR 19 5 1 false, none⟩,
       ⟨(some 21), .bin .rem false (.t 20) (.c (.int .u16 2000)), none⟩,
       ⟨(some 22), .conv true .i64 (.t 21), none⟩,
       ⟨(some 23), .idxB 5 1 2 (.c (.int .i64 1)), none⟩,
       ⟨(some 24), .loadR 23 5 1 false, none⟩,
       ⟨(some 25), .bin .rem false (.t 24) (.c (.int .u16 2000)), none⟩,
       ⟨(some 26), .conv true .i64 (.t 25), none⟩,
       ⟨(some 7), .mov (.t 22), none⟩,
       ⟨(some 8), .mov (.t 26), none⟩] [0, 1, 7, 8])
     (.seq
      (.seq
       (.reg false [⟨(some 27), .mov (.t 0), none⟩,
         ⟨(some 28), .call 13 [(false, (.t 27))], none⟩,
         ⟨(some 29), .mov (.t 1), none⟩,
         ⟨(some 30), .call 13 [(false, (.t 29))], none⟩,
         ⟨(some 31), .mov (.t 1), none⟩,
         ⟨(some 32), .len true (.t 31), none⟩,
         ⟨(some 33), .call 21 [(false, (.t 28)), (false, (.t 30)), (false, (.t 32))], none⟩,
         ⟨(some 34), .mov (.t 0), none⟩,
         ⟨(some 35), .mov (.t 1), none⟩,
         ⟨(some 36), .bin .add false (.t 34) (.t 35), none⟩,
         ⟨(some 37), .call 13 [(false, (.t 36))], none⟩,
         ⟨(some 38), .bin .neq false (.t 33) (.t 37), none⟩,
         ⟨(some 39), .mov (.t 38), none⟩,
         ⟨(some 40), .mov (.t 0), (some (39, false))⟩,
         ⟨(some 41), .call 11 [(false, (.c (.int .u32 7))), (false, (.t 40))], (some (39, false))⟩,
         ⟨(some 42), .mov (.t 1), (some (39, false))⟩,
         ⟨(some 43), .call 11 [(false, (.t 41)), (false, (.t 42))], (some (39, false))⟩,
         ⟨(some 44), .mov (.t 0), (some (39, false))⟩,
         ⟨(some 45), .mov (.t 1), (some (39, false))⟩,
         ⟨(some 46), .bin .add false (.t 44) (.t 45), (some (39, false))⟩,
         ⟨(some 47), .call 11 [(false, (.c (.int .u32 7))), (false, (.t 46))], (some (39, false))⟩,
         ⟨(some 48), .bin .neq false (.t 43) (.t 47), (some (39, false))⟩,
         ⟨(some 49), .pick (.t 39) (.c (.bool true)) (.t 48), none⟩] [0, 7, 8, 49])
       (.cond 49
        (.seq
         (.reg false [⟨(some 6), .mov (.c (.bool false)), none⟩] [6])
         .ret)
        .skip))
      (.seq
       (.reg false [⟨(some 50), .mov (.t 0), none⟩,
         ⟨(some 51), .call 13 [(false, (.t 50))], none⟩,
         ⟨(some 9), .mov (.t 51), none⟩] [7, 8, 9])
       (.seq
        (.reg false [⟨(some 52), .mov (.t 9), none⟩,
          ⟨(some 53), .mov (.t 7), none⟩,
          ⟨(some 54), .call 15 [(false, (.t 52)), (false, (.t 53))], none⟩,
          ⟨(some 55), .mov (.t 8), none⟩,
          ⟨(some 56), .call 15 [(false, (.t 54)), (false, (.t 55))], none⟩,
          ⟨(some 57), .mov (.t 9), none⟩,
          ⟨(some 58), .mov (.t 7), none⟩,
          ⟨(some 59), .mov (.t 8), none⟩,
          ⟨(some 60), .bin .add true (.t 58) (.t 59), none⟩,
          ⟨(some 61), .call 15 [(false, (.t 57)), (false, (.t 60))], none⟩,
          ⟨(some 62), .bin .eql false (.t 56) (.t 61), none⟩,
          ⟨(some 63), .mov (.t 62), none⟩,
          ⟨(some 64), .mov (.t 9), (some (63, true))⟩,
          ⟨(some 65), .call 15 [(false, (.t 64)), (false, (.c (.int .i64 0)))], (some (63, true))⟩,
          ⟨(some 66), .mov (.t 9), (some (63, true))⟩,
          ⟨(some 67), .bin .eql false (.t 65) (.t 66), (some (63, true))⟩,
          ⟨(some 68), .pick (.t 63) (.t 67) (.c (.bool false)), none⟩,
          ⟨(some 69), .mov (.t 68), none⟩,
          ⟨(some 70), .call 8 [], (some (69, true))⟩,
          ⟨(some 71), .pick (.t 69) (.t 70) (.c (.bool false)), none⟩,
          ⟨(some 6), .mov (.t 71), none⟩] [6])
        .ret))))))
def rs5 : List RS := [.tmp 6]
/-- padlock/padlocklaw02.CrcTells -/
def rc6 : RC :=
  (.seq
   (.reg false [⟨(some 6), .mov (.c (.bool false)), none⟩] [0, 1, 2])
   (.seq
    (.seq
     (.reg false [⟨(some 13), .mov (.t 0), none⟩,
       ⟨(some 14), .len true (.t 13), none⟩,
       ⟨(some 15), .bin .gtr true (.t 14) (.c (.int .i64 300)), none⟩] [0, 1, 2, 15])
     (.cond 15
      (.seq
       (.reg false [⟨(some 16), .call 8 [], none⟩,
         ⟨(some 6), .mov (.t 16), none⟩] [6])
       .ret)
      .skip))
    (.seq
     (.reg false [⟨(some 17), .mov (.t 0), none⟩,
       ⟨(some 18), .call 19 [(false, (.t 17))], none⟩,
       ⟨(some 7), .mov (.t 18), none⟩] [0, 1, 2, 7])
     (.seq
      (.reg false [⟨(some 20), .mov (.t 7), none⟩,
        ⟨(some 21), .call 17 [(false, (.t 20))], none⟩,
        ⟨(some 19), .mov (.t 21), none⟩,
        ⟨(some 22), .ext (.t 19) 0, none⟩,
        ⟨(some 23), .ext (.t 19) 1, none⟩,
        ⟨(some 8), .mov (.t 22), none⟩,
        ⟨(some 9), .mov (.t 23), none⟩] [0, 1, 2, 7, 8, 9])
      (.seq
       (.seq
        (.reg false [⟨(some 24), .mov (.t 9), none⟩,
          ⟨(some 25), .bin .neq true (.t 24) (.c (.int .i64 0)), none⟩,
          ⟨(some 26), .mov (.t 25), none⟩,
          ⟨(some 27), .mov (.t 8), (some (26, false))⟩,
          ⟨(some 28), .mov (.t 0), (some (26, false))⟩,
          ⟨(some 29), .bin .neq false (.t 27) (.t 28), (some (26, false))⟩,
          ⟨(some 30), .pick (.t 26) (.c (.bool true)) (.t 29), none⟩,
          ⟨(some 31), .mov (.t 30), none⟩,
          ⟨(some 32), .mov (.t 7), (some (31, false))⟩,
          ⟨(some 33), .len true (.t 32), (some (31, false))⟩,
          ⟨(some 34), .mov (.t 0), (some (31, false))⟩,
          ⟨(some 35), .len true (.t 34), (some (31, false))⟩,
          ⟨(some 36), .bin .add true (.t 35) (.c (.int .i64 4)), (some (31, false))⟩,
          ⟨(some 37), .bin .neq true (.t 33) (.t 36), (some (31, false))⟩,
          ⟨(some 38), .pick (.t 31) (.c (.bool true)) (.t 37), none⟩] [1, 2, 7, 38])
        (.cond 38
         (.seq
          (.reg false [⟨(some 6), .mov (.c (.bool false)), none⟩] [6])
          .ret)
         .skip))
       (.seq
        (.reg false [⟨(some 39), .mov (.t 7), none⟩,
          ⟨(some 40), .s2bM (.t 39), none⟩,
          ⟨(some 10), .stealM 40, none⟩] [1, 2, 10])
        (.seq
         (.reg false [⟨(some 41), .al 10, none⟩,
           ⟨(some 42), .mov (.t 1), none⟩,
           ⟨(some 43), .conv true .i64 (.t 42), none⟩,
           ⟨(some 44), .al 10, none⟩,
           ⟨(some 45), .lenM 44 10, none⟩,
           ⟨(some 46), .bin .rem true (.t 43) (.t 45), none⟩,
           ⟨(some 47), .idxM 41 10 1 (.t 46), none⟩,
           ⟨(some 48), .loadR 47 10 1 false, none⟩,
           ⟨(some 49), .mov (.t 2), none⟩,
           ⟨(some 50), .bin .rem false (.t 49) (.c (.int .u8 255)), none⟩,
           ⟨(some 51), .bin .add false (.c (.int .u8 1)) (.t 50), none⟩,
           ⟨(some 52), .bin .xor false (.t 48) (.t 51), none⟩,
           ⟨(some 53), .idxM 41 10 1 (.t 46), none⟩,
           ⟨none, .stR 53 10 1 (.t 52), none⟩] [10])
         (.seq
          (.reg false [⟨(some 55), .al 10, none⟩,
            ⟨(some 56), .b2sM 55 10, none⟩,
            ⟨(some 57), .call 17 [(false, (.t 56))], none⟩,
            ⟨(some 54), .mov (.t 57), none⟩,
            ⟨(some 58), .ext (.t 54) 0, none⟩,
            ⟨(some 59), .ext (.t 54) 1, none⟩,
            ⟨(some 11), .mov (.t 58), none⟩,
            ⟨(some 12), .mov (.t 59), none⟩] [11, 12])
          (.seq
           (.reg false [⟨(some 60), .mov (.t 11), none⟩,
             ⟨(some 61), .bin .eql false (.t 60) (.c (.str [])), none⟩,
             ⟨(some 62), .mov (.t 61), none⟩,
             ⟨(some 63), .mov (.t 12), (some (62, true))⟩,
             ⟨(some 64), .bin .eql true (.t 63) (.c (.int .i64 10)), (some (62, true))⟩,
             ⟨(some 65), .pick (.t 62) (.t 64) (.c (.bool false)), none⟩,
             ⟨(some 66), .mov (.t 65), none⟩,
             ⟨(some 67), .call 8 [], (some (66, true))⟩,
             ⟨(some 68), .pick (.t 66) (.t 67) (.c (.bool false)), none⟩,
             ⟨(some 6), .mov (.t 68), none⟩] [6])
           .ret)))))))))
def rs6 : List RS := [.tmp 6]
/-- padlock/padlocklaw02.CrcAdds -/
def rc7 : RC :=
  (.seq
   (.reg false [⟨(some 4), .box (.t 1), none⟩,
     ⟨(some 5), .box (.t 2), none⟩,
     ⟨(some 6), .mov (.c (.bool false)), none⟩] [0, 4, 5])
   (.seq
    (.seq
     (.reg false [⟨(some 13), .mov (.t 0), none⟩,
       ⟨(some 14), .len true (.t 13), none⟩,
       ⟨(some 15), .bin .gtr true (.t 14) (.c (.int .i64 200)), none⟩] [0, 4, 5, 15])
     (.cond 15
      (.seq
       (.reg false [⟨(some 16), .call 8 [], none⟩,
         ⟨(some 6), .mov (.t 16), none⟩] [6])
       .ret)
      .skip))
    (.seq
     (.reg false [⟨(some 17), .mov (.t 0), none⟩,
       ⟨(some 18), .s2bM (.t 17), none⟩,
       ⟨(some 19), .mov (.t 0), none⟩,
       ⟨(some 20), .s2bM (.t 19), none⟩,
       ⟨(some 21), .mov (.t 0), none⟩,
       ⟨(some 22), .s2bM (.t 21), none⟩,
       ⟨(some 7), .stealM 18, none⟩,
       ⟨(some 8), .stealM 20, none⟩,
       ⟨(some 9), .stealM 22, none⟩] [0, 4, 5, 7, 8, 9])
     (.seq
      (.seq
       (.reg false [⟨(some 10), .mov (.c (.int .i64 0)), none⟩] [0, 4, 5, 7, 8, 9, 10])
       (.block 0
        (.loop
         (.seq
          (.seq
           (.reg false [⟨(some 23), .mov (.t 10), none⟩,
             ⟨(some 24), .mov (.t 0), none⟩,
             ⟨(some 25), .len true (.t 24), none⟩,
             ⟨(some 26), .bin .lss true (.t 23) (.t 25), none⟩] [0, 4, 5, 7, 8, 9, 10, 26])
           (.cond 26
            .skip
            (.exit 0)))
          (.seq
           (.block 1
            (.seq
             (.reg false [⟨(some 29), .al 7, none⟩,
               ⟨(some 30), .mov (.t 10), none⟩,
               ⟨(some 31), .idxB 5 1 2 (.c (.int .i64 0)), none⟩,
               ⟨(some 32), .loadR 31 5 1 false, none⟩,
               ⟨(some 33), .mov (.t 10), none⟩,
               ⟨(some 34), .bin .rem true (.t 33) (.c (.int .i64 8)), none⟩,
               ⟨(some 35), .bin .mul true (.c (.int .i64 8)) (.t 34), none⟩,
               ⟨(some 36), .conv true .u64 (.t 35), none⟩,
               ⟨(some 37), .bin .shr false (.t 32) (.t 36), none⟩,
               ⟨(some 38), .conv false .u8 (.t 37), none⟩,
               ⟨(some 39), .idxM 29 7 1 (.t 30), none⟩,
               ⟨none, .stR 39 7 1 (.t 38), none⟩] [0, 4, 5, 7, 8, 9, 10])
             (.seq
              (.reg false [⟨(some 40), .al 8, none⟩,
                ⟨(some 41), .mov (.t 10), none⟩,
                ⟨(some 42), .idxB 5 1 2 (.c (.int .i64 1)), none⟩,
                ⟨(some 43), .loadR 42 5 1 false, none⟩,
                ⟨(some 44), .mov (.t 10), none⟩,
                ⟨(some 45), .bin .rem true (.t 44) (.c (.int .i64 8)), none⟩,
                ⟨(some 46), .bin .mul true (.c (.int .i64 8)) (.t 45), none⟩,
                ⟨(some 47), .conv true .u64 (.t 46), none⟩,
                ⟨(some 48), .bin .shr false (.t 43) (.t 47), none⟩,
                ⟨(some 49), .conv false .u8 (.t 48), none⟩,
                ⟨(some 50), .mov (.t 10), none⟩,
                ⟨(some 51), .conv false .u8 (.t 50), none⟩,
                ⟨(some 52), .bin .add false (.t 49) (.t 51), none⟩,
                ⟨(some 53), .idxM 40 8 1 (.t 41), none⟩,
                ⟨none, .stR 53 8 1 (.t 52), none⟩] [0, 4, 5, 7, 8, 9, 10])
              (.reg true [⟨(some 54), .al 9, none⟩,
                ⟨(some 55), .mov (.t 10), none⟩,
                ⟨(some 56), .mov (.t 0), none⟩,
                ⟨(some 57), .mov (.t 10), none⟩,
                ⟨(some 58), .sidx (.t 56) (.t 57), none⟩,
                ⟨(some 59), .al 7, none⟩,
                ⟨(some 60), .mov (.t 10), none⟩,
                ⟨(some 61), .idxM 59 7 1 (.t 60), none⟩,
                ⟨(some 62), .loadR 61 7 1 false, none⟩,
                ⟨(some 63), .bin .xor false (.t 58) (.t 62), none⟩,
                ⟨(some 64), .al 8, none⟩,
                ⟨(some 65), .mov (.t 10), none⟩,
                ⟨(some 66), .idxM 64 8 1 (.t 65), none⟩,
                ⟨(some 67), .loadR 66 8 1 false, none⟩,
                ⟨(some 68), .bin .xor false (.t 63) (.t 67), none⟩,
                ⟨(some 69), .idxM 54 9 1 (.t 55), none⟩,
                ⟨none, .stR 69 9 1 (.t 68), none⟩] [0, 4, 5, 7, 8, 9, 10]))))
           (.reg false [⟨(some 27), .mov (.t 10), none⟩,
             ⟨(some 28), .bin .add true (.t 27) (.c (.int .i64 1)), none⟩,
             ⟨(some 10), .mov (.t 28), none⟩] [0, 4, 5, 7, 8, 9, 10]))))))
      (.seq
       (.seq
        (.reg true [⟨(some 70), .mov (.t 0), none⟩,
          ⟨(some 71), .call 13 [(false, (.t 70))], none⟩,
          ⟨(some 72), .al 7, none⟩,
          ⟨(some 73), .b2sM 72 7, none⟩,
          ⟨(some 74), .call 13 [(false, (.t 73))], none⟩,
          ⟨(some 75), .bin .xor false (.t 71) (.t 74), none⟩,
          ⟨(some 76), .al 8, none⟩,
          ⟨(some 77), .b2sM 76 8, none⟩,
          ⟨(some 78), .call 13 [(false, (.t 77))], none⟩,
          ⟨(some 79), .bin .xor false (.t 75) (.t 78), none⟩,
          ⟨(some 80), .al 9, none⟩,
          ⟨(some 81), .b2sM 80 9, none⟩,
          ⟨(some 82), .call 13 [(false, (.t 81))], none⟩,
          ⟨(some 83), .bin .neq false (.t 79) (.t 82), none⟩] [4, 83])
        (.cond 83
         (.seq
          (.reg false [⟨(some 6), .mov (.c (.bool false)), none⟩] [6])
          .ret)
         .skip))
       (.seq
        (.reg true [⟨(some 84), .idxB 4 1 2 (.c (.int .i64 0)), none⟩,
          ⟨(some 85), .loadR 84 4 1 false, none⟩,
          ⟨(some 86), .call 9 [(false, (.t 85)), (false, (.c (.int .u8 9)))], none⟩,
          ⟨(some 87), .idxB 4 1 2 (.c (.int .i64 1)), none⟩,
          ⟨(some 88), .loadR 87 4 1 false, none⟩,
          ⟨(some 89), .call 9 [(false, (.t 88)), (false, (.c (.int .u8 9)))], none⟩,
          ⟨(some 11), .mov (.t 86), none⟩,
          ⟨(some 12), .mov (.t 89), none⟩] [4, 11, 12])
        (.seq
         (.reg true [⟨(some 90), .mov (.t 11), none⟩,
           ⟨(some 91), .mov (.t 12), none⟩,
           ⟨(some 92), .bin .eql false (.t 90) (.t 91), none⟩,
           ⟨(some 93), .idxB 4 1 2 (.c (.int .i64 0)), none⟩,
           ⟨(some 94), .loadR 93 4 1 false, none⟩,
           ⟨(some 95), .idxB 4 1 2 (.c (.int .i64 1)), none⟩,
           ⟨(some 96), .loadR 95 4 1 false, none⟩,
           ⟨(some 97), .bin .eql false (.t 94) (.t 96), none⟩,
           ⟨(some 98), .beq false none (.t 92) (.t 97), none⟩,
           ⟨(some 99), .mov (.t 98), none⟩,
           ⟨(some 100), .idxB 4 1 2 (.c (.int .i64 0)), (some (99, true))⟩,
           ⟨(some 101), .loadR 100 4 1 false, (some (99, true))⟩,
           ⟨(some 102), .idxB 4 1 2 (.c (.int .i64 1)), (some (99, true))⟩,
           ⟨(some 103), .loadR 102 4 1 false, (some (99, true))⟩,
           ⟨(some 104), .bin .xor false (.t 101) (.t 103), (some (99, true))⟩,
           ⟨(some 105), .call 15 [(false, (.t 104)), (false, (.c (.int .i64 3)))], (some (99, true))⟩,
           ⟨(some 106), .idxB 4 1 2 (.c (.int .i64 0)), (some (99, true))⟩,
           ⟨(some 107), .loadR 106 4 1 false, (some (99, true))⟩,
           ⟨(some 108), .call 15 [(false, (.t 107)), (false, (.c (.int .i64 3)))], (some (99, true))⟩,
           ⟨(some 109), .idxB 4 1 2 (.c (.int .i64 1)), (some (99, true))⟩,
           ⟨(some 110), .loadR 109 4 1 false, (some (99, true))⟩,
           ⟨(some 111), .call 15 [(false, (.t 110)), (false, (.c (.int .i64 3)))], (some (99, true))⟩,
           ⟨(some 112), .bin .xor false (.t 108) (.t 111), (some (99, true))⟩,
           ⟨(some 113), .bin .eql false (.t 105) (.t 112), (some (99, true))⟩,
           ⟨(some 114), .pick (.t 99) (.t 113) (.c (.bool false)), none⟩,
           ⟨(some 115), .mov (.t 114), none⟩,
           ⟨(some 116), .call 8 [], (some (115, true))⟩,
           ⟨(some 117), .pick (.t 115) (.t 116) (.c (.bool false)), none⟩,
           ⟨(some 6), .mov (.t 117), none⟩] [6])
         .ret)))))))
def rs7 : List RS := [.tmp 6]
/-- padlock/padlocklaw02.awake -/
def rc8 : RC :=
  (.seq
   (.reg false [⟨(some 0), .mov (.c (.bool false)), none⟩] [])
   (.seq
    (.reg false [⟨(some 8), .call 19 [(false, (.c (.str [97, 98])))], none⟩,
      ⟨(some 9), .call 17 [(false, (.t 8))], none⟩,
      ⟨(some 7), .mov (.t 9), none⟩,
      ⟨(some 10), .ext (.t 7) 0, none⟩,
      ⟨(some 11), .ext (.t 7) 1, none⟩,
      ⟨(some 1), .mov (.t 10), none⟩,
      ⟨(some 2), .mov (.t 11), none⟩] [1, 2])
    (.seq
     (.reg false [⟨(some 13), .call 17 [(false, (.c (.str [97, 98, 99, 100, 101])))], none⟩,
       ⟨(some 12), .mov (.t 13), none⟩,
       ⟨(some 14), .ext (.t 12) 0, none⟩,
       ⟨(some 15), .ext (.t 12) 1, none⟩,
       ⟨(some 3), .mov (.t 14), none⟩,
       ⟨(some 4), .mov (.t 15), none⟩] [1, 2, 4])
     (.seq
      (.reg false [⟨(some 17), .call 17 [(false, (.c (.str [97, 98, 99])))], none⟩,
        ⟨(some 16), .mov (.t 17), none⟩,
        ⟨(some 18), .ext (.t 16) 0, none⟩,
        ⟨(some 19), .ext (.t 16) 1, none⟩,
        ⟨(some 5), .mov (.t 18), none⟩,
        ⟨(some 6), .mov (.t 19), none⟩] [1, 2, 4, 6])
      (.seq
       (.reg false [⟨(some 20), .call 13 [(false, (.c (.str [49, 50, 51, 52, 53, 54, 55, 56, 57])))], none⟩,
         ⟨(some 21), .bin .eql false (.t 20) (.c (.int .u32 3421780262)), none⟩,
         ⟨(some 22), .mov (.t 21), none⟩,
         ⟨(some 23), .call 13 [(false, (.c (.str [])))], (some (22, true))⟩,
         ⟨(some 24), .bin .eql false (.t 23) (.c (.int .u32 0)), (some (22, true))⟩,
         ⟨(some 25), .pick (.t 22) (.t 24) (.c (.bool false)), none⟩,
         ⟨(some 26), .mov (.t 25), none⟩,
         ⟨(some 27), .mov (.t 1), (some (26, true))⟩,
         ⟨(some 28), .bin .eql false (.t 27) (.c (.str [97, 98])), (some (26, true))⟩,
         ⟨(some 29), .pick (.t 26) (.t 28) (.c (.bool false)), none⟩,
         ⟨(some 30), .mov (.t 29), none⟩,
         ⟨(some 31), .mov (.t 2), (some (30, true))⟩,
         ⟨(some 32), .bin .eql true (.t 31) (.c (.int .i64 0)), (some (30, true))⟩,
         ⟨(some 33), .pick (.t 30) (.t 32) (.c (.bool false)), none⟩,
         ⟨(some 34), .mov (.t 33), none⟩,
         ⟨(some 35), .mov (.t 4), (some (34, true))⟩,
         ⟨(some 36), .bin .eql true (.t 35) (.c (.int .i64 10)), (some (34, true))⟩,
         ⟨(some 37), .pick (.t 34) (.t 36) (.c (.bool false)), none⟩,
         ⟨(some 38), .mov (.t 37), none⟩,
         ⟨(some 39), .mov (.t 6), (some (38, true))⟩,
         ⟨(some 40), .bin .eql true (.t 39) (.c (.int .i64 3)), (some (38, true))⟩,
         ⟨(some 41), .pick (.t 38) (.t 40) (.c (.bool false)), none⟩,
         ⟨(some 42), .mov (.t 41), none⟩,
         ⟨(some 43), .pick (.t 42) (.c (.bool true)) (.c (.bool false)), none⟩,
         ⟨(some 44), .mov (.t 43), none⟩,
         ⟨(some 45), .call 15 [(false, (.c (.int .u32 5))), (false, (.c (.int .i64 (-1))))], (some (44, true))⟩,
         ⟨(some 46), .bin .eql false (.t 45) (.c (.int .u32 5)), (some (44, true))⟩,
         ⟨(some 47), .pick (.t 44) (.t 46) (.c (.bool false)), none⟩,
         ⟨(some 48), .mov (.t 47), none⟩,
         ⟨(some 49), .call 13 [(false, (.c (.str [97])))], (some (48, true))⟩,
         ⟨(some 50), .call 13 [(false, (.c (.str [98])))], (some (48, true))⟩,
         ⟨(some 51), .call 21 [(false, (.t 49)), (false, (.t 50)), (false, (.c (.int .i64 1)))], (some (48, true))⟩,
         ⟨(some 52), .call 13 [(false, (.c (.str [97, 98])))], (some (48, true))⟩,
         ⟨(some 53), .bin .eql false (.t 51) (.t 52), (some (48, true))⟩,
         ⟨(some 54), .pick (.t 48) (.t 53) (.c (.bool false)), none⟩,
         ⟨(some 55), .mov (.t 54), none⟩,
         ⟨(some 56), .pick (.t 55) (.c (.bool true)) (.c (.bool false)), none⟩,
         ⟨(some 0), .mov (.t 56), none⟩] [0])
       .ret)))))
def rs8 : List RS := [.tmp 0]
end Go.Proofs.Ytpphhgaeoljioaa
