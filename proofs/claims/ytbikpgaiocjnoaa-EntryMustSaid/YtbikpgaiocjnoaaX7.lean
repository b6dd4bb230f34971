/- The laws of entry. -/
import Derived.Test.YtbikpgaiocjnoaaX6
set_option linter.unusedVariables false
set_option linter.unusedSimpArgs false
namespace Go.Proofs.Ytbikpgaiocjnoaa
open Go.Proofs.Ytbikpgaiocjnoaa.Pad Go.Proofs.Ytbikpgaiocjnoaa.Pad.En
/-- padlock/padlocklaw10.awake -/
def rc9 : RC :=
  (.seq
   (.reg false [⟨(some 0), .mov (.c (.bool false)), none⟩] [])
   (.seq
    (.reg false [⟨(some 16), .mkI 4 (.c (.bool true)), none⟩,
      ⟨(some 17), .mkSl 1 2 [.nilI, .nilI] [(0, 1, (.c .nilI)), (1, 1, (.t 16))], none⟩,
      ⟨(some 18), .mkI 57 (.t 17), none⟩,
      ⟨(some 19), .call 11 [(false, (.t 18))], none⟩,
      ⟨(some 15), .mov (.t 19), none⟩,
      ⟨(some 20), .ext (.t 15) 0, none⟩,
      ⟨(some 21), .ext (.t 15) 1, none⟩,
      ⟨(some 1), .steal 20, none⟩,
      ⟨(some 2), .mov (.t 21), none⟩] [1, 2])
    (.seq
     (.reg false [⟨(some 23), .mov (.t 1), none⟩,
       ⟨(some 24), .b2s (.t 23), none⟩,
       ⟨(some 25), .call 15 [(false, (.t 24))], none⟩,
       ⟨(some 22), .mov (.t 25), none⟩,
       ⟨(some 26), .ext (.t 22) 0, none⟩,
       ⟨(some 27), .ext (.t 22) 1, none⟩,
       ⟨(some 3), .mov (.t 26), none⟩,
       ⟨(some 4), .mov (.t 27), none⟩] [1, 2, 3, 4])
     (.seq
      (.reg false [⟨(some 29), .mov (.t 3), none⟩,
        ⟨(some 30), .asI 57 true (.sl [] 0) (.t 29), none⟩,
        ⟨(some 28), .mov (.t 30), none⟩,
        ⟨(some 31), .ext (.t 28) 0, none⟩,
        ⟨(some 32), .ext (.t 28) 1, none⟩,
        ⟨(some 5), .steal 31, none⟩,
        ⟨(some 6), .mov (.t 32), none⟩] [1, 2, 4, 5, 6])
      (.seq
       (.reg false [⟨(some 34), .mkI 22 (.c (.int .u64 7)), none⟩,
         ⟨(some 35), .call 20 [(false, (.t 34))], none⟩,
         ⟨(some 33), .mov (.t 35), none⟩,
         ⟨(some 36), .ext (.t 33) 0, none⟩,
         ⟨(some 37), .ext (.t 33) 1, none⟩,
         ⟨(some 7), .mov (.t 36), none⟩,
         ⟨(some 8), .mov (.t 37), none⟩] [1, 2, 4, 5, 6, 7, 8])
       (.seq
        (.reg false [⟨(some 39), .mkI 22 (.c (.int .u64 7)), none⟩,
          ⟨(some 40), .call 19 [(false, (.t 39))], none⟩,
          ⟨(some 38), .mov (.t 40), none⟩,
          ⟨(some 41), .ext (.t 38) 0, none⟩,
          ⟨(some 42), .ext (.t 38) 1, none⟩,
          ⟨(some 9), .mov (.t 41), none⟩,
          ⟨(some 10), .mov (.t 42), none⟩] [1, 2, 4, 5, 6, 7, 8, 9, 10])
        (.seq
         (.reg false [⟨(some 44), .mkI 9 (.c (.str [98])), none⟩,
           ⟨(some 45), .build [(.str []), .nilI] [(0, 1, (.c (.str [97]))), (1, 1, (.t 44))], none⟩,
           ⟨(some 46), .mkSl 2 1 [(.str []), .nilI] [(0, 2, (.t 45))], none⟩,
           ⟨(some 47), .mkI 61 (.t 46), none⟩,
           ⟨(some 48), .call 21 [(false, (.t 47)), (false, (.c (.str [97])))], none⟩,
           ⟨(some 43), .mov (.t 48), none⟩,
           ⟨(some 49), .ext (.t 43) 0, none⟩,
           ⟨(some 50), .ext (.t 43) 1, none⟩,
           ⟨(some 11), .mov (.t 49), none⟩,
           ⟨(some 12), .mov (.t 50), none⟩] [1, 2, 4, 5, 6, 7, 8, 9, 10, 11, 12])
         (.seq
          (.reg false [⟨(some 52), .mov (.t 11), none⟩,
            ⟨(some 53), .call 19 [(false, (.t 52))], none⟩,
            ⟨(some 51), .mov (.t 53), none⟩,
            ⟨(some 54), .ext (.t 51) 0, none⟩,
            ⟨(some 55), .ext (.t 51) 1, none⟩,
            ⟨(some 13), .mov (.t 54), none⟩,
            ⟨(some 14), .mov (.t 55), none⟩] [1, 2, 4, 5, 6, 7, 8, 9, 10, 12, 13, 14])
          (.seq
           (.reg false [⟨(some 56), .mov (.t 2), none⟩,
             ⟨(some 57), .bin .eql true (.t 56) (.c (.int .i64 0)), none⟩,
             ⟨(some 58), .mov (.t 57), none⟩,
             ⟨(some 59), .mov (.t 1), (some (58, true))⟩,
             ⟨(some 60), .b2s (.t 59), (some (58, true))⟩,
             ⟨(some 61), .bin .eql false (.t 60) (.c (.str [5, 2, 0, 2])), (some (58, true))⟩,
             ⟨(some 62), .pick (.t 58) (.t 61) (.c (.bool false)), none⟩,
             ⟨(some 63), .mov (.t 62), none⟩,
             ⟨(some 64), .mov (.t 4), (some (63, true))⟩,
             ⟨(some 65), .bin .eql true (.t 64) (.c (.int .i64 0)), (some (63, true))⟩,
             ⟨(some 66), .pick (.t 63) (.t 65) (.c (.bool false)), none⟩,
             ⟨(some 67), .mov (.t 66), none⟩,
             ⟨(some 68), .mov (.t 6), (some (67, true))⟩,
             ⟨(some 69), .pick (.t 67) (.t 68) (.c (.bool false)), none⟩,
             ⟨(some 70), .mov (.t 69), none⟩,
             ⟨(some 71), .mov (.t 5), (some (70, true))⟩,
             ⟨(some 72), .len false (.t 71), (some (70, true))⟩,
             ⟨(some 73), .bin .eql true (.t 72) (.c (.int .i64 2)), (some (70, true))⟩,
             ⟨(some 74), .pick (.t 70) (.t 73) (.c (.bool false)), none⟩,
             ⟨(some 75), .mov (.t 74), none⟩,
             ⟨(some 76), .mov (.t 7), (some (75, true))⟩,
             ⟨(some 77), .bin .eql false (.t 76) (.c (.int .u64 7)), (some (75, true))⟩,
             ⟨(some 78), .pick (.t 75) (.t 77) (.c (.bool false)), none⟩,
             ⟨(some 79), .mov (.t 78), none⟩,
             ⟨(some 80), .mov (.t 8), (some (79, true))⟩,
             ⟨(some 81), .pick (.t 79) (.t 80) (.c (.bool false)), none⟩,
             ⟨(some 82), .mov (.t 81), none⟩,
             ⟨(some 83), .mov (.t 9), (some (82, true))⟩,
             ⟨(some 84), .bin .eql false (.t 83) (.c (.str [])), (some (82, true))⟩,
             ⟨(some 85), .pick (.t 82) (.t 84) (.c (.bool false)), none⟩,
             ⟨(some 86), .mov (.t 85), none⟩,
             ⟨(some 87), .mov (.t 10), (some (86, true))⟩,
             ⟨(some 88), .un .not (.t 87), (some (86, true))⟩,
             ⟨(some 89), .pick (.t 86) (.t 88) (.c (.bool false)), none⟩,
             ⟨(some 90), .mov (.t 89), none⟩,
             ⟨(some 91), .mov (.t 12), (some (90, true))⟩,
             ⟨(some 92), .pick (.t 90) (.t 91) (.c (.bool false)), none⟩,
             ⟨(some 93), .mov (.t 92), none⟩,
             ⟨(some 94), .mov (.t 13), (some (93, true))⟩,
             ⟨(some 95), .bin .eql false (.t 94) (.c (.str [98])), (some (93, true))⟩,
             ⟨(some 96), .pick (.t 93) (.t 95) (.c (.bool false)), none⟩,
             ⟨(some 97), .mov (.t 96), none⟩,
             ⟨(some 98), .mov (.t 14), (some (97, true))⟩,
             ⟨(some 99), .pick (.t 97) (.t 98) (.c (.bool false)), none⟩,
             ⟨(some 100), .mov (.t 99), none⟩,
             ⟨(some 101), .mkI 3 (.c (.int .i64 5)), (some (100, true))⟩,
             ⟨(some 102), .call 13 [(false, (.t 101))], (some (100, true))⟩,
             ⟨(some 103), .bin .eql true (.t 102) (.c (.int .i64 22)), (some (100, true))⟩,
             ⟨(some 104), .pick (.t 100) (.t 103) (.c (.bool false)), none⟩,
             ⟨(some 105), .mov (.t 104), none⟩,
             ⟨(some 106), .mkI 4 (.c (.bool true)), (some (105, true))⟩,
             ⟨(some 107), .mkI 4 (.c (.bool true)), (some (105, true))⟩,
             ⟨(some 108), .call 23 [(false, (.t 106)), (false, (.t 107))], (some (105, true))⟩,
             ⟨(some 109), .pick (.t 105) (.t 108) (.c (.bool false)), none⟩,
             ⟨(some 110), .mov (.t 109), none⟩,
             ⟨(some 111), .mkI 3 (.c (.int .i64 5)), (some (110, true))⟩,
             ⟨(some 112), .mkI 3 (.c (.int .i64 5)), (some (110, true))⟩,
             ⟨(some 113), .call 23 [(false, (.t 111)), (false, (.t 112))], (some (110, true))⟩,
             ⟨(some 114), .un .not (.t 113), (some (110, true))⟩,
             ⟨(some 115), .pick (.t 110) (.t 114) (.c (.bool false)), none⟩,
             ⟨(some 116), .mov (.t 115), none⟩,
             ⟨(some 117), .mkI 22 (.c (.int .u64 3)), (some (116, true))⟩,
             ⟨(some 118), .call 25 [(false, (.t 117))], (some (116, true))⟩,
             ⟨(some 119), .bin .eql false (.t 118) (.c (.int .u64 3)), (some (116, true))⟩,
             ⟨(some 120), .pick (.t 116) (.t 119) (.c (.bool false)), none⟩,
             ⟨(some 121), .mov (.t 120), none⟩,
             ⟨(some 122), .pick (.t 121) (.c (.bool true)) (.c (.bool false)), none⟩,
             ⟨(some 123), .mov (.t 122), none⟩,
             ⟨(some 124), .pick (.t 123) (.c (.bool true)) (.c (.bool false)), none⟩,
             ⟨(some 125), .mov (.t 124), none⟩,
             ⟨(some 126), .pick (.t 125) (.c (.bool true)) (.c (.bool false)), none⟩,
             ⟨(some 0), .mov (.t 126), none⟩] [0])
           .ret)))))))))
def rs9 : List RS := [.tmp 0]
/-- padlock/padlocklaw10.EntryPuts -/
def rc3 : RC :=
  (.seq
   (.reg false [⟨(some 1), .box (.t 0), none⟩,
     ⟨(some 2), .mov (.c (.bool false)), none⟩] [1])
   (.seq
    (.seq
     (.reg false [⟨(some 7), .loadB 1 5 true, none⟩,
       ⟨(some 8), .call 8 [(false, (.t 7))], none⟩] [1, 8])
     (.cond 8
      (.seq
       (.reg false [⟨(some 9), .call 9 [], none⟩,
         ⟨(some 2), .mov (.t 9), none⟩] [2])
       .ret)
      (.reg false [] [1])))
    (.seq
     (.reg false [⟨(some 10), .loadB 1 5 true, none⟩,
       ⟨(some 11), .call 10 [(false, (.t 10))], none⟩,
       ⟨(some 3), .mov (.t 11), none⟩] [1, 3])
     (.seq
      (.reg false [⟨(some 13), .mov (.t 3), none⟩,
        ⟨(some 14), .call 11 [(false, (.t 13))], none⟩,
        ⟨(some 12), .mov (.t 14), none⟩,
        ⟨(some 15), .ext (.t 12) 0, none⟩,
        ⟨(some 16), .ext (.t 12) 1, none⟩,
        ⟨(some 4), .steal 15, none⟩,
        ⟨(some 5), .mov (.t 16), none⟩] [1, 3, 4, 5])
      (.seq
       (.reg false [⟨(some 17), .loadB 1 5 true, none⟩,
         ⟨(some 18), .call 12 [(false, (.t 17)), (false, (.c (.int .i64 0)))], none⟩,
         ⟨(some 6), .mov (.t 18), none⟩] [1, 3, 4, 5, 6])
       (.seq
        (.seq
         (.reg false [⟨(some 19), .mov (.t 3), none⟩,
           ⟨(some 20), .call 13 [(false, (.t 19))], none⟩,
           ⟨(some 21), .mov (.t 6), none⟩,
           ⟨(some 22), .bin .neq true (.t 20) (.t 21), none⟩,
           ⟨(some 23), .mov (.t 22), none⟩,
           ⟨(some 24), .mov (.t 5), (some (23, false))⟩,
           ⟨(some 25), .mov (.t 6), (some (23, false))⟩,
           ⟨(some 26), .bin .neq true (.t 24) (.t 25), (some (23, false))⟩,
           ⟨(some 27), .pick (.t 23) (.c (.bool true)) (.t 26), none⟩] [1, 4, 6, 27])
         (.cond 27
          (.seq
           (.reg false [⟨(some 2), .mov (.c (.bool false)), none⟩] [2])
           .ret)
          (.reg false [] [1, 4, 6])))
        (.seq
         (.reg true [⟨(some 28), .mov (.t 6), none⟩,
           ⟨(some 29), .bin .neq true (.t 28) (.c (.int .i64 0)), none⟩,
           ⟨(some 30), .mov (.t 29), none⟩,
           ⟨(some 31), .mov (.t 4), (some (30, true))⟩,
           ⟨(some 32), .len false (.t 31), (some (30, true))⟩,
           ⟨(some 33), .bin .eql true (.t 32) (.c (.int .i64 0)), (some (30, true))⟩,
           ⟨(some 34), .pick (.t 30) (.t 33) (.c (.bool false)), none⟩,
           ⟨(some 35), .mov (.t 34), none⟩,
           ⟨(some 36), .mov (.t 6), (some (35, false))⟩,
           ⟨(some 37), .bin .eql true (.t 36) (.c (.int .i64 0)), (some (35, false))⟩,
           ⟨(some 38), .mov (.t 37), (some (35, false))⟩,
           ⟨(some 39), .mov (.t 4), (some (38, true))⟩,
           ⟨(some 40), .b2s (.t 39), (some (38, true))⟩,
           ⟨(some 41), .loadB 1 5 true, (some (38, true))⟩,
           ⟨(some 42), .call 14 [(false, (.t 41))], (some (38, true))⟩,
           ⟨(some 43), .bin .eql false (.t 40) (.t 42), (some (38, true))⟩,
           ⟨(some 44), .pick (.t 38) (.t 43) (.c (.bool false)), (some (35, false))⟩,
           ⟨(some 45), .pick (.t 35) (.c (.bool true)) (.t 44), none⟩,
           ⟨(some 46), .mov (.t 45), none⟩,
           ⟨(some 47), .call 9 [], (some (46, true))⟩,
           ⟨(some 48), .pick (.t 46) (.t 47) (.c (.bool false)), none⟩,
           ⟨(some 2), .mov (.t 48), none⟩] [2])
         .ret)))))))
def rs3 : List RS := [.tmp 2]
/-- padlock/padlocklaw10.EntryTakes -/
def rc4 : RC :=
  (.seq
   (.reg false [⟨(some 2), .mov (.c (.bool false)), none⟩] [0])
   (.seq
    (.seq
     (.reg false [⟨(some 7), .mov (.t 0), none⟩,
       ⟨(some 8), .len true (.t 7), none⟩,
       ⟨(some 9), .bin .gtr true (.t 8) (.c (.int .i64 400)), none⟩] [0, 9])
     (.cond 9
      (.seq
       (.reg false [⟨(some 10), .call 9 [], none⟩,
         ⟨(some 2), .mov (.t 10), none⟩] [2])
       .ret)
      (.reg false [] [0])))
    (.seq
     (.reg false [⟨(some 12), .mov (.t 0), none⟩,
       ⟨(some 13), .call 15 [(false, (.t 12))], none⟩,
       ⟨(some 11), .mov (.t 13), none⟩,
       ⟨(some 14), .ext (.t 11) 0, none⟩,
       ⟨(some 15), .ext (.t 11) 1, none⟩,
       ⟨(some 3), .mov (.t 14), none⟩,
       ⟨(some 4), .mov (.t 15), none⟩] [0, 3, 4])
     (.seq
      (.reg false [⟨(some 17), .mov (.t 0), none⟩,
        ⟨(some 18), .call 16 [(false, (.t 17))], none⟩,
        ⟨(some 16), .mov (.t 18), none⟩,
        ⟨(some 19), .ext (.t 16) 0, none⟩,
        ⟨(some 20), .ext (.t 16) 1, none⟩,
        ⟨(some 5), .alloc [(.int .u8 0), (.int .u64 0), (.str []), (.sl [] 0), (.sl [] 0)], none⟩,
        ⟨none, .stB 5 5 (.t 19), none⟩,
        ⟨(some 6), .mov (.t 20), none⟩] [3, 4, 5, 6])
      (.seq
       (.reg true [⟨(some 21), .mov (.t 4), none⟩,
         ⟨(some 22), .mov (.t 6), none⟩,
         ⟨(some 23), .bin .eql true (.t 21) (.t 22), none⟩,
         ⟨(some 24), .mov (.t 23), none⟩,
         ⟨(some 25), .mov (.t 3), (some (24, true))⟩,
         ⟨(some 26), .call 18 [(false, (.t 25)), (false, (.c (.int .i64 0)))], (some (24, true))⟩,
         ⟨(some 27), .loadB 5 5 true, (some (24, true))⟩,
         ⟨(some 28), .call 17 [(false, (.t 26)), (false, (.t 27))], (some (24, true))⟩,
         ⟨(some 29), .pick (.t 24) (.t 28) (.c (.bool false)), none⟩,
         ⟨(some 30), .mov (.t 29), none⟩,
         ⟨(some 31), .call 9 [], (some (30, true))⟩,
         ⟨(some 32), .pick (.t 30) (.t 31) (.c (.bool false)), none⟩,
         ⟨(some 2), .mov (.t 32), none⟩] [2])
       .ret)))))
def rs4 : List RS := [.tmp 2]
def exN : Nd := .mk 4 0 [] [.mk 0 0 [] [] [], .mk 1 1 [] [] []] []
theorem exN_chk : chk 0 exN = 0 := by simp [exN, chk, chkL]
theorem exN_enc : encN exN = [5, 2, 0, 2] := by simp [exN, encN, encL, bv]
theorem exN_own : own exN = .list [.nil, .bool true] := by simp [exN, own, owns, bv]
theorem exN_nz : nz exN = exN := by unfold nz; rw [exN_own]; simp [nodeOf, nodes, exN]
theorem exN_small : (own exN).small := ⟨by rw [exN_own]; simp [Vl.fine, fines], fun _ => by
  have : nodeOf (own exN) = nz exN := rfl
  rw [this, exN_nz, exN_enc]; decide⟩
theorem scal_small (v : Vl) (h : v = .bool true ∨ v = .int 5) : v.small := by
  rcases h with rfl | rfl
  · exact ⟨by simp [Vl.fine], fun _ => by simp [nodeOf, encN, bv]⟩
  · exact ⟨by simp [Vl.fine], fun h => by simp [nodeOf, nd9, chk] at h⟩
set_option maxHeartbeats 2000000 in
theorem pf9   : PFx Try.prog 9 [] (.bool true) := by
  refine PFx_of_W (rc := rc9) (rs := rs9) Try.func9 rfl T25_ok hm (by kernel_rfl) (by kernel_rfl) (by simp [Try.ntmps9]) ?_
  have k1 : T11 11 [.ifc 57 (.sl [.nilI, .ifc 4 (.bool true)] 2)] = some (.tup [.sl (bytesAV [5, 2, 0, 2]) 4, .int .i64 0]) := by
    have e := T11_eq (own exN) exN_small
    rw [putB_own, chk_own, if_pos exN_chk, exN_enc, exN_chk, exN_own] at e
    exact e
  have k2 : T15 15 [.str [5, 2, 0, 2]] = some (.tup [.ifc 57 (.sl [.nilI, .ifc 4 (.bool true)] 2), .int .i64 0]) := by
    have e := T15_eq [5, 2, 0, 2] (by decide)
    obtain ⟨h1, h2⟩ := tk_enc exN_chk
    rw [exN_enc] at h1 h2
    unfold tkV at e
    rw [if_pos h1, h1, h2, exN_nz, exN_own] at e
    exact e
  have k3 : T20 20 [.ifc 22 (.int .u64 7)] = some (.tup [.int .u64 7, .bool true]) := T20_eq (.num 7#64)
  have k4 : T19 19 [.ifc 22 (.int .u64 7)] = some (.tup [.str [], .bool false]) := T19_eq (.num 7#64)
  have k5 : T21 21 [.ifc 61 (.sl [.str [97], .ifc 9 (.str [98])] 1), .str [97]] = some (.tup [.ifc 9 (.str [98]), .bool true]) := T21_eq (.pairs [([97], .str [98])]) [97] (by simp [Vl.fine, fineP, fineQ])
  have k6 : T19 19 [.ifc 9 (.str [98])] = some (.tup [.str [98], .bool true]) := T19_eq (.str [98])
  have k7 : T13 13 [.ifc 3 (.int .i64 5)] = some (.int .i64 22) := T13_eq (.int 5) (by simp [Vl.fine])
  have k8 : T23 23 [.ifc 4 (.bool true), .ifc 4 (.bool true)] = some (.bool true) := T23_eq (.bool true) (.bool true) ⟨scal_small _ (.inl rfl), scal_small _ (.inl rfl)⟩
  have k9 : T23 23 [.ifc 3 (.int .i64 5), .ifc 3 (.int .i64 5)] = some (.bool false) := by
    have e := T23_eq (.int 5) (.int 5) ⟨scal_small _ (.inr rfl), scal_small _ (.inr rfl)⟩
    have s : sameV (.int 5) (.int 5) = false := by simp [sameV, nodeOf, nd9, chk]
    rw [s] at e
    exact e
  have k10 : T25 25 [.ifc 22 (.int .u64 3)] = some (.int .u64 3) := T25_eq 3#64
  simp [rc9, rs9, k1, k2, k3, k4, k5, k6, k7, k8, k9, k10]
noncomputable def T9 : Tab := tabAdd T25 9 (fun _ : Unit => True) (fun _ => []) (fun _ => .bool true)
@[simp] theorem T9_eq   : T9 9 [] = some (.bool true) := tabAdd_eq (a := ()) (by simp +contextual [Int.natCast_inj]) trivial rfl
@[simp] theorem T9_ne {g : Nat} {xs : List AV} (h : g ≠ 9) : T9 g xs = T25 g xs := tabAdd_ne h
theorem T9_ok : Sound Try.prog T9 := tabAdd_sound T25_ok fun _ _ => pf9  
theorem nd_inj1 {α : Type} {f : Nd → α} : ∀ a b : Nd, [AV.agg a.av] = [AV.agg b.av] → f a = f b := by
  intro a b h
  simp only [List.cons.injEq, AV.agg.injEq, and_true] at h
  rw [av_inj _ _ h]
theorem much {x : Nd} (h : tooMuch x = false) : (own x).small ∧ x.fine := own_small x (by
  unfold tooMuch at h
  simp at h; exact h)
theorem pf3 (x : Nd)  : PFx Try.prog 3 [.agg x.av] (.bool true) := by
  refine PFx_of_W (rc := rc3) (rs := rs3) Try.func3 rfl T9_ok hm (by kernel_rfl) (by kernel_rfl) (by simp [Try.ntmps3]) ?_
  cases ht : tooMuch x
  · obtain ⟨hs, hf⟩ := much ht
    have e0 := T8_eq x
    have e1 := T10_eq x hf
    have e2 := T11_eq (own x) hs
    have e3 := T13_eq (own x) hs.1
    have e4 := T12_eq x 0 (by decide)
    rw [putB_own, chk_own] at e2
    rw [chk_own] at e3
    rw [ht] at e0
    simp only [Int.natCast_zero] at e4
    by_cases hc : chk 0 x = 0
    · have hl : (encN x).length ≤ 100000 := by
        have := hs.2 (by rw [chk_own]; exact hc)
        have hx : nodeOf (own x) = nz x := rfl
        rwa [hx, enc_nz x 0 hc] at this
      have e5 := T14_eq x ⟨⟨0, hc⟩, hl⟩
      rw [if_pos hc, hc] at e2
      rw [hc] at e3 e4
      obtain ⟨k, n, s, kids, names⟩ := x
      simp only [Nd.av] at e0 e1 e4 e5 ⊢
      rcases vav_form ids (own (.mk k n s kids names)) with ⟨u, w, hv⟩ | hv <;> rw [hv] at e1 e2 e3 <;>
      simp [rc3, rs3, e0, e1, e2, e3, e4, e5]
    · have hc' : ¬ (chk 0 x : Int) = 0 := by omega
      rw [if_neg hc] at e2
      obtain ⟨k, n, s, kids, names⟩ := x
      simp only [Nd.av] at e0 e1 e4 ⊢
      rcases vav_form ids (own (.mk k n s kids names)) with ⟨u, w, hv⟩ | hv <;> rw [hv] at e1 e2 e3 <;>
      simp [rc3, rs3, e0, e1, e2, e3, e4, hc, hc']
  · have e0 := T8_eq x
    rw [ht] at e0
    obtain ⟨k, n, s, kids, names⟩ := x
    simp only [Nd.av] at e0 ⊢
    simp [rc3, rs3, e0]
noncomputable def T3 : Tab := tabAdd T9 3 (fun _ : Nd => True) (fun z => [.agg z.av]) (fun _ => .bool true)
@[simp] theorem T3_eq (x : Nd)  : T3 3 [.agg x.av] = some (.bool true) := tabAdd_eq (a := x) (nd_inj1 (f := fun _ => AV.bool true)) trivial rfl
@[simp] theorem T3_ne {g : Nat} {xs : List AV} (h : g ≠ 3) : T3 g xs = T9 g xs := tabAdd_ne h
theorem T3_ok : Sound Try.prog T3 := tabAdd_sound T9_ok fun z _ => pf3 z 
theorem pf4 (s : Tx)  : PFx Try.prog 4 [.str s] (.bool true) := by
  refine PFx_of_W (rc := rc4) (rs := rs4) Try.func4 rfl T3_ok hm (by kernel_rfl) (by kernel_rfl) (by simp [Try.ntmps4]) ?_
  by_cases h : (400 : Int) < s.length
  · simp [rc4, rs4, h]
  · have e1 := T15_eq s (by omega)
    have e2 := T16_eq s (by omega)
    have hs := tk_small (s := s) (by omega)
    have e3 := T18_eq (tkV s) 0 ⟨by decide, hs.1⟩
    simp only [Int.natCast_zero] at e3
    have hb : same (back 0 (tkV s)) (tkN s) = true := by
      unfold tkV
      by_cases he : tkE s = 0
      · obtain ⟨h1, h2, h3⟩ := tk_dec he
        rw [if_pos he, back_fits _ 0 (by decide) (by rw [nz_nz _ h2]; exact h1), nz_nz _ h2]
        exact same_refl _
      · rw [if_neg he]
        unfold tkN
        rw [if_neg he]
        simp [back, nd0, same]
    have hf : (back 0 (tkV s)).fine := by
      unfold tkV
      by_cases he : tkE s = 0
      · obtain ⟨h1, h2, h3⟩ := tk_dec he
        rw [if_pos he, back_fits _ 0 (by decide) (by rw [nz_nz _ h2]; exact h1), nz_nz _ h2]
        exact chk_ndfine _ 0 h1 h2
      · rw [if_neg he]; simp [back, Nd.fine, ndFine]
    have e4 := T17_eq (back 0 (tkV s)) (tkN s) hf
    rw [hb] at e4
    obtain ⟨y, hy⟩ : ∃ y, y = back 0 (tkV s) := ⟨_, rfl⟩
    obtain ⟨z, hz⟩ : ∃ z, z = tkN s := ⟨_, rfl⟩
    rw [← hy] at e3 e4
    rw [← hz] at e2 e4
    obtain ⟨k, n, w, kids, names⟩ := y
    obtain ⟨k', n', w', kids', names'⟩ := z
    simp only [Nd.av] at e2 e3 e4
    rcases vav_form ids (tkV s) with ⟨u, x, hv⟩ | hv <;> rw [hv] at e1 e3 <;>
    simp [rc4, rs4, h, e1, e2, e3, e4]
noncomputable def T4 : Tab := tabAdd T3 4 (fun _ : Tx => True) (fun z => [.str z]) (fun _ => .bool true)
@[simp] theorem T4_eq (s : Tx)  : T4 4 [.str s] = some (.bool true) := tabAdd_eq (a := s) (by simp +contextual [Int.natCast_inj]) trivial rfl
@[simp] theorem T4_ne {g : Nat} {xs : List AV} (h : g ≠ 4) : T4 g xs = T3 g xs := tabAdd_ne h
theorem T4_ok : Sound Try.prog T4 := tabAdd_sound T3_ok fun z _ => pf4 z 
theorem kid_at (x : Nd) (j : Nat) (h : j < x.kids.length) (hf : x.fine) : x.kids[j].fine := by
  obtain ⟨k, n, s, kids, names⟩ := x
  rw [Nd.fine] at hf
  exact ndFine_get kids hf.2.2 j h
end Go.Proofs.Ytbikpgaiocjnoaa

