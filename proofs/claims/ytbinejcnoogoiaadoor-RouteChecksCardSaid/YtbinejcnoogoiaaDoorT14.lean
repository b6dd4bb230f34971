/- What is told of runes, parts and paths is what the document says. -/
import Derived.Test.YtbinejcnoogoiaaDoorT13
set_option linter.unusedVariables false
set_option linter.unusedSimpArgs false
namespace Go.Proofs.YtbinejcnoogoiaaDoor
open Go.Proofs.YtbinejcnoogoiaaDoor.Pad Go.Proofs.YtbinejcnoogoiaaDoor.Pad.Route Go.Proofs.YtbinejcnoogoiaaDoor.Pad.Runes Go.Proofs.YtbinejcnoogoiaaDoor.Pad.Utf
/-- padlock/padlocklaw04.RouteChecks -/
def rc3 : RC :=
  (.seq
   (.reg false [⟨(some 4), .mov (.c (.bool false)), none⟩] [0, 1])
   (.seq
    (.seq
     (.reg false [⟨(some 5), .mov (.t 1), none⟩,
       ⟨(some 6), .len true (.t 5), none⟩,
       ⟨(some 7), .bin .gtr true (.t 6) (.c (.int .i64 200)), none⟩] [0, 1, 7])
     (.cond 7
      (.seq
       (.reg false [⟨(some 8), .call 7 [], none⟩,
         ⟨(some 4), .mov (.t 8), none⟩] [4])
       .ret)
      (.reg false [] [0, 1])))
    (.seq
     (.reg false [⟨(some 9), .mov (.t 0), none⟩,
       ⟨(some 10), .call 8 [(false, (.t 9))], none⟩,
       ⟨(some 11), .mov (.t 0), none⟩,
       ⟨(some 12), .conv true .i64 (.t 11), none⟩,
       ⟨(some 13), .call 9 [(false, (.t 12))], none⟩,
       ⟨(some 14), .beq false none (.t 10) (.t 13), none⟩,
       ⟨(some 15), .mov (.t 14), none⟩,
       ⟨(some 16), .mov (.t 1), (some (15, true))⟩,
       ⟨(some 17), .call 10 [(false, (.t 16))], (some (15, true))⟩,
       ⟨(some 18), .mov (.t 1), (some (15, true))⟩,
       ⟨(some 19), .call 11 [(false, (.t 18))], (some (15, true))⟩,
       ⟨(some 20), .bin .eql true (.t 17) (.t 19), (some (15, true))⟩,
       ⟨(some 21), .pick (.t 15) (.t 20) (.c (.bool false)), none⟩,
       ⟨(some 22), .mov (.t 21), none⟩,
       ⟨(some 23), .mov (.t 1), (some (22, true))⟩,
       ⟨(some 24), .call 12 [(false, (.t 23))], (some (22, true))⟩,
       ⟨(some 25), .mov (.t 1), (some (22, true))⟩,
       ⟨(some 26), .call 13 [(false, (.t 25))], (some (22, true))⟩,
       ⟨(some 27), .bin .eql true (.t 24) (.t 26), (some (22, true))⟩,
       ⟨(some 28), .pick (.t 22) (.t 27) (.c (.bool false)), none⟩,
       ⟨(some 29), .mov (.t 28), none⟩,
       ⟨(some 30), .call 7 [], (some (29, true))⟩,
       ⟨(some 31), .pick (.t 29) (.t 30) (.c (.bool false)), none⟩,
       ⟨(some 4), .mov (.t 31), none⟩] [4])
     .ret)))
def rs3 : List RS := [.tmp 4]
/-- padlock/padlocklaw04.RouteRunes -/
def rc4 : RC :=
  (.seq
   (.reg false [⟨(some 2), .mov (.c (.bool false)), none⟩] [0])
   (.seq
    (.seq
     (.reg false [⟨(some 7), .mov (.t 0), none⟩,
       ⟨(some 8), .len true (.t 7), none⟩,
       ⟨(some 9), .bin .gtr true (.t 8) (.c (.int .i64 200)), none⟩] [0, 9])
     (.cond 9
      (.seq
       (.reg false [⟨(some 10), .call 7 [], none⟩,
         ⟨(some 2), .mov (.t 10), none⟩] [2])
       .ret)
      (.reg false [] [0])))
    (.seq
     (.reg false [⟨(some 12), .mov (.t 0), none⟩,
       ⟨(some 13), .call 14 [(false, (.t 12))], none⟩,
       ⟨(some 11), .mov (.t 13), none⟩,
       ⟨(some 14), .ext (.t 11) 0, none⟩,
       ⟨(some 15), .ext (.t 11) 1, none⟩,
       ⟨(some 3), .mov (.t 14), none⟩,
       ⟨(some 4), .mov (.t 15), none⟩] [0, 3, 4])
     (.seq
      (.reg false [⟨(some 17), .mov (.t 0), none⟩,
        ⟨(some 18), .call 15 [(false, (.t 17))], none⟩,
        ⟨(some 16), .mov (.t 18), none⟩,
        ⟨(some 19), .ext (.t 16) 0, none⟩,
        ⟨(some 20), .ext (.t 16) 1, none⟩,
        ⟨(some 5), .mov (.t 19), none⟩,
        ⟨(some 6), .mov (.t 20), none⟩] [0, 3, 4, 5, 6])
      (.seq
       (.reg false [⟨(some 21), .mov (.t 3), none⟩,
         ⟨(some 22), .mov (.t 5), none⟩,
         ⟨(some 23), .bin .eql true (.t 21) (.t 22), none⟩,
         ⟨(some 24), .mov (.t 23), none⟩,
         ⟨(some 25), .mov (.t 4), (some (24, true))⟩,
         ⟨(some 26), .mov (.t 6), (some (24, true))⟩,
         ⟨(some 27), .bin .eql true (.t 25) (.t 26), (some (24, true))⟩,
         ⟨(some 28), .pick (.t 24) (.t 27) (.c (.bool false)), none⟩,
         ⟨(some 29), .mov (.t 28), none⟩,
         ⟨(some 30), .mov (.t 0), (some (29, true))⟩,
         ⟨(some 31), .call 16 [(false, (.t 30))], (some (29, true))⟩,
         ⟨(some 32), .mov (.t 0), (some (29, true))⟩,
         ⟨(some 33), .call 17 [(false, (.t 32))], (some (29, true))⟩,
         ⟨(some 34), .bin .eql false (.t 31) (.t 33), (some (29, true))⟩,
         ⟨(some 35), .pick (.t 29) (.t 34) (.c (.bool false)), none⟩,
         ⟨(some 36), .mov (.t 35), none⟩,
         ⟨(some 37), .call 7 [], (some (36, true))⟩,
         ⟨(some 38), .pick (.t 36) (.t 37) (.c (.bool false)), none⟩,
         ⟨(some 2), .mov (.t 38), none⟩] [2])
       .ret)))))
def rs4 : List RS := [.tmp 2]
set_option maxHeartbeats 4000000 in
theorem checks_pf (c : Int) (l : List UInt8) (hc : inK .i32 c) : PFx Tryd.prog 3 [.int .i32 c, .str l] (.bool true) := by
  refine PFx_of_W (rc := rc3) (rs := rs3) Tryd.func3 rfl T7_ok hm (by kernel_rfl) (by kernel_rfl) (by simp [Tryd.ntmps3]) ?_
  simp only [inK] at hc
  by_cases hl : 200 < (l.length : Int)
  · simp [rc3, rs3, hl]
  · have hl' : l.length ≤ 1000000 := by omega
    simp [rc3, rs3, hl, hl']
    omega
set_option maxHeartbeats 4000000 in
theorem runes_pf (l : List UInt8) : PFx Tryd.prog 4 [.str l] (.bool true) := by
  refine PFx_of_W (rc := rc4) (rs := rs4) Tryd.func4 rfl T7_ok hm (by kernel_rfl) (by kernel_rfl) (by simp [Tryd.ntmps4]) ?_
  by_cases hl : 200 < (l.length : Int)
  · simp [rc4, rs4, hl]
  · have hl' : l.length ≤ 1000000 := by omega
    simp [rc4, rs4, hl, hl']
end Go.Proofs.YtbinejcnoogoiaaDoor

