/- Two lists of parts have one path just if they are the same; paths have no slash more. -/
import Derived.Test.YtbinejcnoogoiaaDoorT13
set_option linter.unusedVariables false
set_option linter.unusedSimpArgs false
namespace Go.Proofs.YtbinejcnoogoiaaDoor
open Go.Proofs.YtbinejcnoogoiaaDoor.Pad Go.Proofs.YtbinejcnoogoiaaDoor.Pad.Route Go.Proofs.YtbinejcnoogoiaaDoor.Pad.Runes Go.Proofs.YtbinejcnoogoiaaDoor.Pad.Utf
/-- padlock/padlocklaw04.RouteApart -/
def rc6 : RC :=
  (.seq
   (.reg false [⟨(some 4), .mov (.c (.bool false)), none⟩] [0, 1])
   (.seq
    (.seq
     (.reg false [⟨(some 9), .mov (.t 0), none⟩,
       ⟨(some 10), .call 18 [(false, (.t 9))], none⟩,
       ⟨(some 11), .bin .gtr true (.t 10) (.c (.int .i64 0)), none⟩,
       ⟨(some 12), .mov (.t 11), none⟩,
       ⟨(some 13), .mov (.t 1), (some (12, false))⟩,
       ⟨(some 14), .call 18 [(false, (.t 13))], (some (12, false))⟩,
       ⟨(some 15), .bin .gtr true (.t 14) (.c (.int .i64 0)), (some (12, false))⟩,
       ⟨(some 16), .pick (.t 12) (.c (.bool true)) (.t 15), none⟩] [0, 1, 16])
     (.cond 16
      (.seq
       (.reg false [⟨(some 17), .call 7 [], none⟩,
         ⟨(some 4), .mov (.t 17), none⟩] [4])
       .ret)
      (.reg false [] [0, 1])))
    (.seq
     (.reg false [⟨(some 19), .mov (.t 0), none⟩,
       ⟨(some 20), .call 20 [(false, (.t 19))], none⟩,
       ⟨(some 18), .mov (.t 20), none⟩,
       ⟨(some 21), .ext (.t 18) 0, none⟩,
       ⟨(some 22), .ext (.t 18) 1, none⟩,
       ⟨(some 5), .mov (.t 21), none⟩,
       ⟨(some 6), .mov (.t 22), none⟩] [0, 1, 5, 6])
     (.seq
      (.reg false [⟨(some 24), .mov (.t 1), none⟩,
        ⟨(some 25), .call 20 [(false, (.t 24))], none⟩,
        ⟨(some 23), .mov (.t 25), none⟩,
        ⟨(some 26), .ext (.t 23) 0, none⟩,
        ⟨(some 27), .ext (.t 23) 1, none⟩,
        ⟨(some 7), .mov (.t 26), none⟩,
        ⟨(some 8), .mov (.t 27), none⟩] [0, 1, 5, 6, 7, 8])
      (.seq
       (.seq
        (.reg false [⟨(some 28), .mov (.t 6), none⟩,
          ⟨(some 29), .bin .neq true (.t 28) (.c (.int .i64 0)), none⟩,
          ⟨(some 30), .mov (.t 29), none⟩,
          ⟨(some 31), .mov (.t 8), (some (30, false))⟩,
          ⟨(some 32), .bin .neq true (.t 31) (.c (.int .i64 0)), (some (30, false))⟩,
          ⟨(some 33), .pick (.t 30) (.c (.bool true)) (.t 32), none⟩] [0, 1, 5, 6, 7, 8, 33])
        (.cond 33
         (.seq
          (.reg false [⟨(some 34), .mov (.t 6), none⟩,
            ⟨(some 35), .bin .eql true (.t 34) (.c (.int .i64 0)), none⟩,
            ⟨(some 36), .mov (.t 35), none⟩,
            ⟨(some 37), .mov (.t 5), (some (36, false))⟩,
            ⟨(some 38), .bin .eql false (.t 37) (.c (.str [])), (some (36, false))⟩,
            ⟨(some 39), .pick (.t 36) (.c (.bool true)) (.t 38), none⟩,
            ⟨(some 40), .mov (.t 39), none⟩,
            ⟨(some 41), .mov (.t 8), (some (40, true))⟩,
            ⟨(some 42), .bin .eql true (.t 41) (.c (.int .i64 0)), (some (40, true))⟩,
            ⟨(some 43), .mov (.t 42), (some (40, true))⟩,
            ⟨(some 44), .mov (.t 7), (some (43, false))⟩,
            ⟨(some 45), .bin .eql false (.t 44) (.c (.str [])), (some (43, false))⟩,
            ⟨(some 46), .pick (.t 43) (.c (.bool true)) (.t 45), (some (40, true))⟩,
            ⟨(some 47), .pick (.t 40) (.t 46) (.c (.bool false)), none⟩,
            ⟨(some 48), .mov (.t 47), none⟩,
            ⟨(some 49), .call 7 [], (some (48, true))⟩,
            ⟨(some 50), .pick (.t 48) (.t 49) (.c (.bool false)), none⟩,
            ⟨(some 4), .mov (.t 50), none⟩] [4])
          .ret)
         (.reg false [] [0, 1, 5, 7])))
       (.seq
        (.seq
         (.reg false [⟨(some 51), .mov (.t 5), none⟩,
           ⟨(some 52), .mov (.t 7), none⟩,
           ⟨(some 53), .bin .eql false (.t 51) (.t 52), none⟩,
           ⟨(some 54), .mov (.t 0), none⟩,
           ⟨(some 55), .mov (.t 1), none⟩,
           ⟨(some 56), .call 21 [(false, (.t 54)), (false, (.t 55))], none⟩,
           ⟨(some 57), .beq true none (.t 53) (.t 56), none⟩] [5, 7, 57])
         (.cond 57
          (.seq
           (.reg false [⟨(some 4), .mov (.c (.bool false)), none⟩] [4])
           .ret)
          (.reg false [] [5, 7])))
        (.seq
         (.reg false [⟨(some 58), .mov (.t 5), none⟩,
           ⟨(some 59), .bin .add false (.t 58) (.c (.str [47])), none⟩,
           ⟨(some 60), .call 12 [(false, (.t 59))], none⟩,
           ⟨(some 61), .bin .neq true (.t 60) (.c (.int .i64 0)), none⟩,
           ⟨(some 62), .mov (.t 61), none⟩,
           ⟨(some 63), .mov (.t 7), (some (62, true))⟩,
           ⟨(some 64), .bin .add false (.c (.str [47])) (.t 63), (some (62, true))⟩,
           ⟨(some 65), .call 12 [(false, (.t 64))], (some (62, true))⟩,
           ⟨(some 66), .bin .neq true (.t 65) (.c (.int .i64 0)), (some (62, true))⟩,
           ⟨(some 67), .pick (.t 62) (.t 66) (.c (.bool false)), none⟩,
           ⟨(some 68), .mov (.t 67), none⟩,
           ⟨(some 69), .call 7 [], (some (68, true))⟩,
           ⟨(some 70), .pick (.t 68) (.t 69) (.c (.bool false)), none⟩,
           ⟨(some 4), .mov (.t 70), none⟩] [4])
         .ret)))))))
def rs6 : List RS := [.tmp 4]
theorem join_len : ∀ ps : List (List UInt8), (∀ s ∈ ps, s.length ≤ 200) → (joinL ps).length ≤ 201 * ps.length
  | [], _ => by simp [joinL]
  | [p], h => by have := h p (by simp); simp [joinL]; omega
  | p :: q :: ps, h => by
    have h1 := h p (by simp)
    have h2 := join_len (q :: ps) fun s hs => h s (List.mem_cons_of_mem _ hs)
    rw [join_cons (by simp)]
    simp only [List.length_append, List.length_cons] at h2 ⊢
    omega
theorem few_join {ps : List (List UInt8)} (h : few ps) : ps.length ≤ 1000 ∧ (joinL ps).length ≤ 10000 := by
  have := join_len ps h.2
  have := h.1
  omega
theorem joinS_no {ps : List (List UInt8)} (h : ¬ joinE ps = 0) : joinS ps = [] := by unfold joinS; rw [if_neg h]
theorem joinL_inj {a b : List (List UInt8)} (ha : joinE a = 0) (hb : joinE b = 0) : (joinL a = joinL b) = (a = b) := by
  apply propext
  constructor
  · intro h
    rw [← (join_0 ha).2.2.2.1, ← (join_0 hb).2.2.2.1, h]
  · intro h; rw [h]
set_option maxHeartbeats 4000000 in
theorem apart_pf (a b : List (List UInt8)) (hla : a.length ≤ 9223372036854775807) (hlb : b.length ≤ 9223372036854775807) : PFx Tryd.prog 6 [.sl (a.map .str) a.length, .sl (b.map .str) b.length] (.bool true) := by
  refine PFx_of_W (rc := rc6) (rs := rs6) Tryd.func6 rfl T7_ok hm (by kernel_rfl) (by kernel_rfl) (by simp [Tryd.ntmps6]) ?_
  by_cases hfa : few a
  · by_cases hfb : few b
    · have h1 := few_join hfa
      have h2 := few_join hfb
      have qa := T20_eq a ⟨by omega, by omega⟩
      have qb := T20_eq b ⟨by omega, by omega⟩
      by_cases ha : joinE a = 0
      · by_cases hb : joinE b = 0
        · have sa := (join_0 ha).2.2.2.2
          have sb := (join_0 hb).2.2.2.2
          have ca := check_end (joinL a)
          have cb := check_head (joinL b)
          have ta := T12_eq (joinL a ++ [47]) (by simp; omega)
          have tb := T12_eq (47 :: joinL b) (by simp; omega)
          have tc := T21_eq a b ⟨by omega, by omega⟩
          simp [rc6, rs6, hla, hlb, hfa, hfb, qa, qb, ha, hb, sa, sb, ta, tb, tc, joinL_inj ha hb, ca, cb]
          omega
        · have sb := joinS_no hb
          simp [rc6, rs6, hla, hlb, hfa, hfb, qa, qb, ha, hb, sb]
      · have sa := joinS_no ha
        by_cases hb : joinE b = 0
        · simp [rc6, rs6, hla, hlb, hfa, hfb, qa, qb, ha, hb, sa]
        · have sb := joinS_no hb
          simp [rc6, rs6, hla, hlb, hfa, hfb, qa, qb, ha, hb, sa, sb]
    · simp [rc6, rs6, hla, hlb, hfa, hfb]
  · simp [rc6, rs6, hla, hlb, hfa]
end Go.Proofs.YtbinejcnoogoiaaDoor

