/- Paths and their parts lead back to each other; what is left of a text is left again. -/
import Derived.Test.YtbinejcnoogoiaaDoorT15
set_option linter.unusedVariables false
set_option linter.unusedSimpArgs false
namespace Go.Proofs.YtbinejcnoogoiaaDoor
open Go.Proofs.YtbinejcnoogoiaaDoor.Pad Go.Proofs.YtbinejcnoogoiaaDoor.Pad.Route Go.Proofs.YtbinejcnoogoiaaDoor.Pad.Runes Go.Proofs.YtbinejcnoogoiaaDoor.Pad.Utf
/-- padlock/padlocklaw04.RouteBack -/
def rc5 : RC :=
  (.seq
   (.reg false [⟨(some 4), .mov (.c (.bool false)), none⟩] [0, 1])
   (.seq
    (.seq
     (.reg false [⟨(some 17), .mov (.t 0), none⟩,
       ⟨(some 18), .len true (.t 17), none⟩,
       ⟨(some 19), .bin .gtr true (.t 18) (.c (.int .i64 200)), none⟩,
       ⟨(some 20), .mov (.t 19), none⟩,
       ⟨(some 21), .mov (.t 1), (some (20, false))⟩,
       ⟨(some 22), .call 18 [(false, (.t 21))], (some (20, false))⟩,
       ⟨(some 23), .bin .gtr true (.t 22) (.c (.int .i64 0)), (some (20, false))⟩,
       ⟨(some 24), .pick (.t 20) (.c (.bool true)) (.t 23), none⟩] [0, 1, 24])
     (.cond 24
      (.seq
       (.reg false [⟨(some 25), .call 7 [], none⟩,
         ⟨(some 4), .mov (.t 25), none⟩] [4])
       .ret)
      (.reg false [] [0, 1])))
    (.seq
     (.seq
      (.reg false [⟨(some 27), .mov (.t 0), none⟩,
        ⟨(some 28), .call 19 [(false, (.t 27))], none⟩,
        ⟨(some 26), .mov (.t 28), none⟩,
        ⟨(some 29), .ext (.t 26) 0, none⟩,
        ⟨(some 30), .ext (.t 26) 1, none⟩,
        ⟨(some 5), .steal 29, none⟩,
        ⟨(some 6), .mov (.t 30), none⟩] [0, 1, 5, 6])
      (.seq
       (.reg false [⟨(some 31), .mov (.t 6), none⟩,
         ⟨(some 32), .bin .eql true (.t 31) (.c (.int .i64 0)), none⟩] [0, 1, 5, 32])
       (.cond 32
        (.seq
         (.seq
          (.reg false [⟨(some 7), .mov (.c (.int .i64 0)), none⟩] [0, 1, 5, 7])
          (.block 0
           (.loop
            (.seq
             (.seq
              (.reg false [⟨(some 33), .mov (.t 7), none⟩,
                ⟨(some 34), .mov (.t 5), none⟩,
                ⟨(some 35), .len false (.t 34), none⟩,
                ⟨(some 36), .bin .lss true (.t 33) (.t 35), none⟩] [0, 1, 5, 7, 36])
              (.cond 36
               (.reg false [] [0, 1, 5, 7])
               (.seq
                (.reg false [] [0, 1, 5])
                (.exit 0))))
             (.seq
              (.block 1
               (.seq
                (.reg false [⟨(some 39), .mov (.t 5), none⟩,
                  ⟨(some 40), .mov (.t 7), none⟩,
                  ⟨(some 41), .idxA 1 (.t 39) (.t 40), none⟩,
                  ⟨(some 42), .loadP (.t 41) 1 false, none⟩,
                  ⟨(some 43), .call 10 [(false, (.t 42))], none⟩,
                  ⟨(some 44), .bin .neq true (.t 43) (.c (.int .i64 0)), none⟩] [0, 1, 5, 7, 44])
                (.cond 44
                 (.seq
                  (.reg false [⟨(some 4), .mov (.c (.bool false)), none⟩] [4])
                  .ret)
                 (.reg false [] [0, 1, 5, 7]))))
              (.reg false [⟨(some 37), .mov (.t 7), none⟩,
                ⟨(some 38), .bin .add true (.t 37) (.c (.int .i64 1)), none⟩,
                ⟨(some 7), .mov (.t 38), none⟩] [0, 1, 5, 7]))))))
         (.seq
          (.reg false [⟨(some 46), .mov (.t 5), none⟩,
            ⟨(some 47), .call 20 [(false, (.t 46))], none⟩,
            ⟨(some 45), .mov (.t 47), none⟩,
            ⟨(some 48), .ext (.t 45) 0, none⟩,
            ⟨(some 49), .ext (.t 45) 1, none⟩,
            ⟨(some 8), .mov (.t 48), none⟩,
            ⟨(some 9), .mov (.t 49), none⟩] [0, 1, 5, 8, 9])
          (.seq
           (.reg false [⟨(some 50), .mov (.t 9), none⟩,
             ⟨(some 51), .bin .neq true (.t 50) (.c (.int .i64 0)), none⟩,
             ⟨(some 52), .mov (.t 51), none⟩,
             ⟨(some 53), .mov (.t 8), (some (52, false))⟩,
             ⟨(some 54), .mov (.t 0), (some (52, false))⟩,
             ⟨(some 55), .bin .neq false (.t 53) (.t 54), (some (52, false))⟩,
             ⟨(some 56), .pick (.t 52) (.c (.bool true)) (.t 55), none⟩,
             ⟨(some 57), .mov (.t 56), none⟩,
             ⟨(some 58), .mov (.t 0), (some (57, false))⟩,
             ⟨(some 59), .call 12 [(false, (.t 58))], (some (57, false))⟩,
             ⟨(some 60), .bin .neq true (.t 59) (.c (.int .i64 0)), (some (57, false))⟩,
             ⟨(some 61), .pick (.t 57) (.c (.bool true)) (.t 60), none⟩,
             ⟨(some 62), .mov (.t 61), none⟩,
             ⟨(some 63), .mov (.t 5), (some (62, false))⟩,
             ⟨(some 64), .len false (.t 63), (some (62, false))⟩,
             ⟨(some 65), .bin .eql true (.t 64) (.c (.int .i64 0)), (some (62, false))⟩,
             ⟨(some 66), .pick (.t 62) (.c (.bool true)) (.t 65), none⟩,
             ⟨(some 67), .mov (.t 66), none⟩,
             ⟨(some 68), .mov (.t 5), (some (67, false))⟩,
             ⟨(some 69), .len false (.t 68), (some (67, false))⟩,
             ⟨(some 70), .bin .gtr true (.t 69) (.c (.int .i64 6)), (some (67, false))⟩,
             ⟨(some 71), .pick (.t 67) (.c (.bool true)) (.t 70), none⟩] [0, 1, 71])
           (.cond 71
            (.seq
             (.reg false [⟨(some 4), .mov (.c (.bool false)), none⟩] [4])
             .ret)
            (.reg false [] [0, 1])))))
        (.reg false [] [0, 1]))))
     (.seq
      (.seq
       (.reg false [⟨(some 73), .mov (.t 1), none⟩,
         ⟨(some 74), .call 20 [(false, (.t 73))], none⟩,
         ⟨(some 72), .mov (.t 74), none⟩,
         ⟨(some 75), .ext (.t 72) 0, none⟩,
         ⟨(some 76), .ext (.t 72) 1, none⟩,
         ⟨(some 10), .mov (.t 75), none⟩,
         ⟨(some 11), .mov (.t 76), none⟩] [0, 1, 10, 11])
       (.seq
        (.reg false [⟨(some 77), .mov (.t 11), none⟩,
          ⟨(some 78), .bin .eql true (.t 77) (.c (.int .i64 0)), none⟩] [0, 1, 10, 78])
        (.cond 78
         (.seq
          (.reg false [⟨(some 80), .mov (.t 10), none⟩,
            ⟨(some 81), .call 19 [(false, (.t 80))], none⟩,
            ⟨(some 79), .mov (.t 81), none⟩,
            ⟨(some 82), .ext (.t 79) 0, none⟩,
            ⟨(some 83), .ext (.t 79) 1, none⟩,
            ⟨(some 12), .steal 82, none⟩,
            ⟨(some 13), .mov (.t 83), none⟩] [0, 1, 12, 13])
          (.seq
           (.reg false [⟨(some 84), .mov (.t 13), none⟩,
             ⟨(some 85), .bin .neq true (.t 84) (.c (.int .i64 0)), none⟩,
             ⟨(some 86), .mov (.t 85), none⟩,
             ⟨(some 87), .mov (.t 12), (some (86, false))⟩,
             ⟨(some 88), .mov (.t 1), (some (86, false))⟩,
             ⟨(some 89), .call 21 [(false, (.t 87)), (false, (.t 88))], (some (86, false))⟩,
             ⟨(some 90), .un .not (.t 89), (some (86, false))⟩,
             ⟨(some 91), .pick (.t 86) (.c (.bool true)) (.t 90), none⟩] [0, 91])
           (.cond 91
            (.seq
             (.reg false [⟨(some 4), .mov (.c (.bool false)), none⟩] [4])
             .ret)
            (.reg false [] [0]))))
         (.reg false [] [0]))))
      (.seq
       (.reg false [⟨(some 92), .mov (.t 0), none⟩,
         ⟨(some 93), .call 16 [(false, (.t 92))], none⟩,
         ⟨(some 14), .mov (.t 93), none⟩] [14])
       (.seq
        (.reg false [⟨(some 95), .mov (.t 14), none⟩,
          ⟨(some 96), .call 14 [(false, (.t 95))], none⟩,
          ⟨(some 94), .mov (.t 96), none⟩,
          ⟨(some 97), .ext (.t 94) 0, none⟩,
          ⟨(some 98), .ext (.t 94) 1, none⟩,
          ⟨(some 15), .mov (.t 97), none⟩,
          ⟨(some 16), .mov (.t 98), none⟩] [14, 15, 16])
        (.seq
         (.seq
          (.reg false [⟨(some 99), .mov (.t 16), none⟩,
            ⟨(some 100), .bin .neq true (.t 99) (.c (.int .i64 0)), none⟩,
            ⟨(some 101), .mov (.t 100), none⟩,
            ⟨(some 102), .mov (.t 14), (some (101, false))⟩,
            ⟨(some 103), .call 16 [(false, (.t 102))], (some (101, false))⟩,
            ⟨(some 104), .mov (.t 14), (some (101, false))⟩,
            ⟨(some 105), .bin .neq false (.t 103) (.t 104), (some (101, false))⟩,
            ⟨(some 106), .pick (.t 101) (.c (.bool true)) (.t 105), none⟩] [14, 15, 106])
          (.cond 106
           (.seq
            (.reg false [⟨(some 4), .mov (.c (.bool false)), none⟩] [4])
            .ret)
           (.reg false [] [14, 15])))
         (.seq
          (.reg false [⟨(some 107), .mov (.t 14), none⟩,
            ⟨(some 108), .call 10 [(false, (.t 107))], none⟩,
            ⟨(some 109), .bin .eql true (.t 108) (.c (.int .i64 0)), none⟩,
            ⟨(some 110), .mov (.t 15), none⟩,
            ⟨(some 111), .bin .gtr true (.t 110) (.c (.int .i64 0)), none⟩,
            ⟨(some 112), .mov (.t 111), none⟩,
            ⟨(some 113), .mov (.t 15), (some (112, true))⟩,
            ⟨(some 114), .bin .leq true (.t 113) (.c (.int .i64 12)), (some (112, true))⟩,
            ⟨(some 115), .pick (.t 112) (.t 114) (.c (.bool false)), none⟩,
            ⟨(some 116), .mov (.t 115), none⟩,
            ⟨(some 117), .mov (.t 14), (some (116, true))⟩,
            ⟨(some 118), .bin .neq false (.t 117) (.c (.str [46])), (some (116, true))⟩,
            ⟨(some 119), .pick (.t 116) (.t 118) (.c (.bool false)), none⟩,
            ⟨(some 120), .mov (.t 119), none⟩,
            ⟨(some 121), .mov (.t 14), (some (120, true))⟩,
            ⟨(some 122), .bin .neq false (.t 121) (.c (.str [46, 46])), (some (120, true))⟩,
            ⟨(some 123), .pick (.t 120) (.t 122) (.c (.bool false)), none⟩,
            ⟨(some 124), .mov (.t 123), none⟩,
            ⟨(some 125), .mov (.t 14), (some (124, true))⟩,
            ⟨(some 126), .bin .neq false (.t 125) (.c (.str [45])), (some (124, true))⟩,
            ⟨(some 127), .pick (.t 124) (.t 126) (.c (.bool false)), none⟩,
            ⟨(some 128), .beq false none (.t 109) (.t 127), none⟩,
            ⟨(some 129), .mov (.t 128), none⟩,
            ⟨(some 130), .call 7 [], (some (129, true))⟩,
            ⟨(some 131), .pick (.t 129) (.t 130) (.c (.bool false)), none⟩,
            ⟨(some 4), .mov (.t 131), none⟩] [4])
          .ret))))))))
def rs5 : List RS := [.tmp 4]
theorem clean_len (l : List UInt8) : (cleanL l).length ≤ l.length := by
  have h := toks_bytes _ l rfl
  have key : ∀ ts : List (Int × List UInt8), ((ts.filter (okc ·.1)).flatMap (·.2)).length ≤ (ts.flatMap (·.2)).length := by
    intro ts
    induction ts with
    | nil => simp
    | cons t ts ih =>
      rw [kept, List.flatMap_cons, List.length_append, List.length_append]
      split
      · omega
      · simp only [List.length_nil]; omega
  have := key (toks l)
  rw [h] at this
  exact this
theorem part_last (l : List UInt8) : (decide (partE (cleanL l) = 0)) = (decide (0 < (tn (cleanL l) : Int)) && decide ((tn (cleanL l) : Int) ≤ 12) && !decide (cleanL l = [46]) && !decide (cleanL l = [46, 46]) && !decide (cleanL l = [45])) := by
  have := part_clean l
  rw [Bool.eq_iff_iff]
  simp only [decide_eq_true_eq, Bool.and_eq_true, Bool.not_eq_true', decide_eq_false_iff_not]
  unfold tn
  constructor
  · intro h
    have h := this.1 h
    exact ⟨⟨⟨⟨by omega, by omega⟩, h.2.2.1⟩, h.2.2.2.1⟩, h.2.2.2.2⟩
  · rintro ⟨⟨⟨⟨h1, h2⟩, h3⟩, h4⟩, h5⟩
    exact this.2 ⟨by omega, by omega, h3, h4, h5⟩
theorem parts_0 {l : List UInt8} (h : checkE l = 0) : partsR l = pieces l := by unfold partsR; rw [if_pos h]
set_option maxHeartbeats 8000000 in
set_option maxRecDepth 20000 in
theorem back_pf (l : List UInt8) (b : List (List UInt8)) (hlb : b.length ≤ 9223372036854775807) : PFx Tryd.prog 5 [.str l, .sl (b.map .str) b.length] (.bool true) := by
  refine PFx_of_W (rc := rc5) (rs := rs5) Tryd.func5 rfl T7_ok hm (by kernel_rfl) (by kernel_rfl) (by simp [Tryd.ntmps5]) ?_
  by_cases hl : 200 < (l.length : Int)
  · simp [rc5, rs5, hl]
  · have hl' : l.length ≤ 1000000 := by omega
    by_cases hfb : few b
    · have h2 := few_join hfb
      have qb := T20_eq b ⟨by omega, by omega⟩
      have hcl := clean_len l
      have hp := part_last l
      have qc := T16_eq l hl'
      have hcc := clean_clean l
      have hce := clean_cnt l
      generalize cleanL l = c at hcl hp qc hcc hce
      have hcl' : c.length ≤ 1000000 := by omega
      have q1 := T16_eq c hcl'
      have q2 := T14_eq c hcl'
      have q3 := T10_eq c hcl'
      rw [hcc] at q1
      rw [hce] at q2
      have hj : joinE b = 0 → checkE (joinL b) = 0 ∧ partsR (joinL b) = b ∧ joinS b = joinL b := fun e => ⟨(join_0 e).2.2.1, by rw [parts_0 (join_0 e).2.2.1, (join_0 e).2.2.2.1], (join_0 e).2.2.2.2⟩
      have q4 := T19_eq (joinL b) (by omega)
      have q5 := T21_eq b b ⟨by omega, by omega⟩
      by_cases h0 : checkE l = 0
      · obtain ⟨c1, c2, c3⟩ := check_0.1 h0
        have hpr := parts_0 h0
        have hpl := pieces_le l
        have hjl := join_of_pieces h0
        have q6 := T19_eq l hl'
        rw [hpr, h0] at q6
        have q7 := T12_eq l hl'
        rw [h0] at q7
        have hps : ∀ p ∈ pieces l, p.length ≤ l.length := piece_le l
        have hjp : joinL (pieces l) = l := join_pieces l
        have hne := pieces_ne l
        generalize pieces l = ps at q6 c2 c3 hpl hjl hps hjp hne
        have q8 := T20_eq ps ⟨by omega, by rw [hjp]; omega⟩
        rw [hjl.1, hjl.2] at q8
        have hl0 : ¬ (ps.length : Int) = 0 := by have := List.length_pos_iff.2 hne; omega
        have hl0' : ¬ ps.length = 0 := by omega
        have hl6 : ¬ 6 < (ps.length : Int) := by omega
        simp [rc5, rs5, hl, hlb, hfb, q6, -W_condI]
        rw [W_condI]
        simp [hl, hlb, hfb, q6, -W_condI]
        rw [W_condI]
        simp [hl, hlb, hfb, q6, -W_condI]
        refine W_forU ps.length (fun k => True) (fun k => [(7, .int .i64 k)]) trivial (by simp) (fun k hk _ => ?_) fun _ => ?_
        · have qk := T10_eq ps[k] (by have := hps _ (List.getElem_mem hk); omega)
          rw [c2 _ (List.getElem_mem hk)] at qk
          simp [hk, qk]
          omega
        · by_cases he : joinE b = 0
          · obtain ⟨j1, j2, j3⟩ := hj he
            rw [j1, j2] at q4
            rw [he, j3] at qb
            simp [q8, q7, hl0, hl0', hl6, hne, qb, he, q4, q5, qc, q1, q2, q3, hp]
          · simp [q8, q7, hl0, hl0', hl6, hne, qb, he, q4, q5, qc, q1, q2, q3, hp]
      · have q6 := T19_eq l hl'
        rw [show partsR l = [] by unfold partsR; rw [if_neg h0]] at q6
        by_cases he : joinE b = 0
        · obtain ⟨j1, j2, j3⟩ := hj he
          rw [j1, j2] at q4
          rw [he, j3] at qb
          simp [rc5, rs5, hl, hlb, hfb, q6, h0, qb, he, q4, q5, qc, q1, q2, q3, hp]
        · simp [rc5, rs5, hl, hlb, hfb, q6, h0, qb, he, q4, q5, qc, q1, q2, q3, hp]
    · simp [rc5, rs5, hl, hlb, hfb]
end Go.Proofs.YtbinejcnoogoiaaDoor

