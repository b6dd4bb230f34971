/- How many texts there may be, whether texts are the same, and what every program tells. -/
import Derived.Test.YtbinejcnoogoiaaDoorT11
set_option linter.unusedVariables false
set_option linter.unusedSimpArgs false
namespace Go.Proofs.YtbinejcnoogoiaaDoor
open Go.Proofs.YtbinejcnoogoiaaDoor.Pad Go.Proofs.YtbinejcnoogoiaaDoor.Pad.Route Go.Proofs.YtbinejcnoogoiaaDoor.Pad.Runes Go.Proofs.YtbinejcnoogoiaaDoor.Pad.Utf
/-- padlock/padlocklaw01.Over -/
def rc18 : RC :=
  (.seq
   (.reg false [⟨(some 2), .mov (.c (.int .i64 0)), none⟩] [0])
   (.seq
    (.seq
     (.reg false [⟨(some 4), .mov (.t 0), none⟩,
       ⟨(some 5), .len false (.t 4), none⟩,
       ⟨(some 6), .bin .gtr true (.t 5) (.c (.int .i64 40)), none⟩] [0, 6])
     (.cond 6
      (.seq
       (.reg false [⟨(some 2), .mov (.c (.int .i64 1)), none⟩] [2])
       .ret)
      (.reg false [] [0])))
    (.seq
     (.seq
      (.reg false [⟨(some 3), .mov (.c (.int .i64 0)), none⟩] [0, 3])
      (.block 0
       (.loop
        (.seq
         (.seq
          (.reg false [⟨(some 7), .mov (.t 3), none⟩,
            ⟨(some 8), .mov (.t 0), none⟩,
            ⟨(some 9), .len false (.t 8), none⟩,
            ⟨(some 10), .bin .lss true (.t 7) (.t 9), none⟩] [0, 3, 10])
          (.cond 10
           (.reg false [] [0, 3])
           (.seq
            (.reg false [] [])
            (.exit 0))))
         (.seq
          (.block 1
           (.seq
            (.reg false [⟨(some 13), .mov (.t 0), none⟩,
              ⟨(some 14), .mov (.t 3), none⟩,
              ⟨(some 15), .idxA 1 (.t 13) (.t 14), none⟩,
              ⟨(some 16), .loadP (.t 15) 1 false, none⟩,
              ⟨(some 17), .len true (.t 16), none⟩,
              ⟨(some 18), .bin .gtr true (.t 17) (.c (.int .i64 200)), none⟩] [0, 3, 18])
            (.cond 18
             (.seq
              (.reg false [⟨(some 2), .mov (.c (.int .i64 1)), none⟩] [2])
              .ret)
             (.reg false [] [0, 3]))))
          (.reg false [⟨(some 11), .mov (.t 3), none⟩,
            ⟨(some 12), .bin .add true (.t 11) (.c (.int .i64 1)), none⟩,
            ⟨(some 3), .mov (.t 12), none⟩] [0, 3]))))))
     (.seq
      (.reg false [⟨(some 2), .mov (.c (.int .i64 0)), none⟩] [2])
      .ret))))
def rs18 : List RS := [.tmp 2]
/-- padlock/padlockref01.SameTexts -/
def rc21 : RC :=
  (.seq
   (.reg false [⟨(some 4), .mov (.c (.bool false)), none⟩] [0, 1])
   (.seq
    (.seq
     (.reg false [⟨(some 6), .mov (.t 0), none⟩,
       ⟨(some 7), .len false (.t 6), none⟩,
       ⟨(some 8), .mov (.t 1), none⟩,
       ⟨(some 9), .len false (.t 8), none⟩,
       ⟨(some 10), .bin .neq true (.t 7) (.t 9), none⟩] [0, 1, 10])
     (.cond 10
      (.seq
       (.reg false [⟨(some 4), .mov (.c (.bool false)), none⟩] [4])
       .ret)
      (.reg false [] [0, 1])))
    (.seq
     (.seq
      (.reg false [⟨(some 5), .mov (.c (.int .i64 0)), none⟩] [0, 1, 5])
      (.block 0
       (.loop
        (.seq
         (.seq
          (.reg false [⟨(some 11), .mov (.t 5), none⟩,
            ⟨(some 12), .mov (.t 0), none⟩,
            ⟨(some 13), .len false (.t 12), none⟩,
            ⟨(some 14), .bin .lss true (.t 11) (.t 13), none⟩] [0, 1, 5, 14])
          (.cond 14
           (.reg false [] [0, 1, 5])
           (.seq
            (.reg false [] [])
            (.exit 0))))
         (.seq
          (.block 1
           (.seq
            (.reg true [⟨(some 17), .mov (.t 0), none⟩,
              ⟨(some 18), .mov (.t 5), none⟩,
              ⟨(some 19), .idxA 1 (.t 17) (.t 18), none⟩,
              ⟨(some 20), .loadP (.t 19) 1 false, none⟩,
              ⟨(some 21), .mov (.t 1), none⟩,
              ⟨(some 22), .mov (.t 5), none⟩,
              ⟨(some 23), .idxA 1 (.t 21) (.t 22), none⟩,
              ⟨(some 24), .loadP (.t 23) 1 false, none⟩,
              ⟨(some 25), .bin .neq false (.t 20) (.t 24), none⟩] [0, 1, 5, 25])
            (.cond 25
             (.seq
              (.reg false [⟨(some 4), .mov (.c (.bool false)), none⟩] [4])
              .ret)
             (.reg false [] [0, 1, 5]))))
          (.reg false [⟨(some 15), .mov (.t 5), none⟩,
            ⟨(some 16), .bin .add true (.t 15) (.c (.int .i64 1)), none⟩,
            ⟨(some 5), .mov (.t 16), none⟩] [0, 1, 5]))))))
     (.seq
      (.reg false [⟨(some 4), .mov (.c (.bool true)), none⟩] [4])
      .ret))))
def rs21 : List RS := [.tmp 4]
/-- padlock/padlocklaw04.awake -/
def rc7 : RC :=
  (.seq
   (.reg false [⟨(some 0), .mov (.c (.bool false)), none⟩] [])
   (.seq
    (.reg false [⟨(some 8), .call 19 [(false, (.c (.str [116, 101, 97, 109, 47, 195, 164, 112, 102, 101, 108])))], none⟩,
      ⟨(some 7), .mov (.t 8), none⟩,
      ⟨(some 9), .ext (.t 7) 0, none⟩,
      ⟨(some 10), .ext (.t 7) 1, none⟩,
      ⟨(some 1), .steal 9, none⟩,
      ⟨(some 2), .mov (.t 10), none⟩] [1, 2])
    (.seq
     (.reg false [⟨(some 12), .mkSl 1 2 [(.str []), (.str [])] [(0, 1, (.c (.str [97]))), (1, 1, (.c (.str [98])))], none⟩,
       ⟨(some 13), .call 20 [(false, (.t 12))], none⟩,
       ⟨(some 11), .mov (.t 13), none⟩,
       ⟨(some 14), .ext (.t 11) 0, none⟩,
       ⟨(some 15), .ext (.t 11) 1, none⟩,
       ⟨(some 3), .mov (.t 14), none⟩,
       ⟨(some 4), .mov (.t 15), none⟩] [1, 2, 3, 4])
     (.seq
      (.reg false [⟨(some 17), .call 14 [(false, (.c (.str [97, 195, 164, 255])))], none⟩,
        ⟨(some 16), .mov (.t 17), none⟩,
        ⟨(some 18), .ext (.t 16) 0, none⟩,
        ⟨(some 19), .ext (.t 16) 1, none⟩,
        ⟨(some 5), .mov (.t 18), none⟩,
        ⟨(some 6), .mov (.t 19), none⟩] [1, 2, 3, 4, 5, 6])
      (.seq
       (.reg false [⟨(some 20), .mov (.t 2), none⟩,
         ⟨(some 21), .bin .eql true (.t 20) (.c (.int .i64 0)), none⟩,
         ⟨(some 22), .mov (.t 21), none⟩,
         ⟨(some 23), .mov (.t 1), (some (22, true))⟩,
         ⟨(some 24), .len false (.t 23), (some (22, true))⟩,
         ⟨(some 25), .bin .eql true (.t 24) (.c (.int .i64 2)), (some (22, true))⟩,
         ⟨(some 26), .pick (.t 22) (.t 25) (.c (.bool false)), none⟩,
         ⟨(some 27), .mov (.t 26), none⟩,
         ⟨(some 28), .mov (.t 1), (some (27, true))⟩,
         ⟨(some 29), .idxA 1 (.t 28) (.c (.int .i64 1)), (some (27, true))⟩,
         ⟨(some 30), .loadP (.t 29) 1 false, (some (27, true))⟩,
         ⟨(some 31), .bin .eql false (.t 30) (.c (.str [195, 164, 112, 102, 101, 108])), (some (27, true))⟩,
         ⟨(some 32), .pick (.t 27) (.t 31) (.c (.bool false)), none⟩,
         ⟨(some 33), .mov (.t 32), none⟩,
         ⟨(some 34), .mov (.t 4), (some (33, true))⟩,
         ⟨(some 35), .bin .eql true (.t 34) (.c (.int .i64 0)), (some (33, true))⟩,
         ⟨(some 36), .pick (.t 33) (.t 35) (.c (.bool false)), none⟩,
         ⟨(some 37), .mov (.t 36), none⟩,
         ⟨(some 38), .mov (.t 3), (some (37, true))⟩,
         ⟨(some 39), .bin .eql false (.t 38) (.c (.str [97, 47, 98])), (some (37, true))⟩,
         ⟨(some 40), .pick (.t 37) (.t 39) (.c (.bool false)), none⟩,
         ⟨(some 41), .mov (.t 40), none⟩,
         ⟨(some 42), .mov (.t 5), (some (41, true))⟩,
         ⟨(some 43), .bin .eql true (.t 42) (.c (.int .i64 3)), (some (41, true))⟩,
         ⟨(some 44), .pick (.t 41) (.t 43) (.c (.bool false)), none⟩,
         ⟨(some 45), .mov (.t 44), none⟩,
         ⟨(some 46), .mov (.t 6), (some (45, true))⟩,
         ⟨(some 47), .bin .eql true (.t 46) (.c (.int .i64 4)), (some (45, true))⟩,
         ⟨(some 48), .pick (.t 45) (.t 47) (.c (.bool false)), none⟩,
         ⟨(some 49), .mov (.t 48), none⟩,
         ⟨(some 50), .call 16 [(false, (.c (.str [97, 32, 98, 47, 195, 164, 33])))], (some (49, true))⟩,
         ⟨(some 51), .bin .eql false (.t 50) (.c (.str [97, 98, 195, 164])), (some (49, true))⟩,
         ⟨(some 52), .pick (.t 49) (.t 51) (.c (.bool false)), none⟩,
         ⟨(some 53), .mov (.t 52), none⟩,
         ⟨(some 54), .call 12 [(false, (.c (.str [97, 47, 47, 98])))], (some (53, true))⟩,
         ⟨(some 55), .bin .eql true (.t 54) (.c (.int .i64 4)), (some (53, true))⟩,
         ⟨(some 56), .pick (.t 53) (.t 55) (.c (.bool false)), none⟩,
         ⟨(some 57), .mov (.t 56), none⟩,
         ⟨(some 58), .call 10 [(false, (.c (.str [46, 46])))], (some (57, true))⟩,
         ⟨(some 59), .bin .eql true (.t 58) (.c (.int .i64 4)), (some (57, true))⟩,
         ⟨(some 60), .pick (.t 57) (.t 59) (.c (.bool false)), none⟩,
         ⟨(some 61), .mov (.t 60), none⟩,
         ⟨(some 62), .call 8 [(false, (.c (.int .i32 223)))], (some (61, true))⟩,
         ⟨(some 63), .pick (.t 61) (.t 62) (.c (.bool false)), none⟩,
         ⟨(some 64), .mov (.t 63), none⟩,
         ⟨(some 65), .call 8 [(false, (.c (.int .i32 47)))], (some (64, true))⟩,
         ⟨(some 66), .un .not (.t 65), (some (64, true))⟩,
         ⟨(some 67), .pick (.t 64) (.t 66) (.c (.bool false)), none⟩,
         ⟨(some 68), .mov (.t 67), none⟩,
         ⟨(some 69), .pick (.t 68) (.c (.bool true)) (.c (.bool false)), none⟩,
         ⟨(some 70), .mov (.t 69), none⟩,
         ⟨(some 71), .pick (.t 70) (.c (.bool true)) (.c (.bool false)), none⟩,
         ⟨(some 72), .mov (.t 71), none⟩,
         ⟨(some 73), .pick (.t 72) (.c (.bool true)) (.c (.bool false)), none⟩,
         ⟨(some 74), .mov (.t 73), none⟩,
         ⟨(some 75), .pick (.t 74) (.c (.bool true)) (.c (.bool false)), none⟩,
         ⟨(some 0), .mov (.t 75), none⟩] [0])
       .ret)))))
def rs7 : List RS := [.tmp 0]
def few (ls : List (List UInt8)) : Prop := ls.length ≤ 40 ∧ ∀ s ∈ ls, s.length ≤ 200
theorem pf18 (ls : List (List UInt8)) (h : ls.length ≤ 9223372036854775807) : PFx Tryd.prog 18 [.sl (ls.map .str) ls.length] (.int .i64 (open Classical in if few ls then 0 else 1)) := by
  refine PFx_of_W (rc := rc18) (rs := rs18) Tryd.func18 rfl T20_ok hm (by kernel_rfl) (by kernel_rfl) (by simp [Tryd.ntmps18]) ?_
  rcases Int.lt_or_le 40 ls.length with h4 | h4
  · have hf : ¬ few ls := fun hf => by have := hf.1; omega
    simp [rc18, rs18, h4, hf]
  · have h4' : ¬ (40 : Int) < ls.length := by omega
    simp [rc18, rs18, h4']
    refine W_forU ls.length (fun k => ∀ s ∈ ls.take k, s.length ≤ 200) (fun k => [(3, .int .i64 k)]) (by simp) (by simp) (fun k hk hp => ?_) fun hp => ?_
    · by_cases he : (200 : Int) < (ls[k]).length
      · have hf : ¬ few ls := fun hf => by have := hf.2 _ (List.getElem_mem hk); omega
        simp [hk, he, hf]
        omega
      · simp [hk, he]
        exact ⟨by omega, by omega, take_all (fun s : List UInt8 => s.length ≤ 200) hk hp (by omega)⟩
    · have hf : few ls := ⟨by omega, by rwa [List.take_length] at hp⟩
      simp [hf]
noncomputable def T18 : Tab := tabAdd T20 18 (fun z : (List (List UInt8)) => z.length ≤ 9223372036854775807) (fun z => [.sl (z.map .str) z.length]) (fun z => .int .i64 (open Classical in if few z then 0 else 1))
@[simp] theorem T18_eq (ls : List (List UInt8)) (h : ls.length ≤ 9223372036854775807) : T18 18 [.sl (ls.map .str) ls.length] = some (.int .i64 (open Classical in if few ls then 0 else 1)) := tabAdd_eq (a := ls) (by simp +contextual [Int.natCast_inj]) h rfl
@[simp] theorem T18_ne {g : Nat} {xs : List AV} (h : g ≠ 18) : T18 g xs = T20 g xs := tabAdd_ne h
theorem T18_ok : Sound Tryd.prog T18 := tabAdd_sound T20_ok fun z h => pf18 z h
theorem take_eq {α : Type} {a b : List α} {k : Nat} (ha : k < a.length) (hb : k < b.length) (h : a.take k = b.take k) (he : a[k] = b[k]) : a.take (k + 1) = b.take (k + 1) := by
  rw [take_one a k ha, take_one b k hb, h, he]
theorem pf21 (a : List (List UInt8)) (b : List (List UInt8)) (h : a.length ≤ 1000000 ∧ b.length ≤ 1000000) : PFx Tryd.prog 21 [.sl (a.map .str) a.length, .sl (b.map .str) b.length] (.bool (decide (a = b))) := by
  refine PFx_of_W (rc := rc21) (rs := rs21) Tryd.func21 rfl T18_ok hm (by kernel_rfl) (by kernel_rfl) (by simp [Tryd.ntmps21]) ?_
  obtain ⟨h1, h2⟩ := h
  by_cases hl : a.length = b.length
  · have hl' : (a.length : Int) = b.length := by omega
    simp [rc21, rs21, hl']
    refine W_forU b.length (fun k => a.take k = b.take k) (fun k => [(5, .int .i64 k)]) (by simp) (by simp) (fun k hk hp => ?_) fun hp => ?_
    · have hk' : k < a.length := by omega
      by_cases he : a[k]'hk' = b[k]'hk
      · have ht := take_eq hk' hk hp he
        simp [hk, hk', he, hl, ht]
        omega
      · have hne : a ≠ b := fun e => he (by subst e; rfl)
        simp [hk, hk', he, hl, hne]
        omega
    · have : a = b := by
        rw [← hl, List.take_length, hl, List.take_length] at hp
        exact hp
      simp [hl, this]
  · have hl' : ¬ (a.length : Int) = b.length := by omega
    have hne : a ≠ b := fun e => hl (by rw [e])
    simp [rc21, rs21, hl', hl, hne]
noncomputable def T21 : Tab := tabAdd T18 21 (fun z : (List (List UInt8)) × (List (List UInt8)) => z.1.length ≤ 1000000 ∧ z.2.length ≤ 1000000) (fun z => [.sl (z.1.map .str) z.1.length, .sl (z.2.map .str) z.2.length]) (fun z => .bool (decide (z.1 = z.2)))
@[simp] theorem T21_eq (a : List (List UInt8)) (b : List (List UInt8)) (h : a.length ≤ 1000000 ∧ b.length ≤ 1000000) : T21 21 [.sl (a.map .str) a.length, .sl (b.map .str) b.length] = some (.bool (decide (a = b))) := tabAdd_eq (a := (a, b)) (by simp +contextual [Int.natCast_inj]) h rfl
@[simp] theorem T21_ne {g : Nat} {xs : List AV} (h : g ≠ 21) : T21 g xs = T18 g xs := tabAdd_ne h
theorem T21_ok : Sound Tryd.prog T21 := tabAdd_sound T18_ok fun z h => pf21 z.1 z.2 h
end Go.Proofs.YtbinejcnoogoiaaDoor

