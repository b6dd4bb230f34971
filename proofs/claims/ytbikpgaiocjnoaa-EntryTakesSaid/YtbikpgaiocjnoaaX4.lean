/- entry: nodes that are the same. -/
import Derived.Test.YtbikpgaiocjnoaaX3
set_option linter.unusedVariables false
set_option linter.unusedSimpArgs false
namespace Go.Proofs.Ytbikpgaiocjnoaa
open Go.Proofs.Ytbikpgaiocjnoaa.Pad Go.Proofs.Ytbikpgaiocjnoaa.Pad.En
/-- padlock/padlockref10.Same -/
def rc17 : RC :=
  (.seq
   (.reg false [⟨(some 2), .box (.t 0), none⟩,
     ⟨(some 3), .box (.t 1), none⟩,
     ⟨(some 4), .mov (.c (.bool false)), none⟩] [2, 3])
   (.seq
    (.seq
     (.reg false [⟨(some 6), .fldB 2 0, none⟩,
       ⟨(some 7), .loadR 6 2 1 false, none⟩,
       ⟨(some 8), .fldB 3 0, none⟩,
       ⟨(some 9), .loadR 8 3 1 false, none⟩,
       ⟨(some 10), .bin .neq false (.t 7) (.t 9), none⟩] [2, 3, 10])
     (.cond 10
      (.seq
       (.reg false [⟨(some 4), .mov (.c (.bool false)), none⟩] [4])
       .ret)
      (.reg false [] [2, 3])))
    (.seq
     (.seq
      (.reg false [⟨(some 11), .fldB 2 0, none⟩,
        ⟨(some 12), .loadR 11 2 1 false, none⟩,
        ⟨(some 13), .bin .eql false (.t 12) (.c (.int .u8 1)), none⟩] [2, 3, 13])
      (.cond 13
       (.seq
        (.reg false [⟨(some 14), .fldB 2 1, none⟩,
          ⟨(some 15), .loadR 14 2 1 false, none⟩,
          ⟨(some 16), .bin .eql false (.t 15) (.c (.int .u64 1)), none⟩,
          ⟨(some 17), .fldB 3 1, none⟩,
          ⟨(some 18), .loadR 17 3 1 false, none⟩,
          ⟨(some 19), .bin .eql false (.t 18) (.c (.int .u64 1)), none⟩,
          ⟨(some 20), .beq false none (.t 16) (.t 19), none⟩,
          ⟨(some 4), .mov (.t 20), none⟩] [4])
        .ret)
       (.reg false [] [2, 3])))
     (.seq
      (.seq
       (.reg false [⟨(some 21), .fldB 2 0, none⟩,
         ⟨(some 22), .loadR 21 2 1 false, none⟩,
         ⟨(some 23), .bin .eql false (.t 22) (.c (.int .u8 2)), none⟩] [2, 3, 23])
       (.cond 23
        (.seq
         (.reg false [⟨(some 24), .fldB 2 1, none⟩,
           ⟨(some 25), .loadR 24 2 1 false, none⟩,
           ⟨(some 26), .fldB 3 1, none⟩,
           ⟨(some 27), .loadR 26 3 1 false, none⟩,
           ⟨(some 28), .bin .eql false (.t 25) (.t 27), none⟩,
           ⟨(some 4), .mov (.t 28), none⟩] [4])
         .ret)
        (.reg false [] [2, 3])))
      (.seq
       (.seq
        (.reg false [⟨(some 29), .fldB 2 0, none⟩,
          ⟨(some 30), .loadR 29 2 1 false, none⟩,
          ⟨(some 31), .bin .eql false (.t 30) (.c (.int .u8 3)), none⟩] [2, 3, 31])
        (.cond 31
         (.seq
          (.reg false [⟨(some 32), .fldB 2 2, none⟩,
            ⟨(some 33), .loadR 32 2 1 false, none⟩,
            ⟨(some 34), .fldB 3 2, none⟩,
            ⟨(some 35), .loadR 34 3 1 false, none⟩,
            ⟨(some 36), .bin .eql false (.t 33) (.t 35), none⟩,
            ⟨(some 4), .mov (.t 36), none⟩] [4])
          .ret)
         (.reg false [] [2, 3])))
       (.seq
        (.seq
         (.reg false [⟨(some 37), .fldB 2 0, none⟩,
           ⟨(some 38), .loadR 37 2 1 false, none⟩,
           ⟨(some 39), .bin .lss false (.t 38) (.c (.int .u8 4)), none⟩] [2, 3, 39])
         (.cond 39
          (.seq
           (.reg false [⟨(some 4), .mov (.c (.bool true)), none⟩] [4])
           .ret)
          (.reg false [] [2, 3])))
        (.seq
         (.seq
          (.reg false [⟨(some 40), .fldB 2 3, none⟩,
            ⟨(some 41), .loadR 40 2 1 false, none⟩,
            ⟨(some 42), .len false (.t 41), none⟩,
            ⟨(some 43), .fldB 3 3, none⟩,
            ⟨(some 44), .loadR 43 3 1 false, none⟩,
            ⟨(some 45), .len false (.t 44), none⟩,
            ⟨(some 46), .bin .neq true (.t 42) (.t 45), none⟩] [2, 3, 46])
          (.cond 46
           (.seq
            (.reg false [⟨(some 4), .mov (.c (.bool false)), none⟩] [4])
            .ret)
           (.reg false [] [2, 3])))
         (.seq
          (.seq
           (.reg false [⟨(some 5), .mov (.c (.int .i64 0)), none⟩] [2, 3, 5])
           (.block 0
            (.loop
             (.seq
              (.seq
               (.reg false [⟨(some 47), .mov (.t 5), none⟩,
                 ⟨(some 48), .fldB 2 3, none⟩,
                 ⟨(some 49), .loadR 48 2 1 false, none⟩,
                 ⟨(some 50), .len false (.t 49), none⟩,
                 ⟨(some 51), .bin .lss true (.t 47) (.t 50), none⟩] [2, 3, 5, 51])
               (.cond 51
                (.reg false [] [2, 3, 5])
                (.seq
                 (.reg false [] [])
                 (.exit 0))))
              (.seq
               (.block 1
                (.seq
                 (.reg true [⟨(some 54), .fldB 2 0, none⟩,
                   ⟨(some 55), .loadR 54 2 1 false, none⟩,
                   ⟨(some 56), .bin .eql false (.t 55) (.c (.int .u8 5)), none⟩,
                   ⟨(some 57), .mov (.t 56), none⟩,
                   ⟨(some 58), .loadB 2 5 true, (some (57, true))⟩,
                   ⟨(some 59), .mov (.t 5), (some (57, true))⟩,
                   ⟨(some 60), .call 28 [(false, (.t 58)), (false, (.t 59))], (some (57, true))⟩,
                   ⟨(some 61), .loadB 3 5 true, (some (57, true))⟩,
                   ⟨(some 62), .mov (.t 5), (some (57, true))⟩,
                   ⟨(some 63), .call 28 [(false, (.t 61)), (false, (.t 62))], (some (57, true))⟩,
                   ⟨(some 64), .bin .neq false (.t 60) (.t 63), (some (57, true))⟩,
                   ⟨(some 65), .pick (.t 57) (.t 64) (.c (.bool false)), none⟩,
                   ⟨(some 66), .mov (.t 65), none⟩,
                   ⟨(some 67), .fldB 2 3, (some (66, false))⟩,
                   ⟨(some 68), .loadR 67 2 1 false, (some (66, false))⟩,
                   ⟨(some 69), .mov (.t 5), (some (66, false))⟩,
                   ⟨(some 70), .idxA 5 (.t 68) (.t 69), (some (66, false))⟩,
                   ⟨(some 71), .loadP (.t 70) 5 true, (some (66, false))⟩,
                   ⟨(some 72), .fldB 3 3, (some (66, false))⟩,
                   ⟨(some 73), .loadR 72 3 1 false, (some (66, false))⟩,
                   ⟨(some 74), .mov (.t 5), (some (66, false))⟩,
                   ⟨(some 75), .idxA 5 (.t 73) (.t 74), (some (66, false))⟩,
                   ⟨(some 76), .loadP (.t 75) 5 true, (some (66, false))⟩,
                   ⟨(some 77), .call 17 [(false, (.t 71)), (false, (.t 76))], (some (66, false))⟩,
                   ⟨(some 78), .un .not (.t 77), (some (66, false))⟩,
                   ⟨(some 79), .pick (.t 66) (.c (.bool true)) (.t 78), none⟩] [2, 3, 5, 79])
                 (.cond 79
                  (.seq
                   (.reg false [⟨(some 4), .mov (.c (.bool false)), none⟩] [4])
                   .ret)
                  (.reg false [] [2, 3, 5]))))
               (.reg false [⟨(some 52), .mov (.t 5), none⟩,
                 ⟨(some 53), .bin .add true (.t 52) (.c (.int .i64 1)), none⟩,
                 ⟨(some 5), .mov (.t 53), none⟩] [2, 3, 5]))))))
          (.seq
           (.reg false [⟨(some 4), .mov (.c (.bool true)), none⟩] [4])
           .ret)))))))))
def rs17 : List RS := [.tmp 4]
noncomputable def R17 (m : Nat) : Tab := tabAdd T10 17 (fun z : Nd × Nd => (z.1.fine) ∧ z.1.sz < m) (fun z => [.agg z.1.av, .agg z.2.av]) (fun z => .bool (same z.1 z.2))
theorem R17_eq (m : Nat) (x : Nd) (y : Nd) (h : x.fine) (hm : x.sz < m) : R17 m 17 [.agg x.av, .agg y.av] = some (.bool (same x y)) := tabAdd_eq (a := (x, y)) (by rintro ⟨a, c⟩ ⟨b, d⟩ h; simp only [List.cons.injEq, AV.agg.injEq, and_true] at h; rw [av_inj _ _ h.1, av_inj _ _ h.2]) ⟨h, hm⟩ rfl
@[simp] theorem R17_ne {m g : Nat} {xs : List AV} (h : g ≠ 17) : R17 m g xs = T10 g xs := tabAdd_ne h
theorem pf17 (x : Nd) (y : Nd) (h : x.fine) : PFx Try.prog 17 [.agg x.av, .agg y.av] (.bool (same x y)) := by
  refine tabRec (T := T10) (p := fun z : Nd × Nd => z.1.fine) (args := fun z => [.agg z.1.av, .agg z.2.av]) (res := fun z => .bool (same z.1 z.2)) (fun z => z.1.sz) T10_ok (fun z h hT => ?_) (by unfold inPlace; omega) (x, y) h
  obtain ⟨x, y⟩ := z
  try dsimp only at h
  replace hT : Sound Try.prog (R17 (x.sz)) := hT
  refine PFx_of_W (rc := rc17) (rs := rs17) Try.func17 rfl hT hm (by kernel_rfl) (by kernel_rfl) (by simp [Try.ntmps17]) ?_
  obtain ⟨k, n, s, ka, na⟩ := x
  obtain ⟨k', n', s', kb, nb⟩ := y
  rw [Nd.fine] at h
  have hka := h.1
  have hname : ∀ i : Nat, T28 28 [.agg (Nd.av (.mk k n s ka na)), .int .i64 i] = some (.str (nm na i)) := fun i => T28_eq (.mk k n s ka na) i
  have hname' : ∀ i : Nat, T28 28 [.agg (Nd.av (.mk k' n' s' kb nb)), .int .i64 i] = some (.str (nm nb i)) := fun i => T28_eq (.mk k' n' s' kb nb) i
  simp only [Nd.av] at hname hname' ⊢
  rw [same]
  by_cases h0 : k.toNat ≠ k'.toNat
  · have h0' : ¬ (k.toNat : Int) = k'.toNat := by omega
    rw [if_pos h0]
    simp [rc17, rs17, h0, h0']
  have e0 : k'.toNat = k.toNat := by omega
  rw [if_neg h0]
  rw [e0] at hname'
  by_cases h1 : k.toNat = 1
  · have h1' : (k.toNat : Int) = 1 := by omega
    rw [if_pos h1]
    simp [rc17, rs17, e0, h1, h1']
  have h1' : ¬ (k.toNat : Int) = 1 := by omega
  rw [if_neg h1]
  by_cases h2 : k.toNat = 2
  · have h2' : (k.toNat : Int) = 2 := by omega
    rw [if_pos h2]
    simp [rc17, rs17, e0, h2, h2']
  have h2' : ¬ (k.toNat : Int) = 2 := by omega
  rw [if_neg h2]
  by_cases h3 : k.toNat = 3
  · have h3' : (k.toNat : Int) = 3 := by omega
    rw [if_pos h3]
    simp [rc17, rs17, e0, h3, h3']
  have h3' : ¬ (k.toNat : Int) = 3 := by omega
  rw [if_neg h3]
  by_cases h4 : k.toNat < 4
  · have h4' : (k.toNat : Int) < 4 := by omega
    rw [if_pos h4]
    simp [rc17, rs17, e0, h1', h2', h3', h4, h4']
  have h4' : ¬ (k.toNat : Int) < 4 := by omega
  rw [if_neg h4]
  by_cases h5 : ka.length ≠ kb.length
  · have h5' : ¬ (ka.length : Int) = kb.length := by omega
    rw [if_pos h5]
    simp [rc17, rs17, e0, h1', h2', h3', h4', h5, h5']
  have e5 : kb.length = ka.length := by omega
  rw [if_neg h5]
  simp [rc17, rs17, e0, h1', h2', h3', h4', e5]
  refine W_varU (fun i : Nat => i ≤ ka.length ∧ sameL (decide (k.toNat = 5)) na nb 0 ka kb = sameL (decide (k.toNat = 5)) na nb i (ka.drop i) (kb.drop i)) (fun i => ka.length - i) (fun i => [(5, .int .i64 i)]) 0 ⟨Nat.zero_le _, rfl⟩ (by simp) ?_
  rintro i ⟨hi, hc⟩
  rcases Nat.lt_or_ge i ka.length with hlt | hge
  · have hlt' : (i : Int) < ka.length := by omega
    have hltb : i < kb.length := by omega
    rw [hc, List.drop_eq_getElem_cons hlt, List.drop_eq_getElem_cons hltb, sameL]
    have q := R17_eq (Nd.sz (.mk k n s ka na)) ka[i] kb[i] (ndFine_get ka h.2.2 i hlt) (size_kid hlt)
    rw [← avs_get ka i hlt, ← avs_get kb i hltb] at q
    have hb : 5 ≤ ka.length * 5 - i * 5 := by omega
    have q1 := hname i
    have q2 := hname' i
    generalize same ka[i] kb[i] = r at q
    have fin : sameL (decide (k.toNat = 5)) na nb (i + 1) (ka.drop (i + 1)) (kb.drop (i + 1)) = sameL (decide (k.toNat = 5)) na nb (i + 1) (ka.drop (i + 1)) (kb.drop (i + 1)) := rfl
    by_cases h7 : k.toNat = 5
    · have h7' : (k.toNat : Int) = 5 := by omega
      rw [h7'] at q1 q2
      rw [e5] at q2
      by_cases h8 : nm na i = nm nb i
      · cases r
        · simp [hlt, hlt', h7, h7', q1, q2, h8, q, hb, e5]
        · simp [hlt, hlt', h7, h7', q1, q2, h8, q, hb, e5]
          first | exact ⟨by omega, i + 1, ⟨by omega, rfl⟩, by omega, by omega⟩ | exact ⟨by omega, ⟨by omega, by omega⟩, i + 1, ⟨by omega, rfl⟩, by omega, by omega⟩
      · simp [hlt, hlt', h7, h7', q1, q2, h8, q, hb, e5]
    · have h7' : ¬ (k.toNat : Int) = 5 := by omega
      cases r
      · simp [hlt, hlt', h7, h7', q, hb, e5]
      · simp [hlt, hlt', h7, h7', q, hb, e5]
        first | exact ⟨by omega, i + 1, ⟨by omega, rfl⟩, by omega, by omega⟩ | exact ⟨by omega, ⟨by omega, by omega⟩, i + 1, ⟨by omega, rfl⟩, by omega, by omega⟩
  · have e : i = ka.length := by omega
    subst e
    rw [hc]
    simp [sameL]
noncomputable def T17 : Tab := tabAdd T10 17 (fun z : Nd × Nd => z.1.fine) (fun z => [.agg z.1.av, .agg z.2.av]) (fun z => .bool (same z.1 z.2))
@[simp] theorem T17_eq (x : Nd) (y : Nd) (h : x.fine) : T17 17 [.agg x.av, .agg y.av] = some (.bool (same x y)) := tabAdd_eq (a := (x, y)) (by rintro ⟨a, c⟩ ⟨b, d⟩ h; simp only [List.cons.injEq, AV.agg.injEq, and_true] at h; rw [av_inj _ _ h.1, av_inj _ _ h.2]) h rfl
@[simp] theorem T17_ne {g : Nat} {xs : List AV} (h : g ≠ 17) : T17 g xs = T10 g xs := tabAdd_ne h
theorem T17_ok : Sound Try.prog T17 := tabAdd_sound T10_ok fun z h => pf17 z.1 z.2 h
end Go.Proofs.Ytbikpgaiocjnoaa

