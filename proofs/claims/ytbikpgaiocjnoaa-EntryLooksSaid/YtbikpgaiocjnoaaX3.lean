/- entry: the program's value of a node. -/
import Derived.Test.YtbikpgaiocjnoaaX2
set_option linter.unusedVariables false
set_option linter.unusedSimpArgs false
namespace Go.Proofs.Ytbikpgaiocjnoaa
open Go.Proofs.Ytbikpgaiocjnoaa.Pad Go.Proofs.Ytbikpgaiocjnoaa.Pad.En
/-- padlock/padlocklaw10.Own -/
def rc10 : RC :=
  (.seq
   (.reg false [⟨(some 1), .box (.t 0), none⟩,
     ⟨(some 2), .mov (.c .nilI), none⟩] [1])
   (.seq
    (.seq
     (.reg false [⟨(some 8), .fldB 1 0, none⟩,
       ⟨(some 9), .loadR 8 1 1 false, none⟩] [1, 9])
     (.block 0
      (.seq
       (.reg false [⟨(some 11), .bin .eql false (.t 9) (.c (.int .u8 0)), none⟩,
         ⟨(some 10), .mov (.t 11), none⟩] [1, 9, 10])
       (.cond 10
        (.seq
         (.reg false [⟨(some 2), .mov (.c .nilI), none⟩] [2])
         .ret)
        (.seq
         (.reg false [⟨(some 13), .bin .eql false (.t 9) (.c (.int .u8 1)), none⟩,
           ⟨(some 12), .mov (.t 13), none⟩] [1, 9, 12])
         (.cond 12
          (.seq
           (.reg false [⟨(some 14), .fldB 1 1, none⟩,
             ⟨(some 15), .loadR 14 1 1 false, none⟩,
             ⟨(some 16), .bin .eql false (.t 15) (.c (.int .u64 1)), none⟩,
             ⟨(some 17), .mkI 4 (.t 16), none⟩,
             ⟨(some 2), .mov (.t 17), none⟩] [2])
           .ret)
          (.seq
           (.reg false [⟨(some 19), .bin .eql false (.t 9) (.c (.int .u8 2)), none⟩,
             ⟨(some 18), .mov (.t 19), none⟩] [1, 9, 18])
           (.cond 18
            (.seq
             (.reg false [⟨(some 20), .fldB 1 1, none⟩,
               ⟨(some 21), .loadR 20 1 1 false, none⟩,
               ⟨(some 22), .mkI 22 (.t 21), none⟩,
               ⟨(some 2), .mov (.t 22), none⟩] [2])
             .ret)
            (.seq
             (.reg false [⟨(some 24), .bin .eql false (.t 9) (.c (.int .u8 3)), none⟩,
               ⟨(some 23), .mov (.t 24), none⟩] [1, 9, 23])
             (.cond 23
              (.seq
               (.reg false [⟨(some 25), .fldB 1 2, none⟩,
                 ⟨(some 26), .loadR 25 1 1 false, none⟩,
                 ⟨(some 27), .mkI 9 (.t 26), none⟩,
                 ⟨(some 2), .mov (.t 27), none⟩] [2])
               .ret)
              (.seq
               (.reg false [⟨(some 29), .bin .eql false (.t 9) (.c (.int .u8 4)), none⟩,
                 ⟨(some 28), .mov (.t 29), none⟩] [1, 9, 28])
               (.cond 28
                (.seq
                 (.reg false [⟨(some 30), .mkSl 1 0 [] [], none⟩,
                   ⟨(some 3), .steal 30, none⟩] [1, 3])
                 (.seq
                  (.seq
                   (.reg false [⟨(some 4), .mov (.c (.int .i64 0)), none⟩] [1, 3, 4])
                   (.block 1
                    (.loop
                     (.seq
                      (.seq
                       (.reg false [⟨(some 31), .mov (.t 4), none⟩,
                         ⟨(some 32), .fldB 1 3, none⟩,
                         ⟨(some 33), .loadR 32 1 1 false, none⟩,
                         ⟨(some 34), .len false (.t 33), none⟩,
                         ⟨(some 35), .bin .lss true (.t 31) (.t 34), none⟩] [1, 3, 4, 35])
                       (.cond 35
                        (.reg false [] [1, 3, 4])
                        (.seq
                         (.reg false [] [3])
                         (.exit 1))))
                      (.seq
                       (.block 2
                        (.reg false [⟨(some 38), .steal 3, none⟩,
                          ⟨(some 39), .fldB 1 3, none⟩,
                          ⟨(some 40), .loadR 39 1 1 false, none⟩,
                          ⟨(some 41), .mov (.t 4), none⟩,
                          ⟨(some 42), .idxA 5 (.t 40) (.t 41), none⟩,
                          ⟨(some 43), .loadP (.t 42) 5 true, none⟩,
                          ⟨(some 44), .call 10 [(false, (.t 43))], none⟩,
                          ⟨(some 45), .mkSl 1 1 [.nilI] [(0, 1, (.t 44))], none⟩,
                          ⟨(some 46), .app 1 16 (.t 38) (.t 45), none⟩,
                          ⟨(some 3), .steal 46, none⟩] [1, 3, 4]))
                       (.reg false [⟨(some 36), .mov (.t 4), none⟩,
                         ⟨(some 37), .bin .add true (.t 36) (.c (.int .i64 1)), none⟩,
                         ⟨(some 4), .mov (.t 37), none⟩] [1, 3, 4]))))))
                  (.seq
                   (.reg false [⟨(some 47), .mov (.t 3), none⟩,
                     ⟨(some 48), .mkI 57 (.t 47), none⟩,
                     ⟨(some 2), .mov (.t 48), none⟩] [2])
                   .ret)))
                (.seq
                 (.reg false [⟨(some 50), .bin .eql false (.t 9) (.c (.int .u8 5)), none⟩,
                   ⟨(some 49), .mov (.t 50), none⟩] [1, 49])
                 (.cond 49
                  (.seq
                   (.reg false [⟨(some 51), .mkSl 2 0 [] [], none⟩,
                     ⟨(some 5), .steal 51, none⟩] [1, 5])
                   (.seq
                    (.seq
                     (.reg false [⟨(some 6), .mov (.c (.int .i64 0)), none⟩] [1, 5, 6])
                     (.block 3
                      (.loop
                       (.seq
                        (.seq
                         (.reg false [⟨(some 52), .mov (.t 6), none⟩,
                           ⟨(some 53), .fldB 1 3, none⟩,
                           ⟨(some 54), .loadR 53 1 1 false, none⟩,
                           ⟨(some 55), .len false (.t 54), none⟩,
                           ⟨(some 56), .bin .lss true (.t 52) (.t 55), none⟩] [1, 5, 6, 56])
                         (.cond 56
                          (.reg false [] [1, 5, 6])
                          (.seq
                           (.reg false [] [5])
                           (.exit 3))))
                        (.seq
                         (.block 4
                          (.seq
                           (.reg false [⟨(some 59), .fldB 1 3, none⟩,
                             ⟨(some 60), .loadR 59 1 1 false, none⟩,
                             ⟨(some 61), .mov (.t 6), none⟩,
                             ⟨(some 62), .idxA 5 (.t 60) (.t 61), none⟩,
                             ⟨(some 63), .loadP (.t 62) 5 true, none⟩,
                             ⟨(some 64), .call 10 [(false, (.t 63))], none⟩,
                             ⟨(some 65), .build [(.str []), .nilI] [(1, 1, (.t 64))], none⟩,
                             ⟨(some 7), .alloc [(.str []), .nilI], none⟩,
                             ⟨none, .stB 7 2 (.t 65), none⟩] [1, 5, 6, 7])
                           (.seq
                            (.seq
                             (.reg false [⟨(some 66), .mov (.t 6), none⟩,
                               ⟨(some 67), .fldB 1 4, none⟩,
                               ⟨(some 68), .loadR 67 1 1 false, none⟩,
                               ⟨(some 69), .len false (.t 68), none⟩,
                               ⟨(some 70), .bin .lss true (.t 66) (.t 69), none⟩] [1, 5, 6, 7, 70])
                             (.cond 70
                              (.reg false [⟨(some 71), .fldB 1 4, none⟩,
                                ⟨(some 72), .loadR 71 1 1 false, none⟩,
                                ⟨(some 73), .mov (.t 6), none⟩,
                                ⟨(some 74), .idxA 1 (.t 72) (.t 73), none⟩,
                                ⟨(some 75), .loadP (.t 74) 1 false, none⟩,
                                ⟨(some 76), .fldB 7 0, none⟩,
                                ⟨none, .stR 76 7 1 (.t 75), none⟩] [1, 5, 6, 7])
                              (.reg false [] [1, 5, 6, 7])))
                            (.reg false [⟨(some 77), .steal 5, none⟩,
                              ⟨(some 78), .loadB 7 2 true, none⟩,
                              ⟨(some 79), .mkSl 2 1 [(.str []), .nilI] [(0, 2, (.t 78))], none⟩,
                              ⟨(some 80), .app 2 32 (.t 77) (.t 79), none⟩,
                              ⟨(some 5), .steal 80, none⟩] [1, 5, 6]))))
                         (.reg false [⟨(some 57), .mov (.t 6), none⟩,
                           ⟨(some 58), .bin .add true (.t 57) (.c (.int .i64 1)), none⟩,
                           ⟨(some 6), .mov (.t 58), none⟩] [1, 5, 6]))))))
                    (.seq
                     (.reg false [⟨(some 81), .mov (.t 5), none⟩,
                       ⟨(some 82), .mkI 61 (.t 81), none⟩,
                       ⟨(some 2), .mov (.t 82), none⟩] [2])
                     .ret)))
                  (.reg false [] [1])))))))))))))))
    (.seq
     (.reg false [⟨(some 83), .fldB 1 0, none⟩,
       ⟨(some 84), .loadR 83 1 1 false, none⟩,
       ⟨(some 85), .conv true .i64 (.t 84), none⟩,
       ⟨(some 86), .mkI 3 (.t 85), none⟩,
       ⟨(some 2), .mov (.t 86), none⟩] [2])
     .ret)))
def rs10 : List RS := [.tmp 2]
noncomputable def R10 (m : Nat) : Tab := tabAdd T18 10 (fun z : Nd => (z.fine) ∧ z.sz < m) (fun z => [.agg z.av]) (fun z => (own z).av ids)
theorem R10_eq (m : Nat) (x : Nd) (h : x.fine) (hm : x.sz < m) : R10 m 10 [.agg x.av] = some ((own x).av ids) := tabAdd_eq (a := x) (by intro a b h; simp only [List.cons.injEq, AV.agg.injEq, and_true] at h; rw [av_inj _ _ h]) ⟨h, hm⟩ rfl
@[simp] theorem R10_ne {m g : Nat} {xs : List AV} (h : g ≠ 10) : R10 m g xs = T18 g xs := tabAdd_ne h
theorem pf10 (x : Nd) (h : x.fine) : PFx Try.prog 10 [.agg x.av] ((own x).av ids) := by
  refine tabRec (T := T18) (p := fun z : Nd => z.fine) (args := fun z => [.agg z.av]) (res := fun z => (own z).av ids) (fun z => z.sz) T18_ok (fun z h hT => ?_) (by unfold inPlace; omega) x h
  rename Nd => x
  try dsimp only at h
  replace hT : Sound Try.prog (R10 (x.sz)) := hT
  refine PFx_of_W (rc := rc10) (rs := rs10) Try.func10 rfl hT hm (by kernel_rfl) (by kernel_rfl) (by simp [Try.ntmps10]) ?_
  obtain ⟨k, n, s, kids, names⟩ := x
  rw [Nd.fine] at h
  have hk := k.toNat_lt
  simp only [Nd.av]
  rw [own]
  by_cases h0 : k.toNat = 0
  · have h0' : (k.toNat : Int) = 0 := by omega
    simp [rc10, rs10, h0, h0', Vl.av]
  have h0' : ¬ (k.toNat : Int) = 0 := by omega
  by_cases h1 : k.toNat = 1
  · have h1' : (k.toNat : Int) = 1 := by omega
    simp [rc10, rs10, h1, h1', Vl.av]
  have h1' : ¬ (k.toNat : Int) = 1 := by omega
  by_cases h2 : k.toNat = 2
  · have h2' : (k.toNat : Int) = 2 := by omega
    simp [rc10, rs10, h2, h2', Vl.av]
  have h2' : ¬ (k.toNat : Int) = 2 := by omega
  by_cases h3 : k.toNat = 3
  · have h3' : (k.toNat : Int) = 3 := by omega
    simp [rc10, rs10, h3, h3', Vl.av]
  have h3' : ¬ (k.toNat : Int) = 3 := by omega
  by_cases h4 : k.toNat = 4
  · have h4' : (k.toNat : Int) = 4 := by omega
    rw [if_neg h0, if_neg h1, if_neg h2, if_neg h3, if_pos h4]
    simp [rc10, rs10, h0', h1', h2', h3', h4', Vl.av]
    refine W_varU (fun i : Nat => i ≤ kids.length) (fun i => kids.length - i) (fun i => [(3, .row 1 (vls ids (owns (kids.take i))) i), (4, .int .i64 i)]) 0 (Nat.zero_le _) (by simp [owns, vls]) ?_
    intro i hi
    rcases Nat.lt_or_ge i kids.length with hlt | hge
    · have hlt' : (i : Int) < kids.length := by omega
      have q := R10_eq (Nd.sz (.mk k n s kids names)) kids[i] (ndFine_get kids h.2.2 i hlt) (size_kid hlt)
      rw [← avs_get kids i hlt] at q
      have hb : 5 ≤ kids.length * 5 - i * 5 := by omega
      have hl0 : (owns (kids.take i)).length = i := by rw [owns_map]; simp; omega
      have hs : vls ids (owns (kids.take (i + 1))) = vls ids (owns (kids.take i)) ++ [(own kids[i]).av ids] := by
        rw [vls_add, owns_map, owns_map, List.take_succ_eq_append_getElem hlt, List.map_append]; rfl
      generalize own kids[i] = y at q hs
      have fin : ∃ y', y' ≤ kids.length ∧ kids.length - y' < kids.length - i ∧ (vls ids (owns (kids.take i)) ++ [y.av ids] = vls ids (owns (kids.take y')) ∧ i + 1 = y') ∧ (i : Int) + 1 = y' :=
        ⟨i + 1, by omega, by omega, ⟨hs.symm, rfl⟩, by omega⟩
      cases y <;> simp only [Vl.av] at q fin <;> simp [hlt, hlt', hb, q, hl0]
      all_goals exact ⟨⟨by omega, by omega⟩, ⟨by omega, by omega⟩, fin⟩
    · have e : i = kids.length := by omega
      subst e
      have hol : (owns kids).length = kids.length := by rw [owns_map, List.length_map]
      simp [hol]
  have h4' : ¬ (k.toNat : Int) = 4 := by omega
  by_cases h5 : k.toNat = 5
  · have h5' : (k.toNat : Int) = 5 := by omega
    rw [if_neg h0, if_neg h1, if_neg h2, if_neg h3, if_neg h4, if_pos h5]
    simp [rc10, rs10, h0', h1', h2', h3', h4', h5', Vl.av]
    refine W_varU (fun i : Nat => i ≤ kids.length) (fun i => kids.length - i) (fun i => [(5, .row 2 (prs ids (ownP names 0 (kids.take i))) i), (6, .int .i64 i)]) 0 (Nat.zero_le _) (by simp [ownP, prs]) ?_
    intro i hi
    rcases Nat.lt_or_ge i kids.length with hlt | hge
    · have hlt' : (i : Int) < kids.length := by omega
      have q := R10_eq (Nd.sz (.mk k n s kids names)) kids[i] (ndFine_get kids h.2.2 i hlt) (size_kid hlt)
      rw [← avs_get kids i hlt] at q
      have hb : 5 ≤ kids.length * 5 - i * 5 := by omega
      have hl0 : (ownP names 0 (kids.take i)).length = i := by rw [ownP_len]; simp; omega
      have hs : prs ids (ownP names 0 (kids.take (i + 1))) = prs ids (ownP names 0 (kids.take i)) ++ [.str (nm names i), (own kids[i]).av ids] := by
        rw [List.take_succ_eq_append_getElem hlt, ownP_add, prs_add]
        have : (kids.take i).length = i := by simp; omega
        rw [this, Nat.zero_add]
      generalize own kids[i] = y at q hs
      have fin : ∃ y', y' ≤ kids.length ∧ kids.length - y' < kids.length - i ∧ (prs ids (ownP names 0 (kids.take i)) ++ [.str (nm names i), y.av ids] = prs ids (ownP names 0 (kids.take y')) ∧ i + 1 = y') ∧ (i : Int) + 1 = y' :=
        ⟨i + 1, by omega, by omega, ⟨hs.symm, rfl⟩, by omega⟩
      by_cases h6 : i < names.length
      · have h6' : (i : Int) < names.length := by omega
        have e6 : nm names i = names[i] := by simp [nm, List.getD, h6]
        rw [e6] at fin
        cases y <;> simp only [Vl.av] at q fin <;> simp [hlt, hlt', hb, q, hl0, h6, h6', splice]
        all_goals exact ⟨by omega, ⟨by omega, by omega⟩, ⟨by omega, by omega⟩, fin⟩
      · have h6' : ¬ (i : Int) < names.length := by omega
        have e6 : nm names i = [] := by simp [nm, List.getD, h6]
        rw [e6] at fin
        cases y <;> simp only [Vl.av] at q fin <;> simp [hlt, hlt', hb, q, hl0, h6, h6', splice]
        all_goals exact ⟨⟨by omega, by omega⟩, ⟨by omega, by omega⟩, fin⟩
    · have e : i = kids.length := by omega
      subst e
      simp
  have h5' : ¬ (k.toNat : Int) = 5 := by omega
  simp [rc10, rs10, h0, h1, h2, h3, h4, h5, h0', h1', h2', h3', h4', h5', Vl.av]
  omega
noncomputable def T10 : Tab := tabAdd T18 10 (fun z : Nd => z.fine) (fun z => [.agg z.av]) (fun z => (own z).av ids)
@[simp] theorem T10_eq (x : Nd) (h : x.fine) : T10 10 [.agg x.av] = some ((own x).av ids) := tabAdd_eq (a := x) (by intro a b h; simp only [List.cons.injEq, AV.agg.injEq, and_true] at h; rw [av_inj _ _ h]) h rfl
@[simp] theorem T10_ne {g : Nat} {xs : List AV} (h : g ≠ 10) : T10 g xs = T18 g xs := tabAdd_ne h
theorem T10_ok : Sound Try.prog T10 := tabAdd_sound T18_ok fun z h => pf10 z h
end Go.Proofs.Ytbikpgaiocjnoaa

