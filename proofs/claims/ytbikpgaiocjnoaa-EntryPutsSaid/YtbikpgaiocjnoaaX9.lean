/- The laws of entry: values laid and taken; what a value must be. -/
import Derived.Test.YtbikpgaiocjnoaaX8
set_option linter.unusedVariables false
set_option linter.unusedSimpArgs false
namespace Go.Proofs.Ytbikpgaiocjnoaa
open Go.Proofs.Ytbikpgaiocjnoaa.Pad Go.Proofs.Ytbikpgaiocjnoaa.Pad.En
/-- padlock/padlocklaw10.EntryBack -/
def rc6_2 : RC :=
  (.seq
   (.seq
    (.reg false [⟨(some 81), .mov (.t 1), none⟩,
      ⟨(some 82), .call 15 [(false, (.t 81))], none⟩,
      ⟨(some 80), .mov (.t 82), none⟩,
      ⟨(some 83), .ext (.t 80) 0, none⟩,
      ⟨(some 84), .ext (.t 80) 1, none⟩,
      ⟨(some 14), .mov (.t 83), none⟩,
      ⟨(some 15), .mov (.t 84), none⟩] [1, 14, 15])
    (.seq
     (.reg false [⟨(some 85), .mov (.t 15), none⟩,
       ⟨(some 86), .bin .eql true (.t 85) (.c (.int .i64 0)), none⟩] [1, 14, 86])
     (.cond 86
      (.seq
       (.reg false [⟨(some 88), .mov (.t 14), none⟩,
         ⟨(some 89), .call 11 [(false, (.t 88))], none⟩,
         ⟨(some 87), .mov (.t 89), none⟩,
         ⟨(some 90), .ext (.t 87) 0, none⟩,
         ⟨(some 91), .ext (.t 87) 1, none⟩,
         ⟨(some 16), .steal 90, none⟩,
         ⟨(some 17), .mov (.t 91), none⟩] [1, 14, 16, 17])
       (.seq
        (.reg false [⟨(some 92), .mov (.t 17), none⟩,
          ⟨(some 93), .bin .neq true (.t 92) (.c (.int .i64 0)), none⟩,
          ⟨(some 94), .mov (.t 93), none⟩,
          ⟨(some 95), .mov (.t 16), (some (94, false))⟩,
          ⟨(some 96), .b2s (.t 95), (some (94, false))⟩,
          ⟨(some 97), .mov (.t 1), (some (94, false))⟩,
          ⟨(some 98), .bin .neq false (.t 96) (.t 97), (some (94, false))⟩,
          ⟨(some 99), .pick (.t 94) (.c (.bool true)) (.t 98), none⟩,
          ⟨(some 100), .mov (.t 99), none⟩,
          ⟨(some 101), .mov (.t 14), (some (100, false))⟩,
          ⟨(some 102), .call 13 [(false, (.t 101))], (some (100, false))⟩,
          ⟨(some 103), .bin .neq true (.t 102) (.c (.int .i64 0)), (some (100, false))⟩,
          ⟨(some 104), .pick (.t 100) (.c (.bool true)) (.t 103), none⟩] [104])
        (.cond 104
         (.seq
          (.reg false [⟨(some 4), .mov (.c (.bool false)), none⟩] [4])
          .ret)
         (.reg false [] []))))
      (.reg false [] []))))
   (.seq
    (.reg false [⟨(some 105), .call 9 [], none⟩,
      ⟨(some 4), .mov (.t 105), none⟩] [4])
    .ret))
def rc6_1 : RC :=
  (.seq
   (.seq
    (.reg false [⟨(some 29), .mov (.t 5), none⟩,
      ⟨(some 30), .call 11 [(false, (.t 29))], none⟩,
      ⟨(some 28), .mov (.t 30), none⟩,
      ⟨(some 31), .ext (.t 28) 0, none⟩,
      ⟨(some 32), .ext (.t 28) 1, none⟩,
      ⟨(some 6), .steal 31, none⟩,
      ⟨(some 7), .mov (.t 32), none⟩] [1, 5, 6, 7])
    (.seq
     (.reg false [⟨(some 33), .mov (.t 7), none⟩,
       ⟨(some 34), .bin .eql true (.t 33) (.c (.int .i64 0)), none⟩] [1, 5, 6, 34])
     (.cond 34
      (.seq
       (.reg false [⟨(some 36), .mov (.t 6), none⟩,
         ⟨(some 37), .b2s (.t 36), none⟩,
         ⟨(some 38), .call 15 [(false, (.t 37))], none⟩,
         ⟨(some 35), .mov (.t 38), none⟩,
         ⟨(some 39), .ext (.t 35) 0, none⟩,
         ⟨(some 40), .ext (.t 35) 1, none⟩,
         ⟨(some 8), .mov (.t 39), none⟩,
         ⟨(some 9), .mov (.t 40), none⟩] [1, 5, 6, 8, 9])
       (.seq
        (.reg false [⟨(some 42), .mov (.t 6), none⟩,
          ⟨(some 43), .b2s (.t 42), none⟩,
          ⟨(some 44), .bin .add false (.t 43) (.c (.str [0])), none⟩,
          ⟨(some 45), .call 15 [(false, (.t 44))], none⟩,
          ⟨(some 41), .mov (.t 45), none⟩,
          ⟨(some 46), .ext (.t 41) 0, none⟩,
          ⟨(some 47), .ext (.t 41) 1, none⟩,
          ⟨(some 10), .mov (.t 46), none⟩,
          ⟨(some 11), .mov (.t 47), none⟩] [1, 5, 6, 8, 9, 11])
        (.seq
         (.reg false [⟨(some 49), .mov (.t 6), none⟩,
           ⟨(some 50), .mov (.t 6), none⟩,
           ⟨(some 51), .len false (.t 50), none⟩,
           ⟨(some 52), .mm true (.t 51) (.c (.int .i64 1)), none⟩,
           ⟨(some 53), .bin .sub true (.t 52) (.c (.int .i64 1)), none⟩,
           ⟨(some 54), .slsl 1 (.t 49) none (some (.t 53)), none⟩,
           ⟨(some 55), .b2s (.t 54), none⟩,
           ⟨(some 56), .call 15 [(false, (.t 55))], none⟩,
           ⟨(some 48), .mov (.t 56), none⟩,
           ⟨(some 57), .ext (.t 48) 0, none⟩,
           ⟨(some 58), .ext (.t 48) 1, none⟩,
           ⟨(some 12), .mov (.t 57), none⟩,
           ⟨(some 13), .mov (.t 58), none⟩] [1, 5, 6, 8, 9, 11, 13])
         (.seq
          (.reg false [⟨(some 59), .mov (.t 6), none⟩,
            ⟨(some 60), .len false (.t 59), none⟩,
            ⟨(some 61), .bin .eql true (.t 60) (.c (.int .i64 0)), none⟩,
            ⟨(some 62), .mov (.t 61), none⟩,
            ⟨(some 63), .mov (.t 9), (some (62, false))⟩,
            ⟨(some 64), .bin .neq true (.t 63) (.c (.int .i64 0)), (some (62, false))⟩,
            ⟨(some 65), .pick (.t 62) (.c (.bool true)) (.t 64), none⟩,
            ⟨(some 66), .mov (.t 65), none⟩,
            ⟨(some 67), .mov (.t 5), (some (66, false))⟩,
            ⟨(some 68), .mov (.t 8), (some (66, false))⟩,
            ⟨(some 69), .call 23 [(false, (.t 67)), (false, (.t 68))], (some (66, false))⟩,
            ⟨(some 70), .un .not (.t 69), (some (66, false))⟩,
            ⟨(some 71), .pick (.t 66) (.c (.bool true)) (.t 70), none⟩,
            ⟨(some 72), .mov (.t 71), none⟩,
            ⟨(some 73), .mov (.t 11), (some (72, false))⟩,
            ⟨(some 74), .bin .neq true (.t 73) (.c (.int .i64 4)), (some (72, false))⟩,
            ⟨(some 75), .pick (.t 72) (.c (.bool true)) (.t 74), none⟩,
            ⟨(some 76), .mov (.t 75), none⟩,
            ⟨(some 77), .mov (.t 13), (some (76, false))⟩,
            ⟨(some 78), .bin .neq true (.t 77) (.c (.int .i64 3)), (some (76, false))⟩,
            ⟨(some 79), .pick (.t 76) (.c (.bool true)) (.t 78), none⟩] [1, 79])
          (.cond 79
           (.seq
            (.reg false [⟨(some 4), .mov (.c (.bool false)), none⟩] [4])
            .ret)
           (.reg false [] [1]))))))
      (.reg false [] [1]))))
   rc6_2)
def rc6 : RC :=
  (.seq
   (.reg false [⟨(some 2), .box (.t 0), none⟩,
     ⟨(some 4), .mov (.c (.bool false)), none⟩] [1, 2])
   (.seq
    (.seq
     (.reg false [⟨(some 18), .loadB 2 5 true, none⟩,
       ⟨(some 19), .call 8 [(false, (.t 18))], none⟩,
       ⟨(some 20), .mov (.t 19), none⟩,
       ⟨(some 21), .mov (.t 1), (some (20, false))⟩,
       ⟨(some 22), .len true (.t 21), (some (20, false))⟩,
       ⟨(some 23), .bin .gtr true (.t 22) (.c (.int .i64 400)), (some (20, false))⟩,
       ⟨(some 24), .pick (.t 20) (.c (.bool true)) (.t 23), none⟩] [1, 2, 24])
     (.cond 24
      (.seq
       (.reg false [⟨(some 25), .call 9 [], none⟩,
         ⟨(some 4), .mov (.t 25), none⟩] [4])
       .ret)
      (.reg false [] [1, 2])))
    (.seq
     (.reg false [⟨(some 26), .loadB 2 5 true, none⟩,
       ⟨(some 27), .call 10 [(false, (.t 26))], none⟩,
       ⟨(some 5), .mov (.t 27), none⟩] [1, 5])
     rc6_1)))
def rs6 : List RS := [.tmp 4]
/-- padlock/padlocklaw10.EntryMust -/
def rc7_1 : RC :=
  (.seq
   (.seq
    (.reg false [⟨(some 23), .mov (.t 5), none⟩,
      ⟨(some 24), .fldB 1 0, none⟩,
      ⟨(some 25), .loadR 24 1 1 false, none⟩,
      ⟨(some 26), .bin .eql false (.t 25) (.c (.int .u8 3)), none⟩,
      ⟨(some 27), .beq true none (.t 23) (.t 26), none⟩,
      ⟨(some 28), .mov (.t 27), none⟩,
      ⟨(some 29), .mov (.t 7), (some (28, false))⟩,
      ⟨(some 30), .fldB 1 0, (some (28, false))⟩,
      ⟨(some 31), .loadR 30 1 1 false, (some (28, false))⟩,
      ⟨(some 32), .bin .eql false (.t 31) (.c (.int .u8 2)), (some (28, false))⟩,
      ⟨(some 33), .beq true none (.t 29) (.t 32), (some (28, false))⟩,
      ⟨(some 34), .pick (.t 28) (.c (.bool true)) (.t 33), none⟩] [1, 3, 4, 5, 6, 7, 34])
    (.cond 34
     (.seq
      (.reg false [⟨(some 2), .mov (.c (.bool false)), none⟩] [2])
      .ret)
     (.reg false [] [1, 3, 4, 5, 6, 7])))
   (.seq
    (.seq
     (.reg false [⟨(some 35), .mov (.t 5), none⟩,
       ⟨(some 36), .mov (.t 35), none⟩,
       ⟨(some 37), .mov (.t 3), (some (36, true))⟩,
       ⟨(some 38), .call 24 [(false, (.t 37))], (some (36, true))⟩,
       ⟨(some 39), .mov (.t 4), (some (36, true))⟩,
       ⟨(some 40), .bin .neq false (.t 38) (.t 39), (some (36, true))⟩,
       ⟨(some 41), .mov (.t 40), (some (36, true))⟩,
       ⟨(some 42), .mov (.t 4), (some (41, false))⟩,
       ⟨(some 43), .fldB 1 2, (some (41, false))⟩,
       ⟨(some 44), .loadR 43 1 1 false, (some (41, false))⟩,
       ⟨(some 45), .bin .neq false (.t 42) (.t 44), (some (41, false))⟩,
       ⟨(some 46), .pick (.t 41) (.c (.bool true)) (.t 45), (some (36, true))⟩,
       ⟨(some 47), .pick (.t 36) (.t 46) (.c (.bool false)), none⟩,
       ⟨(some 48), .mov (.t 47), none⟩,
       ⟨(some 49), .mov (.t 7), (some (48, false))⟩,
       ⟨(some 50), .mov (.t 49), (some (48, false))⟩,
       ⟨(some 51), .mov (.t 3), (some (50, true))⟩,
       ⟨(some 52), .call 25 [(false, (.t 51))], (some (50, true))⟩,
       ⟨(some 53), .mov (.t 6), (some (50, true))⟩,
       ⟨(some 54), .bin .neq false (.t 52) (.t 53), (some (50, true))⟩,
       ⟨(some 55), .mov (.t 54), (some (50, true))⟩,
       ⟨(some 56), .mov (.t 6), (some (55, false))⟩,
       ⟨(some 57), .fldB 1 1, (some (55, false))⟩,
       ⟨(some 58), .loadR 57 1 1 false, (some (55, false))⟩,
       ⟨(some 59), .bin .neq false (.t 56) (.t 58), (some (55, false))⟩,
       ⟨(some 60), .pick (.t 55) (.c (.bool true)) (.t 59), (some (50, true))⟩,
       ⟨(some 61), .pick (.t 50) (.t 60) (.c (.bool false)), (some (48, false))⟩,
       ⟨(some 62), .pick (.t 48) (.c (.bool true)) (.t 61), none⟩] [62])
     (.cond 62
      (.seq
       (.reg false [⟨(some 2), .mov (.c (.bool false)), none⟩] [2])
       .ret)
      (.reg false [] [])))
    (.seq
     (.reg false [⟨(some 63), .call 9 [], none⟩,
       ⟨(some 2), .mov (.t 63), none⟩] [2])
     .ret)))
def rc7 : RC :=
  (.seq
   (.reg false [⟨(some 1), .box (.t 0), none⟩,
     ⟨(some 2), .mov (.c (.bool false)), none⟩] [1])
   (.seq
    (.seq
     (.reg false [⟨(some 8), .loadB 1 5 true, none⟩,
       ⟨(some 9), .call 8 [(false, (.t 8))], none⟩] [1, 9])
     (.cond 9
      (.seq
       (.reg false [⟨(some 10), .call 9 [], none⟩,
         ⟨(some 2), .mov (.t 10), none⟩] [2])
       .ret)
      (.reg false [] [1])))
    (.seq
     (.reg false [⟨(some 11), .loadB 1 5 true, none⟩,
       ⟨(some 12), .call 10 [(false, (.t 11))], none⟩,
       ⟨(some 3), .mov (.t 12), none⟩] [1, 3])
     (.seq
      (.reg false [⟨(some 14), .mov (.t 3), none⟩,
        ⟨(some 15), .call 19 [(false, (.t 14))], none⟩,
        ⟨(some 13), .mov (.t 15), none⟩,
        ⟨(some 16), .ext (.t 13) 0, none⟩,
        ⟨(some 17), .ext (.t 13) 1, none⟩,
        ⟨(some 4), .mov (.t 16), none⟩,
        ⟨(some 5), .mov (.t 17), none⟩] [1, 3, 4, 5])
      (.seq
       (.reg false [⟨(some 19), .mov (.t 3), none⟩,
         ⟨(some 20), .call 20 [(false, (.t 19))], none⟩,
         ⟨(some 18), .mov (.t 20), none⟩,
         ⟨(some 21), .ext (.t 18) 0, none⟩,
         ⟨(some 22), .ext (.t 18) 1, none⟩,
         ⟨(some 6), .mov (.t 21), none⟩,
         ⟨(some 7), .mov (.t 22), none⟩] [1, 3, 4, 5, 6, 7])
       rc7_1)))))
def rs7 : List RS := [.tmp 2]
theorem byte_take (l : Tx) (n : Nat) : ((bytesAV l).take n).map AV.byte = l.take n := by
  rw [List.map_take, bytesAV_back]
theorem back2 (s : Tx) (h : s.length ≤ 400) : W T5 rc6_2 (Qt rs6 (.bool true)) [⟨1, .str s, True, false⟩] := by
  have e1 := T15_eq s (by omega)
  have hs := tk_small (s := s) (by omega)
  have e2 := T11_eq (tkV s) hs
  have e3 := T13_eq (tkV s) hs.1
  by_cases he : tkE s = 0
  · obtain ⟨h1, h2, h3⟩ := tk_dec he
    have hv : tkV s = own (tkN s) := by unfold tkV; rw [if_pos he]
    have fV := isI_own (tkV s)
    rw [hv, putB_own, chk_own, if_pos h1, h1, h3] at e2
    rw [hv, chk_own, h1] at e3
    rw [he, hv] at e1
    rw [hv] at fV
    generalize (own (tkN s)).av ids = V at e1 e2 e3 fV
    rcases fV with ⟨u, z, rfl⟩ | rfl <;> simp [rc6_2, rs6, e1, e2, e3]
  · have fV := isI_own (tkV s)
    generalize (tkV s).av ids = V at e1 e2 e3 fV
    rcases fV with ⟨u, z, rfl⟩ | rfl <;> simp [rc6_2, rs6, e1, he]
theorem back1 (x : Nd) (ht : tooMuch x = false) (s : Tx) (next : W T5 rc6_2 (Qt rs6 (.bool true)) [⟨1, .str s, True, false⟩]) :
    W T5 rc6_1 (Qt rs6 (.bool true)) [⟨1, .str s, True, false⟩, ⟨5, (own x).av ids, True, false⟩] := by
  obtain ⟨hs, hf⟩ := much ht
  have hlen := own_len x (by unfold tooMuch at ht; simp at ht; exact ht)
  have e1 := T11_eq (own x) hs
  rw [putB_own, chk_own] at e1
  have fU := isI_own (own x)
  by_cases hc : chk 0 x = 0
  · obtain ⟨k1, k2⟩ := tk_enc hc
    have hp := enc_pos x
    have e2 := T15_eq (encN x) (by omega)
    have e3 := T15_eq (encN x ++ [0]) (by simp; omega)
    have e4 := T15_eq ((encN x).take ((encN x).length - 1)) (by simp; omega)
    have v3 : tkV (encN x ++ [0]) = .nil := by unfold tkV; rw [if_neg (by rw [tk_more hc]; decide)]
    have v4 : tkV ((encN x).take ((encN x).length - 1)) = .nil := by unfold tkV; rw [if_neg (by rw [tk_less hc _ (by omega)]; decide)]
    rw [k1] at e2
    rw [tk_more hc, v3] at e3
    rw [tk_less hc _ (by omega), v4] at e4
    rw [if_pos hc, hc] at e1
    have hw := tk_small (s := encN x) (by omega)
    have e5 := T23_eq (own x) (tkV (encN x)) ⟨hs, hw⟩
    have v2 : tkV (encN x) = own (nz x) := by unfold tkV; rw [if_pos k1, k2]
    have sm : sameV (own x) (own (nz x)) = true := by
      rw [sameV_own, (same_iff hc (by rw [chk_nz]; exact hc)).2 (enc_nz x 0 hc).symm, chk_nz, hc]; rfl
    rw [v2, sm] at e5
    rw [v2] at e2
    have fV := isI_own (own (nz x))
    simp only [Vl.av] at e3 e4
    generalize (own x).av ids = U at e1 e5 fU ⊢
    generalize (own (nz x)).av ids = V at e2 e5 fV
    generalize encN x = l at e1 e2 e3 e4 hp hlen
    have q0 : ¬ (l.length : Int) < 1 := by omega
    have q1 : (l.length : Int) - 1 = ((l.length - 1 : Nat) : Int) := by omega
    have q2 : l.length ≤ 9223372036854775806 := by omega
    have q3 : ((l.length - 1 : Nat) : Int) ≤ (l.length : Int) := by omega
    have q4 : ((l.length - 1 : Nat) : Int) ≤ 9223372036854775807 := by omega
    have q5 : ¬ l.length = 0 := by omega
    have q6 : ¬ l = [] := fun h => by subst h; simp at hp
    have q7 : (∀ y, y ∈ List.take (l.length - 1) (bytesAV l) → y.isU8) = True := eq_true fun y hy => bytesAV_u8 l y (List.mem_of_mem_take hy)
    rcases fU with ⟨u, z, rfl⟩ | rfl <;> rcases fV with ⟨u', z', rfl⟩ | rfl <;>
    simp [rc6_1, e1, e2, e3, e4, e5, q0, q1, q2, q3, q4, q5, q6, q7, byte_take, next]
  · have hc' : ¬ (chk 0 x : Int) = 0 := by omega
    rw [if_neg hc] at e1
    generalize (own x).av ids = U at e1 fU ⊢
    rcases fU with ⟨u, z, rfl⟩ | rfl <;> simp [rc6_1, e1, hc, hc', next]
theorem pf6 (x : Nd) (s : Tx)  : PFx Try.prog 6 [.agg x.av, .str s] (.bool true) := by
  refine PFx_of_W (rc := rc6) (rs := rs6) Try.func6 rfl T5_ok hm (by kernel_rfl) (by kernel_rfl) (by simp [Try.ntmps6]) ?_
  have e0 := T8_eq x
  cases ht : tooMuch x
  · rw [ht] at e0
    by_cases hl : (400 : Int) < s.length
    · obtain ⟨k, n, w, kids, names⟩ := x
      simp only [Nd.av] at e0 ⊢
      simp [rc6, rs6, e0, hl]
    · have n1 := back1 x ht s (back2 s (by omega))
      obtain ⟨hs, hf⟩ := much ht
      have e1 := T10_eq x hf
      have fU := isI_own (own x)
      generalize (own x).av ids = U at e1 n1 fU
      obtain ⟨k, n, w, kids, names⟩ := x
      simp only [Nd.av] at e0 e1 ⊢
      show W _ _ (Qt rs6 (.bool true)) _
      rcases fU with ⟨u, z, rfl⟩ | rfl <;> simp [rc6, e0, e1, hl, n1]
  · rw [ht] at e0
    obtain ⟨k, n, w, kids, names⟩ := x
    simp only [Nd.av] at e0 ⊢
    simp [rc6, rs6, e0]
noncomputable def T6 : Tab := tabAdd T5 6 (fun _ : Nd × Tx => True) (fun z => [.agg z.1.av, .str z.2]) (fun _ => .bool true)
@[simp] theorem T6_eq (x : Nd) (s : Tx)  : T6 6 [.agg x.av, .str s] = some (.bool true) := tabAdd_eq (a := (x, s)) (by intro a b _; rfl) trivial rfl
@[simp] theorem T6_ne {g : Nat} {xs : List AV} (h : g ≠ 6) : T6 g xs = T5 g xs := tabAdd_ne h
theorem T6_ok : Sound Try.prog T6 := tabAdd_sound T5_ok fun z _ => pf6 z.1 z.2 
set_option maxHeartbeats 2000000 in
theorem pf7 (x : Nd)  : PFx Try.prog 7 [.agg x.av] (.bool true) := by
  refine PFx_of_W (rc := rc7) (rs := rs7) Try.func7 rfl T6_ok hm (by kernel_rfl) (by kernel_rfl) (by simp [Try.ntmps7]) ?_
  have e0 := T8_eq x
  cases ht : tooMuch x
  · rw [ht] at e0
    obtain ⟨hs, hf⟩ := much ht
    have e1 := T10_eq x hf
    have e2 := T19_eq (own x)
    have e3 := T20_eq (own x)
    obtain ⟨k, n, w, kids, names⟩ := x
    obtain ⟨o1, o2⟩ := own_str (k := k) (n := n) (s := w) (kids := kids) (names := names)
    obtain ⟨o3, o4⟩ := own_num (k := k) (n := n) (s := w) (kids := kids) (names := names)
    rw [o1, o2] at e2
    rw [o3, o4] at e3
    simp only [Nd.av] at e0 e1 ⊢
    have z0 : bv 0#64 = 0 := rfl
    rcases (show k.toNat = 3 ∨ k.toNat = 2 ∨ (k.toNat ≠ 3 ∧ k.toNat ≠ 2) by omega) with c | c | ⟨c, c'⟩
    · have d3 : (k.toNat : Int) = 3 := by omega
      have c2 : ¬ k.toNat = 2 := by omega
      have hO : own (.mk k n w kids names) = .str w := by simp [own, c]
      have hU : (Vl.str w).av ids = .ifc 9 (.str w) := rfl
      rw [hO, hU] at e1 e2 e3
      rw [if_pos c, decide_eq_true c] at e2
      rw [if_neg c2, decide_eq_false c2, z0] at e3
      have e4 := T24_eq w
      rw [d3] at e0 e1 ⊢
      simp [rc7, rc7_1, rs7, e0, e1, e2, e3, e4]
    · have d2 : (k.toNat : Int) = 2 := by omega
      have c3 : ¬ k.toNat = 3 := by omega
      have hO : own (.mk k n w kids names) = .num n := by simp [own, c]
      have hU : (Vl.num n).av ids = .ifc 22 (.int .u64 (bv n)) := rfl
      rw [hO, hU] at e1 e2 e3
      rw [if_neg c3, decide_eq_false c3] at e2
      rw [if_pos c, decide_eq_true c] at e3
      have e4 := T25_eq n
      rw [d2] at e0 e1 ⊢
      simp [rc7, rc7_1, rs7, e0, e1, e2, e3, e4]
    · have d3 : ¬ (k.toNat : Int) = 3 := by omega
      have d2 : ¬ (k.toNat : Int) = 2 := by omega
      rw [if_neg c, decide_eq_false c] at e2
      rw [if_neg c', decide_eq_false c', z0] at e3
      have fU := isI_own (own (.mk k n w kids names))
      generalize (own (.mk k n w kids names)).av ids = U at e1 e2 e3 fU
      rcases fU with ⟨u, z, rfl⟩ | rfl <;>
      simp [rc7, rc7_1, rs7, e0, e1, e2, e3, d2, d3]
  · rw [ht] at e0
    obtain ⟨k, n, w, kids, names⟩ := x
    simp only [Nd.av] at e0 ⊢
    simp [rc7, rs7, e0]
noncomputable def T7 : Tab := tabAdd T6 7 (fun _ : Nd => True) (fun z => [.agg z.av]) (fun _ => .bool true)
@[simp] theorem T7_eq (x : Nd)  : T7 7 [.agg x.av] = some (.bool true) := tabAdd_eq (a := x) (nd_inj1 (f := fun _ => AV.bool true)) trivial rfl
@[simp] theorem T7_ne {g : Nat} {xs : List AV} (h : g ≠ 7) : T7 g xs = T6 g xs := tabAdd_ne h
theorem T7_ok : Sound Try.prog T7 := tabAdd_sound T6_ok fun z _ => pf7 z 
end Go.Proofs.Ytbikpgaiocjnoaa

