/- gf, of the document. -/
import Derived.Test.YtlihfdbfcklkmaaB0
import Derived.Test.YtlihfdbfcklkmaaGN
set_option linter.unusedVariables false
set_option linter.unusedSimpArgs false
namespace Go.Proofs.Ytlihfdbfcklkmaa
open Go.Proofs.Ytlihfdbfcklkmaa.Pad Go.Proofs.Ytlihfdbfcklkmaa.Pad.Gf
/-- padlock/padlockref06.Mul -/
def rc33 : RC :=
  (.seq
   (.reg false [⟨(some 4), .mov (.c (.int .u8 0)), none⟩] [0, 1])
   (.seq
    (.reg false [⟨(some 9), .mov (.t 0), none⟩,
      ⟨(some 10), .conv true .i64 (.t 9), none⟩,
      ⟨(some 11), .mov (.t 1), none⟩,
      ⟨(some 12), .conv true .i64 (.t 11), none⟩,
      ⟨(some 5), .mov (.c (.int .i64 0)), none⟩,
      ⟨(some 6), .mov (.t 10), none⟩,
      ⟨(some 7), .mov (.t 12), none⟩] [5, 6, 7])
    (.seq
     (.seq
      (.reg false [⟨(some 8), .mov (.c (.int .i64 0)), none⟩] [5, 6, 7, 8])
      (.block 0
       (.loop
        (.seq
         (.seq
          (.reg false [⟨(some 13), .mov (.t 8), none⟩,
            ⟨(some 14), .bin .lss true (.t 13) (.c (.int .i64 8)), none⟩] [5, 6, 7, 8, 14])
          (.cond 14
           (.reg false [] [5, 6, 7, 8])
           (.seq
            (.reg false [] [5])
            (.exit 0))))
         (.seq
          (.block 1
           (.seq
            (.seq
             (.reg false [⟨(some 17), .mov (.t 7), none⟩,
               ⟨(some 18), .bin .rem true (.t 17) (.c (.int .i64 2)), none⟩,
               ⟨(some 19), .bin .eql true (.t 18) (.c (.int .i64 1)), none⟩] [5, 6, 7, 8, 19])
             (.cond 19
              (.reg false [⟨(some 20), .mov (.t 5), none⟩,
                ⟨(some 21), .mov (.t 6), none⟩,
                ⟨(some 22), .bin .xor true (.t 20) (.t 21), none⟩,
                ⟨(some 5), .mov (.t 22), none⟩] [5, 6, 7, 8])
              (.reg false [] [5, 6, 7, 8])))
            (.seq
             (.reg false [⟨(some 23), .mov (.t 7), none⟩,
               ⟨(some 24), .bin .quo true (.t 23) (.c (.int .i64 2)), none⟩,
               ⟨(some 7), .mov (.t 24), none⟩] [5, 6, 7, 8])
             (.seq
              (.reg false [⟨(some 25), .mov (.t 6), none⟩,
                ⟨(some 26), .bin .mul true (.c (.int .i64 2)) (.t 25), none⟩,
                ⟨(some 6), .mov (.t 26), none⟩] [5, 6, 7, 8])
              (.seq
               (.reg false [⟨(some 27), .mov (.t 6), none⟩,
                 ⟨(some 28), .bin .gtr true (.t 27) (.c (.int .i64 255)), none⟩] [5, 6, 7, 8, 28])
               (.cond 28
                (.reg false [⟨(some 29), .mov (.t 6), none⟩,
                  ⟨(some 30), .bin .xor true (.t 29) (.c (.int .i64 283)), none⟩,
                  ⟨(some 6), .mov (.t 30), none⟩] [5, 6, 7, 8])
                (.reg false [] [5, 6, 7, 8])))))))
          (.reg false [⟨(some 15), .mov (.t 8), none⟩,
            ⟨(some 16), .bin .add true (.t 15) (.c (.int .i64 1)), none⟩,
            ⟨(some 8), .mov (.t 16), none⟩] [5, 6, 7, 8]))))))
     (.seq
      (.reg false [⟨(some 31), .mov (.t 5), none⟩,
        ⟨(some 32), .conv false .u8 (.t 31), none⟩,
        ⟨(some 4), .mov (.t 32), none⟩] [4])
      .ret))))
def rs33 : List RS := [.tmp 4]
/-- padlock/padlockref06.Inv -/
def rc44 : RC :=
  (.seq
   (.reg false [⟨(some 2), .mov (.c (.int .u8 0)), none⟩] [0])
   (.seq
    (.seq
     (.reg false [⟨(some 7), .mov (.t 0), none⟩,
       ⟨(some 8), .bin .eql false (.t 7) (.c (.int .u8 0)), none⟩] [0, 8])
     (.cond 8
      (.seq
       (.reg false [⟨(some 2), .mov (.c (.int .u8 0)), none⟩] [2])
       .ret)
      (.reg false [] [0])))
    (.seq
     (.reg false [⟨(some 3), .mov (.c (.int .i64 0)), none⟩,
       ⟨(some 4), .mov (.c (.int .u8 1)), none⟩] [0, 3, 4])
     (.seq
      (.block 0
       (.loop
        (.seq
         (.seq
          (.reg false [⟨(some 9), .mov (.t 4), none⟩,
            ⟨(some 10), .mov (.t 0), none⟩,
            ⟨(some 11), .bin .neq false (.t 9) (.t 10), none⟩,
            ⟨(some 12), .mov (.t 11), none⟩,
            ⟨(some 13), .mov (.t 3), (some (12, true))⟩,
            ⟨(some 14), .bin .lss true (.t 13) (.c (.int .i64 255)), (some (12, true))⟩,
            ⟨(some 15), .pick (.t 12) (.t 14) (.c (.bool false)), none⟩] [0, 3, 4, 15])
          (.cond 15
           (.reg false [] [0, 3, 4])
           (.seq
            (.reg false [] [3])
            (.exit 0))))
         (.block 1
          (.seq
           (.reg false [⟨(some 16), .mov (.t 4), none⟩,
             ⟨(some 17), .call 33 [(false, (.c (.int .u8 3))), (false, (.t 16))], none⟩,
             ⟨(some 4), .mov (.t 17), none⟩] [0, 3, 4])
           (.reg false [⟨(some 18), .mov (.t 3), none⟩,
             ⟨(some 19), .bin .add true (.t 18) (.c (.int .i64 1)), none⟩,
             ⟨(some 3), .mov (.t 19), none⟩] [0, 3, 4]))))))
      (.seq
       (.reg false [⟨(some 5), .mov (.c (.int .u8 1)), none⟩] [3, 5])
       (.seq
        (.seq
         (.reg false [⟨(some 20), .mov (.t 3), none⟩,
           ⟨(some 6), .mov (.t 20), none⟩] [5, 6])
         (.block 2
          (.loop
           (.seq
            (.seq
             (.reg false [⟨(some 21), .mov (.t 6), none⟩,
               ⟨(some 22), .bin .lss true (.t 21) (.c (.int .i64 255)), none⟩] [5, 6, 22])
             (.cond 22
              (.reg false [] [5, 6])
              (.seq
               (.reg false [] [5])
               (.exit 2))))
            (.seq
             (.block 3
              (.reg false [⟨(some 25), .mov (.t 5), none⟩,
                ⟨(some 26), .call 33 [(false, (.c (.int .u8 3))), (false, (.t 25))], none⟩,
                ⟨(some 5), .mov (.t 26), none⟩] [5, 6]))
             (.reg false [⟨(some 23), .mov (.t 6), none⟩,
               ⟨(some 24), .bin .add true (.t 23) (.c (.int .i64 1)), none⟩,
               ⟨(some 6), .mov (.t 24), none⟩] [5, 6]))))))
        (.seq
         (.reg false [⟨(some 27), .mov (.t 5), none⟩,
           ⟨(some 2), .mov (.t 27), none⟩] [2])
         .ret)))))))
def rs44 : List RS := [.tmp 2]
/-- padlock/padlockref06.turn -/
def rc45 : RC :=
  (.seq
   (.reg false [⟨(some 4), .mov (.c (.int .i64 0)), none⟩] [0, 1])
   (.seq
    (.reg false [⟨(some 7), .mov (.t 0), none⟩,
      ⟨(some 8), .conv true .i64 (.t 7), none⟩,
      ⟨(some 5), .mov (.t 8), none⟩] [1, 5])
    (.seq
     (.seq
      (.reg false [⟨(some 6), .mov (.c (.int .i64 0)), none⟩] [1, 5, 6])
      (.block 0
       (.loop
        (.seq
         (.seq
          (.reg false [⟨(some 9), .mov (.t 6), none⟩,
            ⟨(some 10), .mov (.t 1), none⟩,
            ⟨(some 11), .bin .lss true (.t 9) (.t 10), none⟩] [1, 5, 6, 11])
          (.cond 11
           (.reg false [] [1, 5, 6])
           (.seq
            (.reg false [] [5])
            (.exit 0))))
         (.seq
          (.block 1
           (.reg false [⟨(some 14), .mov (.t 5), none⟩,
             ⟨(some 15), .bin .mul true (.c (.int .i64 2)) (.t 14), none⟩,
             ⟨(some 16), .bin .rem true (.t 15) (.c (.int .i64 256)), none⟩,
             ⟨(some 17), .mov (.t 5), none⟩,
             ⟨(some 18), .bin .quo true (.t 17) (.c (.int .i64 128)), none⟩,
             ⟨(some 19), .bin .add true (.t 16) (.t 18), none⟩,
             ⟨(some 5), .mov (.t 19), none⟩] [1, 5, 6]))
          (.reg false [⟨(some 12), .mov (.t 6), none⟩,
            ⟨(some 13), .bin .add true (.t 12) (.c (.int .i64 1)), none⟩,
            ⟨(some 6), .mov (.t 13), none⟩] [1, 5, 6]))))))
     (.seq
      (.reg false [⟨(some 20), .mov (.t 5), none⟩,
        ⟨(some 4), .mov (.t 20), none⟩] [4])
      .ret))))
def rs45 : List RS := [.tmp 4]
/-- padlock/padlockref06.Box -/
def rc32 : RC :=
  (.seq
   (.reg false [⟨(some 2), .mov (.c (.int .u8 0)), none⟩] [0])
   (.seq
    (.reg false [⟨(some 6), .mov (.t 0), none⟩,
      ⟨(some 7), .call 44 [(false, (.t 6))], none⟩,
      ⟨(some 3), .mov (.t 7), none⟩] [3])
    (.seq
     (.reg false [⟨(some 4), .mov (.c (.int .i64 99)), none⟩] [3, 4])
     (.seq
      (.seq
       (.reg false [⟨(some 5), .mov (.c (.int .i64 0)), none⟩] [3, 4, 5])
       (.block 0
        (.loop
         (.seq
          (.seq
           (.reg false [⟨(some 8), .mov (.t 5), none⟩,
             ⟨(some 9), .bin .lss true (.t 8) (.c (.int .i64 5)), none⟩] [3, 4, 5, 9])
           (.cond 9
            (.reg false [] [3, 4, 5])
            (.seq
             (.reg false [] [4])
             (.exit 0))))
          (.seq
           (.block 1
            (.reg false [⟨(some 12), .mov (.t 4), none⟩,
              ⟨(some 13), .mov (.t 3), none⟩,
              ⟨(some 14), .mov (.t 5), none⟩,
              ⟨(some 15), .call 45 [(false, (.t 13)), (false, (.t 14))], none⟩,
              ⟨(some 16), .bin .xor true (.t 12) (.t 15), none⟩,
              ⟨(some 4), .mov (.t 16), none⟩] [3, 4, 5]))
           (.reg false [⟨(some 10), .mov (.t 5), none⟩,
             ⟨(some 11), .bin .add true (.t 10) (.c (.int .i64 1)), none⟩,
             ⟨(some 5), .mov (.t 11), none⟩] [3, 4, 5]))))))
      (.seq
       (.reg false [⟨(some 17), .mov (.t 4), none⟩,
         ⟨(some 18), .conv false .u8 (.t 17), none⟩,
         ⟨(some 2), .mov (.t 18), none⟩] [2])
       .ret)))))
def rs32 : List RS := [.tmp 2]
/-- padlock/padlockref06.Mix -/
def rc46 : RC :=
  (.seq
   (.reg false [⟨(some 1), .box (.t 0), none⟩,
     ⟨(some 2), .alloc [(.int .u8 0), (.int .u8 0), (.int .u8 0), (.int .u8 0)], none⟩] [1, 2])
   (.seq
    (.reg false [⟨(some 3), .alloc [(.int .u8 0), (.int .u8 0), (.int .u8 0), (.int .u8 0)], none⟩] [1, 2, 3])
    (.seq
     (.seq
      (.reg false [⟨(some 4), .mov (.c (.int .i64 0)), none⟩] [1, 2, 3, 4])
      (.block 0
       (.loop
        (.seq
         (.seq
          (.reg false [⟨(some 5), .mov (.t 4), none⟩,
            ⟨(some 6), .bin .lss true (.t 5) (.c (.int .i64 4)), none⟩] [1, 2, 3, 4, 6])
          (.cond 6
           (.reg false [] [1, 2, 3, 4])
           (.seq
            (.reg false [] [2, 3])
            (.exit 0))))
         (.seq
          (.block 1
           (.reg true [⟨(some 9), .mov (.t 4), none⟩,
             ⟨(some 10), .mov (.t 4), none⟩,
             ⟨(some 11), .idxB 1 1 4 (.t 10), none⟩,
             ⟨(some 12), .loadR 11 1 1 false, none⟩,
             ⟨(some 13), .call 33 [(false, (.c (.int .u8 2))), (false, (.t 12))], none⟩,
             ⟨(some 14), .mov (.t 4), none⟩,
             ⟨(some 15), .bin .add true (.t 14) (.c (.int .i64 1)), none⟩,
             ⟨(some 16), .bin .rem true (.t 15) (.c (.int .i64 4)), none⟩,
             ⟨(some 17), .idxB 1 1 4 (.t 16), none⟩,
             ⟨(some 18), .loadR 17 1 1 false, none⟩,
             ⟨(some 19), .call 33 [(false, (.c (.int .u8 3))), (false, (.t 18))], none⟩,
             ⟨(some 20), .bin .xor false (.t 13) (.t 19), none⟩,
             ⟨(some 21), .mov (.t 4), none⟩,
             ⟨(some 22), .bin .add true (.t 21) (.c (.int .i64 2)), none⟩,
             ⟨(some 23), .bin .rem true (.t 22) (.c (.int .i64 4)), none⟩,
             ⟨(some 24), .idxB 1 1 4 (.t 23), none⟩,
             ⟨(some 25), .loadR 24 1 1 false, none⟩,
             ⟨(some 26), .bin .xor false (.t 20) (.t 25), none⟩,
             ⟨(some 27), .mov (.t 4), none⟩,
             ⟨(some 28), .bin .add true (.t 27) (.c (.int .i64 3)), none⟩,
             ⟨(some 29), .bin .rem true (.t 28) (.c (.int .i64 4)), none⟩,
             ⟨(some 30), .idxB 1 1 4 (.t 29), none⟩,
             ⟨(some 31), .loadR 30 1 1 false, none⟩,
             ⟨(some 32), .bin .xor false (.t 26) (.t 31), none⟩,
             ⟨(some 33), .idxB 3 1 4 (.t 9), none⟩,
             ⟨none, .stR 33 3 1 (.t 32), none⟩] [1, 2, 3, 4]))
          (.reg false [⟨(some 7), .mov (.t 4), none⟩,
            ⟨(some 8), .bin .add true (.t 7) (.c (.int .i64 1)), none⟩,
            ⟨(some 4), .mov (.t 8), none⟩] [1, 2, 3, 4]))))))
     (.seq
      (.reg false [⟨(some 34), .loadB 3 4 true, none⟩,
        ⟨none, .stB 2 4 (.t 34), none⟩] [2])
      .ret))))
def rs46 : List RS := [.cell 2 4 true]
theorem mulK_lt (a b : B) (k : Nat) : 0 ≤ bv (mulK a b k) ∧ bv (mulK a b k) < 256 := b_lt _
theorem two_bv (x : B) : (2 : Int) * bv x = ((2 * x.toNat : Nat) : Int) := by unfold bv; omega
theorem pf33 (a : B) (b : B)  : PFx Try.prog 33 [.int .u8 (bv a), .int .u8 (bv b)] (.int .u8 (bv (mul a b))) := by
  refine PFx_of_W (rc := rc33) (rs := rs33) Try.func33 rfl tabNil_sound hm (by kernel_rfl) (by kernel_rfl) (by simp [Try.ntmps33]) ?_
  have ha := b_lt a; have hb := b_lt b
  simp [rc33, rs33]
  refine ⟨by omega, by omega, ?_⟩
  refine W_forU 8 (fun _ => True) (fun k => [(5, .int .i64 (bv (mulK a b k))), (6, .int .i64 (bv (dbls k a))), (7, .int .i64 (sh b k : Nat)), (8, .int .i64 k)]) trivial (by simp [mulK, dbls, sh_0, bv]) (fun k hk _ => ?_) fun _ => ?_
  · have h8 : (k : Int) < 8 := by omega
    have hd := b_lt (dbls k a)
    have hd2 := b_lt (dbls (k + 1) a)
    have h1 := sh_lt b k
    have h3 := sh_lt b (k + 1)
    have h4 := sh_two b k
    have hx : bits .xor .i64 (bv (mulK a b k)) (bv (dbls k a)) = bv (mulK a b k ^^^ dbls k a) := bv_xor_i _ _ (by decide)
    have h2 := sh_bit b k
    have hm : 0 ≤ ((sh b k : Nat) : Int).tmod 2 := Int.tmod_nonneg _ (Int.natCast_nonneg _)
    cases h7 : (dbls k a).getLsbD 7
    · obtain ⟨q1, q2⟩ := dbl_lo _ h7
      have q3 : ¬ (255 : Int) < bv (dbls (k + 1) a) := by omega
      have q4 : (2 : Int) * bv (dbls k a) = bv (dbls (k + 1) a) := by rw [two_bv, q1]; rfl
      cases hbit : b.getLsbD k
      · simp [h8, h2, hbit, q3, q4, mulK, h4]
        omega
      · simp [h8, h2, hbit, q3, q4, mulK, h4, hx]
        omega
    · obtain ⟨q1, q2⟩ := dbl_hi _ h7
      have q3 : (255 : Int) < 2 * bv (dbls k a) := by unfold bv; omega
      have q4 : bits .xor .i64 (2 * bv (dbls k a)) 283 = bv (dbls (k + 1) a) := by
        rw [two_bv, show (283 : Int) = ((283 : Nat) : Int) from rfl, i64_xor_nat _ _ (by have := (dbls k a).isLt; omega) (by decide), q1]; rfl
      cases hbit : b.getLsbD k
      · simp [h8, h2, hbit, q3, q4, mulK, h4]
        omega
      · simp [h8, h2, hbit, q3, q4, mulK, h4, hx]
        omega
  · simp [mul, wrap8]
noncomputable def T33 : Tab := tabAdd tabNil 33 (fun _ : B × B => True) (fun z => [.int .u8 (bv z.1), .int .u8 (bv z.2)]) (fun z => .int .u8 (bv (mul z.1 z.2)))
@[simp] theorem T33_eq (a : B) (b : B)  : T33 33 [.int .u8 (bv a), .int .u8 (bv b)] = some (.int .u8 (bv (mul a b))) := tabAdd_eq (a := (a, b)) (by simp +contextual [Int.natCast_inj]) trivial rfl
@[simp] theorem T33_ne {g : Nat} {xs : List AV} (h : g ≠ 33) : T33 g xs = tabNil g xs := tabAdd_ne h
theorem T33_ok : Sound Try.prog T33 := tabAdd_sound tabNil_sound fun z _ => pf33 z.1 z.2 
theorem three (n : Nat) : mul 3#8 (pw 3#8 n) = pw 3#8 (n + 1) := by rw [pw, mul_comm]
theorem i3 : (3 : Int) = bv 3#8 := by decide
theorem i2 : (2 : Int) = bv 2#8 := by decide
theorem i1 : (1 : Int) = bv 1#8 := by decide
theorem i0 : (0 : Int) = bv 0#8 := by decide
theorem zero_bv (a : B) : (bv a = 0) = (a = 0#8) := by rw [i0, bv_inj]
theorem pf44 (a : B)  : PFx Try.prog 44 [.int .u8 (bv a)] (.int .u8 (bv (inv a))) := by
  refine PFx_of_W (rc := rc44) (rs := rs44) Try.func44 rfl T33_ok hm (by kernel_rfl) (by kernel_rfl) (by simp [Try.ntmps44]) ?_
  have q3 := T33_eq 3#8
  rw [← i3] at q3
  by_cases h0 : a = 0#8
  · subst h0
    simp [rc44, rs44, zero_bv, inv_zero]
    decide
  · obtain ⟨h1, h2⟩ := lg_spec a h0
    simp [rc44, rs44, zero_bv, h0]
    refine W_forU (lg a) (fun _ => True) (fun k => [(3, .int .i64 k), (4, .int .u8 (bv (pw 3#8 k)))]) trivial (by simp [pw, bv]) (fun k hk _ => ?_) fun _ => ?_
    · have hne : ¬ pw 3#8 k = a := fun e => by have := lg_first (n := k) (by omega) e; omega
      have h255 : (k : Int) < 255 := by omega
      simp [hne, h255, q3, three]
      omega
    · simp [h1]
      refine W_forU (255 - lg a) (fun _ => True) (fun k => [(5, .int .u8 (bv (pw 3#8 k))), (6, .int .i64 ((lg a + k : Nat) : Int))]) trivial (by simp [pw, bv]) (fun k hk _ => ?_) fun _ => ?_
      · have h255 : ((lg a + k : Nat) : Int) < 255 := by omega
        simp at h255
        simp [h255, q3, three]
        omega
      · have h255 : ¬ (((lg a + (255 - lg a) : Nat) : Int) < 255) := by omega
        have := inv_lg a h0
        simp at h255
        simp [h255, this]
noncomputable def T44 : Tab := tabAdd T33 44 (fun _ : B => True) (fun z => [.int .u8 (bv z)]) (fun z => .int .u8 (bv (inv z)))
@[simp] theorem T44_eq (a : B)  : T44 44 [.int .u8 (bv a)] = some (.int .u8 (bv (inv a))) := tabAdd_eq (a := a) (by simp +contextual [Int.natCast_inj]) trivial rfl
@[simp] theorem T44_ne {g : Nat} {xs : List AV} (h : g ≠ 44) : T44 g xs = T33 g xs := tabAdd_ne h
theorem T44_ok : Sound Try.prog T44 := tabAdd_sound T33_ok fun z _ => pf44 z 
def rotI : Nat → B → B
  | 0, b => b
  | n + 1, b => rot 1 (rotI n b)
theorem rot_num : ∀ b : B, 2 * b.toNat % 256 + b.toNat / 128 = (rot 1 b).toNat := by decide +kernel
theorem rot_int (b : B) : ((2 : Int) * bv b).tmod 256 + (bv b).tdiv 128 = bv (rot 1 b) := by
  have := rot_num b
  unfold bv
  rw [Int.tmod_eq_emod_of_nonneg (by omega), Int.tdiv_eq_ediv_of_nonneg (Int.natCast_nonneg _)]
  omega
theorem pf45 (a : B) (n : Nat) (h : n ≤ 100) : PFx Try.prog 45 [.int .u8 (bv a), .int .i64 n] (.int .i64 (bv (rotI n a))) := by
  refine PFx_of_W (rc := rc45) (rs := rs45) Try.func45 rfl T44_ok hm (by kernel_rfl) (by kernel_rfl) (by simp [Try.ntmps45]) ?_
  have ha := b_lt a
  simp [rc45, rs45]
  refine ⟨by omega, ?_⟩
  refine W_forU n (fun _ => True) (fun k => [(5, .int .i64 (bv (rotI k a))), (6, .int .i64 k)]) trivial (by simp [rotI]) (fun k hk _ => ?_) fun _ => ?_
  · have h1 := b_lt (rotI k a)
    have h2 := b_lt (rotI (k + 1) a)
    have h3 := rot_int (rotI k a)
    have h4 : (2 * bv (rotI k a)).tmod 256 + (bv (rotI k a)).tdiv 128 = bv (rotI (k + 1) a) := h3
    have h5 : 0 ≤ (2 * bv (rotI k a)).tmod 256 := Int.tmod_nonneg _ (by omega)
    have h6 : (2 * bv (rotI k a)).tmod 256 < 256 := Int.tmod_lt_of_pos _ (by decide)
    have h7 : 0 ≤ (bv (rotI k a)).tdiv 128 := Int.tdiv_nonneg (by omega) (by decide)
    have h8 : (bv (rotI k a)).tdiv 128 ≤ bv (rotI k a) := by rw [Int.tdiv_eq_ediv_of_nonneg h1.1]; omega
    simp [hk, h4]
    omega
  · simp
noncomputable def T45 : Tab := tabAdd T44 45 (fun z : B × Nat => z.2 ≤ 100) (fun z => [.int .u8 (bv z.1), .int .i64 z.2]) (fun z => .int .i64 (bv (rotI z.2 z.1)))
@[simp] theorem T45_eq (a : B) (n : Nat) (h : n ≤ 100) : T45 45 [.int .u8 (bv a), .int .i64 n] = some (.int .i64 (bv (rotI n a))) := tabAdd_eq (a := (a, n)) (by simp +contextual [Int.natCast_inj]) h rfl
@[simp] theorem T45_ne {g : Nat} {xs : List AV} (h : g ≠ 45) : T45 g xs = T44 g xs := tabAdd_ne h
theorem T45_ok : Sound Try.prog T45 := tabAdd_sound T44_ok fun z h => pf45 z.1 z.2 h
def affK (b : B) : Nat → B
  | 0 => 0x63#8
  | k + 1 => affK b k ^^^ rotI k b
theorem affK_5 : ∀ b : B, affK b 5 = aff b := by decide +kernel
theorem pf32 (a : B)  : PFx Try.prog 32 [.int .u8 (bv a)] (.int .u8 (bv (box a))) := by
  refine PFx_of_W (rc := rc32) (rs := rs32) Try.func32 rfl T45_ok hm (by kernel_rfl) (by kernel_rfl) (by simp [Try.ntmps32]) ?_
  simp [rc32, rs32]
  refine W_forU 5 (fun _ => True) (fun k => [(4, .int .i64 (bv (affK (inv a) k))), (5, .int .i64 k)]) trivial (by simp [affK, bv]) (fun k hk _ => ?_) fun _ => ?_
  · have h5 : (k : Int) < 5 := by omega
    have h6 : k ≤ 100 := by omega
    have h7 : bits .xor .i64 (bv (affK (inv a) k)) (bv (rotI k (inv a))) = bv (affK (inv a) (k + 1)) := bv_xor_i _ _ (by decide)
    simp [h5, h6, h7]
    omega
  · simp [affK_5, wrap8, box]
noncomputable def T32 : Tab := tabAdd T45 32 (fun _ : B => True) (fun z => [.int .u8 (bv z)]) (fun z => .int .u8 (bv (box z)))
@[simp] theorem T32_eq (a : B)  : T32 32 [.int .u8 (bv a)] = some (.int .u8 (bv (box a))) := tabAdd_eq (a := a) (by simp +contextual [Int.natCast_inj]) trivial rfl
@[simp] theorem T32_ne {g : Nat} {xs : List AV} (h : g ≠ 32) : T32 g xs = T45 g xs := tabAdd_ne h
theorem T32_ok : Sound Try.prog T32 := tabAdd_sound T45_ok fun z _ => pf32 z 
def colA (c : V) : List AV := [.int .u8 (bv c.1), .int .u8 (bv c.2.1), .int .u8 (bv c.2.2.1), .int .u8 (bv c.2.2.2)]
@[simp] theorem colA_inj (c d : V) : colA c = colA d ↔ c = d := by
  obtain ⟨c0, c1, c2, c3⟩ := c; obtain ⟨d0, d1, d2, d3⟩ := d
  simp [colA]
/-- As far as it is mixed. -/
def colK (c : V) : Nat → List AV
  | 0 => [.int .u8 0, .int .u8 0, .int .u8 0, .int .u8 0]
  | 1 => [.int .u8 (bv c.1), .int .u8 0, .int .u8 0, .int .u8 0]
  | 2 => [.int .u8 (bv c.1), .int .u8 (bv c.2.1), .int .u8 0, .int .u8 0]
  | 3 => [.int .u8 (bv c.1), .int .u8 (bv c.2.1), .int .u8 (bv c.2.2.1), .int .u8 0]
  | _ => colA c
theorem mix_eq (p q r s : B) : mix (p, q, r, s) = (mul 2#8 p ^^^ mul 3#8 q ^^^ r ^^^ s, mul 2#8 q ^^^ mul 3#8 r ^^^ s ^^^ p, mul 2#8 r ^^^ mul 3#8 s ^^^ p ^^^ q, mul 2#8 s ^^^ mul 3#8 p ^^^ q ^^^ r) := by
  simp only [mix, circ, dot, one_mul, Prod.mk.injEq]
  refine ⟨trivial, ?_, ?_, ?_⟩ <;> ac_rfl
theorem pf46 (c : V)  : PFx Try.prog 46 [.agg (colA c)] (.agg (colA (mix c))) := by
  refine PFx_of_W (rc := rc46) (rs := rs46) Try.func46 rfl T32_ok hm (by kernel_rfl) (by kernel_rfl) (by simp [Try.ntmps46]) ?_
  obtain ⟨p, q, r, s⟩ := c
  have q2 := T33_eq 2#8
  rw [← i2] at q2
  have q3 := T33_eq 3#8
  rw [← i3] at q3
  simp only [colA]
  simp [rc46, rs46]
  refine W_forU 4 (fun _ => True) (fun k => [(3, .box (colK (mix (p, q, r, s)) k)), (4, .int .i64 k)]) trivial (by simp [colK]) (fun k hk _ => ?_) fun _ => ?_
  · have hc : k = 0 ∨ k = 1 ∨ k = 2 ∨ k = 3 := by omega
    rcases hc with rfl | rfl | rfl | rfl <;> simp [colK, colA, q2, q3, bv_xor8, mix_eq]
  · simp [colK, colA]
noncomputable def T46 : Tab := tabAdd T32 46 (fun _ : V => True) (fun z => [.agg (colA z)]) (fun z => .agg (colA (mix z)))
@[simp] theorem T46_eq (c : V)  : T46 46 [.agg (colA c)] = some (.agg (colA (mix c))) := tabAdd_eq (a := c) (by simp +contextual [Int.natCast_inj]) trivial rfl
@[simp] theorem T46_ne {g : Nat} {xs : List AV} (h : g ≠ 46) : T46 g xs = T32 g xs := tabAdd_ne h
theorem T46_ok : Sound Try.prog T46 := tabAdd_sound T32_ok fun z _ => pf46 z 
end Go.Proofs.Ytlihfdbfcklkmaa

