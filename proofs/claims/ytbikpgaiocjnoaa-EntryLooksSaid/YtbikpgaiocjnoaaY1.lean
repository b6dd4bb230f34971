/- The program's entry: what may be. -/
import Derived.Test.YtbikpgaiocjnoaaX5
import Derived.Test.YtbikpgaiocjnoaaXP
set_option linter.unusedVariables false
set_option linter.unusedSimpArgs false
namespace Go.Proofs.Ytbikpgaiocjnoaa
open Go.Proofs.Ytbikpgaiocjnoaa.Pad Go.Proofs.Ytbikpgaiocjnoaa.Pad.En
theorem vl_inj1 {α : Type} {f : Vl → α} : ∀ a b : Vl, [a.av ids] = [b.av ids] → f a = f b := by
  intro x y h
  rw [vav_inj ids ids_apart _ _ (List.cons.inj h).1]
theorem vl_injT {α : Type} {f : Vl → Tx → α} : ∀ a b : Vl × Tx, [a.1.av ids, AV.str a.2] = [b.1.av ids, AV.str b.2] → f a.1 a.2 = f b.1 b.2 := by
  rintro ⟨x, i⟩ ⟨y, j⟩ h
  simp only [List.cons.injEq, AV.str.injEq, and_true] at h
  rw [vav_inj ids ids_apart _ _ h.1, h.2]
theorem vl_injV {α : Type} {f : Vl → Vl → α} : ∀ a b : Vl × Vl, [a.1.av ids, a.2.av ids] = [b.1.av ids, b.2.av ids] → f a.1 a.2 = f b.1 b.2 := by
  rintro ⟨x, i⟩ ⟨y, j⟩ h
  simp only [List.cons.injEq, and_true] at h
  rw [vav_inj ids ids_apart _ _ h.1, vav_inj ids ids_apart _ _ h.2]
theorem vls_inj2 {α : Type} {f : List Vl → Nat → α} : ∀ a b : List Vl × Nat, [AV.sl (vls ids a.1) a.1.length, AV.int .i64 a.2] = [AV.sl (vls ids b.1) b.1.length, AV.int .i64 b.2] → f a.1 a.2 = f b.1 b.2 := by
  rintro ⟨x, i⟩ ⟨y, j⟩ h
  simp only [List.cons.injEq, AV.sl.injEq, AV.int.injEq, true_and, and_true, Int.natCast_inj] at h
  rw [vls_inj ids ids_apart _ _ h.1.1, h.2]
theorem prs_inj2 {α : Type} {f : List (Tx × Vl) → Nat → α} : ∀ a b : List (Tx × Vl) × Nat, [AV.sl (prs ids a.1) a.1.length, AV.int .i64 a.2] = [AV.sl (prs ids b.1) b.1.length, AV.int .i64 b.2] → f a.1 a.2 = f b.1 b.2 := by
  rintro ⟨x, i⟩ ⟨y, j⟩ h
  simp only [List.cons.injEq, AV.sl.injEq, AV.int.injEq, true_and, and_true, Int.natCast_inj] at h
  rw [prs_inj ids ids_apart _ _ h.1.1, h.2]
section
variable (t : Ids) (v : Vl)
@[simp high] theorem vav_share : (v.av t).share = v.av t := by cases v <;> simp [Vl.av]
@[simp high] theorem vav_good : (v.av t).good = True := by cases v <;> simp [Vl.av]
@[simp high] theorem vav_one : (v.av t).one = true := by cases v <;> simp [Vl.av]
@[simp high] theorem vav_nr : (v.av t).nr = v.av t := by cases v <;> simp [Vl.av]
@[simp high] theorem vav_isTo (b : Nat) : (v.av t).isTo b = false := by cases v <;> simp [Vl.av]
@[simp high] theorem vav_cells : (v.av t).cells = [v.av t] := by cases v <;> simp [Vl.av]
@[simp high] theorem vav_lies : (v.av t).lies = True := by cases v <;> simp [Vl.av]
@[simp high] theorem vav_own (b : Bool) : okOwn b (v.av t) = True := by cases v <;> cases b <;> simp [Vl.av]
@[simp high] theorem vav_keep (s : St) (x : Nat) : keepV s x (v.av t) = v.av t := by cases v <;> simp [Vl.av]
@[simp high] theorem vav_bigB : (v.av t).isBigB = false := by cases v <;> simp [Vl.av]
@[simp high] theorem vav_bigT : (v.av t).isBigT = false := by cases v <;> simp [Vl.av]
@[simp high] theorem vav_big : (v.av t).isBig = False := by cases v <;> simp [Vl.av]
end
/-- padlock/entry.checkLength -/
def rc41 : RC :=
  (.seq
   (.reg false [⟨(some 2), .mov (.c (.int .i64 0)), none⟩] [0])
   (.seq
    (.seq
     (.reg false [⟨(some 3), .mov (.t 0), none⟩,
       ⟨(some 4), .len true (.t 3), none⟩,
       ⟨(some 5), .bin .gtr true (.t 4) (.c (.int .i64 65535)), none⟩] [5])
     (.cond 5
      (.seq
       (.reg false [⟨(some 2), .mov (.c (.int .i64 5)), none⟩] [2])
       .ret)
      (.reg false [] [])))
    (.seq
     (.reg false [⟨(some 2), .mov (.c (.int .i64 0)), none⟩] [2])
     .ret)))
def rs41 : List RS := [.tmp 2]
/-- padlock/entry.checkSize -/
def rc61 : RC :=
  (.seq
   (.reg false [⟨(some 4), .mov (.c (.int .i64 0)), none⟩] [0, 1])
   (.seq
    (.block 0
     (.seq
      (.reg false [⟨(some 6), .mov (.t 1), none⟩,
        ⟨(some 7), .bin .geq true (.t 6) (.c (.int .i64 4)), none⟩,
        ⟨(some 5), .mov (.t 7), none⟩] [0, 5])
      (.cond 5
       (.seq
        (.reg false [⟨(some 4), .mov (.c (.int .i64 24)), none⟩] [4])
        .ret)
       (.seq
        (.reg false [⟨(some 9), .mov (.t 0), none⟩,
          ⟨(some 10), .bin .gtr true (.t 9) (.c (.int .i64 64)), none⟩,
          ⟨(some 8), .mov (.t 10), none⟩] [8])
        (.cond 8
         (.seq
          (.reg false [⟨(some 4), .mov (.c (.int .i64 5)), none⟩] [4])
          .ret)
         (.reg false [] []))))))
    (.seq
     (.reg false [⟨(some 4), .mov (.c (.int .i64 0)), none⟩] [4])
     .ret)))
def rs61 : List RS := [.tmp 4]
/-- padlock/entry.checkName -/
def rc62 : RC :=
  (.seq
   (.reg false [⟨(some 4), .mov (.c (.int .i64 0)), none⟩] [0, 1])
   (.seq
    (.seq
     (.reg false [⟨(some 6), .mov (.t 0), none⟩,
       ⟨(some 7), .mov (.t 1), none⟩,
       ⟨(some 8), .idxA 2 (.t 6) (.t 7), none⟩,
       ⟨(some 9), .fldP 0 (.t 8), none⟩,
       ⟨(some 10), .loadP (.t 9) 1 false, none⟩,
       ⟨(some 11), .call 41 [(false, (.t 10))], none⟩,
       ⟨(some 5), .mov (.t 11), none⟩] [0, 1, 5])
     (.seq
      (.reg false [⟨(some 12), .mov (.t 5), none⟩,
        ⟨(some 13), .bin .neq true (.t 12) (.c (.int .i64 0)), none⟩] [0, 1, 5, 13])
      (.cond 13
       (.seq
        (.reg false [⟨(some 14), .mov (.t 5), none⟩,
          ⟨(some 4), .mov (.t 14), none⟩] [4])
        .ret)
       (.reg false [] [0, 1]))))
    (.seq
     (.seq
      (.reg true [⟨(some 15), .mov (.t 1), none⟩,
        ⟨(some 16), .bin .gtr true (.t 15) (.c (.int .i64 0)), none⟩,
        ⟨(some 17), .mov (.t 16), none⟩,
        ⟨(some 18), .mov (.t 0), (some (17, true))⟩,
        ⟨(some 19), .mov (.t 1), (some (17, true))⟩,
        ⟨(some 20), .idxA 2 (.t 18) (.t 19), (some (17, true))⟩,
        ⟨(some 21), .fldP 0 (.t 20), (some (17, true))⟩,
        ⟨(some 22), .loadP (.t 21) 1 false, (some (17, true))⟩,
        ⟨(some 23), .mov (.t 0), (some (17, true))⟩,
        ⟨(some 24), .mov (.t 1), (some (17, true))⟩,
        ⟨(some 25), .bin .sub true (.t 24) (.c (.int .i64 1)), (some (17, true))⟩,
        ⟨(some 26), .idxA 2 (.t 23) (.t 25), (some (17, true))⟩,
        ⟨(some 27), .fldP 0 (.t 26), (some (17, true))⟩,
        ⟨(some 28), .loadP (.t 27) 1 false, (some (17, true))⟩,
        ⟨(some 29), .bin .leq false (.t 22) (.t 28), (some (17, true))⟩,
        ⟨(some 30), .pick (.t 17) (.t 29) (.c (.bool false)), none⟩] [30])
      (.cond 30
       (.seq
        (.reg false [⟨(some 4), .mov (.c (.int .i64 4)), none⟩] [4])
        .ret)
       (.reg false [] [])))
     (.seq
      (.reg false [⟨(some 4), .mov (.c (.int .i64 0)), none⟩] [4])
      .ret))))
def rs62 : List RS := [.tmp 4]
/-- padlock/entry.check -/
def rc29 : RC :=
  (.seq
   (.reg false [⟨(some 4), .mov (.c (.int .i64 0)), none⟩] [0, 1])
   (.seq
    (.seq
     (.reg false [⟨(some 9), .mov (.t 0), none⟩] [1, 9])
     (.block 0
      (.seq
       (.reg false [⟨(some 10), .isNil false false (.t 9), none⟩,
         ⟨(some 11), .asI 4 true (.bool false) (.t 9), none⟩,
         ⟨(some 12), .ext (.t 11) 1, none⟩,
         ⟨(some 13), .ext (.t 11) 0, none⟩,
         ⟨(some 14), .asI 22 true (.int .u64 0) (.t 9), none⟩,
         ⟨(some 15), .ext (.t 14) 1, none⟩,
         ⟨(some 16), .ext (.t 14) 0, none⟩,
         ⟨(some 17), .pick (.t 12) (.c (.bool true)) (.t 15), none⟩,
         ⟨(some 18), .pick (.t 10) (.c (.bool true)) (.t 17), none⟩] [1, 9, 18])
       (.cond 18
        (.seq
         (.reg false [⟨(some 5), .mov (.t 9), none⟩] [])
         (.seq
          (.reg false [⟨(some 4), .mov (.c (.int .i64 0)), none⟩] [4])
          .ret))
        (.seq
         (.reg false [⟨(some 19), .asI 9 true (.str []) (.t 9), none⟩,
           ⟨(some 20), .ext (.t 19) 1, none⟩,
           ⟨(some 21), .ext (.t 19) 0, none⟩] [1, 9, 20, 21])
         (.cond 20
          (.seq
           (.reg false [⟨(some 6), .mov (.t 21), none⟩] [6])
           (.seq
            (.reg false [⟨(some 22), .mov (.t 6), none⟩,
              ⟨(some 23), .call 41 [(false, (.t 22))], none⟩,
              ⟨(some 4), .mov (.t 23), none⟩] [4])
            .ret))
          (.seq
           (.reg false [⟨(some 24), .asI 57 true (.sl [] 0) (.t 9), none⟩,
             ⟨(some 25), .ext (.t 24) 1, none⟩,
             ⟨(some 26), .ext (.t 24) 0, none⟩] [1, 9, 25, 26])
           (.cond 25
            (.seq
             (.reg false [⟨(some 7), .steal 26, none⟩] [1, 7])
             (.seq
              (.reg false [⟨(some 27), .mov (.t 7), none⟩,
                ⟨(some 28), .mov (.t 1), none⟩,
                ⟨(some 29), .call 42 [(false, (.t 27)), (false, (.t 28))], none⟩,
                ⟨(some 4), .mov (.t 29), none⟩] [4])
              .ret))
            (.seq
             (.reg false [⟨(some 30), .asI 61 true (.sl [] 0) (.t 9), none⟩,
               ⟨(some 31), .ext (.t 30) 1, none⟩,
               ⟨(some 32), .ext (.t 30) 0, none⟩] [1, 31, 32])
             (.cond 31
              (.seq
               (.reg false [⟨(some 8), .steal 32, none⟩] [1, 8])
               (.seq
                (.reg false [⟨(some 33), .mov (.t 8), none⟩,
                  ⟨(some 34), .mov (.t 1), none⟩,
                  ⟨(some 35), .call 43 [(false, (.t 33)), (false, (.t 34))], none⟩,
                  ⟨(some 4), .mov (.t 35), none⟩] [4])
                .ret))
              (.reg false [] [])))))))))))
    (.seq
     (.reg false [⟨(some 4), .mov (.c (.int .i64 22)), none⟩] [4])
     .ret)))
def rs29 : List RS := [.tmp 4]
/-- padlock/entry.checkList -/
def rc42 : RC :=
  (.seq
   (.reg false [⟨(some 4), .mov (.c (.int .i64 0)), none⟩] [0, 1])
   (.seq
    (.seq
     (.reg false [⟨(some 9), .mov (.t 0), none⟩,
       ⟨(some 10), .len false (.t 9), none⟩,
       ⟨(some 11), .mov (.t 1), none⟩,
       ⟨(some 12), .call 61 [(false, (.t 10)), (false, (.t 11))], none⟩,
       ⟨(some 5), .mov (.t 12), none⟩] [0, 1, 5])
     (.seq
      (.reg false [⟨(some 13), .mov (.t 5), none⟩,
        ⟨(some 14), .bin .neq true (.t 13) (.c (.int .i64 0)), none⟩] [0, 1, 5, 14])
      (.cond 14
       (.seq
        (.reg false [⟨(some 15), .mov (.t 5), none⟩,
          ⟨(some 4), .mov (.t 15), none⟩] [4])
        .ret)
       (.reg false [] [0, 1]))))
    (.seq
     (.seq
      (.reg false [⟨(some 16), .mov (.t 0), none⟩,
        ⟨(some 17), .len false (.t 16), none⟩,
        ⟨(some 18), .mov (.c (.int .i64 0)), none⟩] [1, 16, 17, 18])
      (.block 0
       (.loop
        (.seq
         (.reg false [⟨(some 19), .bin .lss true (.t 18) (.t 17), none⟩] [1, 16, 17, 18, 19])
         (.seq
          (.cond 19
           (.reg false [] [1, 16, 17, 18])
           (.seq
            (.reg false [] [])
            (.exit 0)))
          (.seq
           (.block 1
            (.seq
             (.reg false [⟨(some 20), .idxA 1 (.t 16) (.t 18), none⟩,
               ⟨(some 21), .loadP (.t 20) 1 false, none⟩,
               ⟨(some 7), .mov (.t 21), none⟩] [1, 7, 16, 17, 18])
             (.seq
              (.reg false [⟨(some 22), .mov (.t 7), none⟩,
                ⟨(some 23), .mov (.t 1), none⟩,
                ⟨(some 24), .bin .add true (.t 23) (.c (.int .i64 1)), none⟩,
                ⟨(some 25), .call 29 [(false, (.t 22)), (false, (.t 24))], none⟩,
                ⟨(some 8), .mov (.t 25), none⟩] [1, 8, 16, 17, 18])
              (.seq
               (.reg false [⟨(some 26), .mov (.t 8), none⟩,
                 ⟨(some 27), .bin .neq true (.t 26) (.c (.int .i64 0)), none⟩] [1, 8, 16, 17, 18, 27])
               (.cond 27
                (.seq
                 (.reg false [⟨(some 28), .mov (.t 8), none⟩,
                   ⟨(some 4), .mov (.t 28), none⟩] [4])
                 .ret)
                (.reg false [] [1, 16, 17, 18]))))))
           (.reg false [⟨(some 29), .bin .add true (.t 18) (.c (.int .i64 1)), none⟩,
             ⟨(some 18), .mov (.t 29), none⟩] [1, 16, 17, 18])))))))
     (.seq
      (.reg false [⟨(some 4), .mov (.c (.int .i64 0)), none⟩] [4])
      .ret))))
def rs42 : List RS := [.tmp 4]
/-- padlock/entry.checkPairs -/
def rc43 : RC :=
  (.seq
   (.reg false [⟨(some 4), .mov (.c (.int .i64 0)), none⟩] [0, 1])
   (.seq
    (.seq
     (.reg false [⟨(some 10), .mov (.t 0), none⟩,
       ⟨(some 11), .len false (.t 10), none⟩,
       ⟨(some 12), .mov (.t 1), none⟩,
       ⟨(some 13), .call 61 [(false, (.t 11)), (false, (.t 12))], none⟩,
       ⟨(some 5), .mov (.t 13), none⟩] [0, 1, 5])
     (.seq
      (.reg false [⟨(some 14), .mov (.t 5), none⟩,
        ⟨(some 15), .bin .neq true (.t 14) (.c (.int .i64 0)), none⟩] [0, 1, 5, 15])
      (.cond 15
       (.seq
        (.reg false [⟨(some 16), .mov (.t 5), none⟩,
          ⟨(some 4), .mov (.t 16), none⟩] [4])
        .ret)
       (.reg false [] [0, 1]))))
    (.seq
     (.seq
      (.reg false [⟨(some 17), .mov (.t 0), none⟩,
        ⟨(some 18), .len false (.t 17), none⟩,
        ⟨(some 19), .mov (.c (.int .i64 0)), none⟩] [0, 1, 17, 18, 19])
      (.block 0
       (.loop
        (.seq
         (.reg false [⟨(some 20), .bin .lss true (.t 19) (.t 18), none⟩] [0, 1, 17, 18, 19, 20])
         (.seq
          (.cond 20
           (.reg false [] [0, 1, 17, 18, 19])
           (.seq
            (.reg false [] [])
            (.exit 0)))
          (.seq
           (.block 1
            (.seq
             (.reg false [⟨(some 21), .mov (.t 19), none⟩,
               ⟨(some 22), .idxA 2 (.t 17) (.t 19), none⟩,
               ⟨(some 23), .loadP (.t 22) 2 true, none⟩,
               ⟨(some 7), .alloc [(.str []), .nilI], none⟩,
               ⟨(some 6), .mov (.t 21), none⟩,
               ⟨none, .stB 7 2 (.t 23), none⟩] [0, 1, 6, 7, 17, 18, 19])
             (.seq
              (.seq
               (.reg false [⟨(some 24), .mov (.t 0), none⟩,
                 ⟨(some 25), .mov (.t 6), none⟩,
                 ⟨(some 26), .call 62 [(false, (.t 24)), (false, (.t 25))], none⟩,
                 ⟨(some 8), .mov (.t 26), none⟩] [0, 1, 7, 8, 17, 18, 19])
               (.seq
                (.reg false [⟨(some 27), .mov (.t 8), none⟩,
                  ⟨(some 28), .bin .neq true (.t 27) (.c (.int .i64 0)), none⟩] [0, 1, 7, 8, 17, 18, 19, 28])
                (.cond 28
                 (.seq
                  (.reg false [⟨(some 29), .mov (.t 8), none⟩,
                    ⟨(some 4), .mov (.t 29), none⟩] [4])
                  .ret)
                 (.reg false [] [0, 1, 7, 17, 18, 19]))))
              (.seq
               (.reg false [⟨(some 30), .fldB 7 1, none⟩,
                 ⟨(some 31), .loadR 30 7 1 false, none⟩,
                 ⟨(some 32), .mov (.t 1), none⟩,
                 ⟨(some 33), .bin .add true (.t 32) (.c (.int .i64 1)), none⟩,
                 ⟨(some 34), .call 29 [(false, (.t 31)), (false, (.t 33))], none⟩,
                 ⟨(some 9), .mov (.t 34), none⟩] [0, 1, 9, 17, 18, 19])
               (.seq
                (.reg false [⟨(some 35), .mov (.t 9), none⟩,
                  ⟨(some 36), .bin .neq true (.t 35) (.c (.int .i64 0)), none⟩] [0, 1, 9, 17, 18, 19, 36])
                (.cond 36
                 (.seq
                  (.reg false [⟨(some 37), .mov (.t 9), none⟩,
                    ⟨(some 4), .mov (.t 37), none⟩] [4])
                  .ret)
                 (.reg false [] [0, 1, 17, 18, 19])))))))
           (.reg false [⟨(some 38), .bin .add true (.t 19) (.c (.int .i64 1)), none⟩,
             ⟨(some 19), .mov (.t 38), none⟩] [0, 1, 17, 18, 19])))))))
     (.seq
      (.reg false [⟨(some 4), .mov (.c (.int .i64 0)), none⟩] [4])
      .ret))))
def rs43 : List RS := [.tmp 4]
/-- padlock/entry.Check -/
def rc13 : RC :=
  (.seq
   (.reg false [⟨(some 2), .mov (.c (.int .i64 0)), none⟩] [0])
   (.seq
    (.reg false [⟨(some 3), .mov (.t 0), none⟩,
      ⟨(some 4), .call 29 [(false, (.t 3)), (false, (.c (.int .i64 0)))], none⟩,
      ⟨(some 2), .mov (.t 4), none⟩] [2])
    .ret))
def rs13 : List RS := [.tmp 2]
theorem pf41 (s : Tx)  : PFx Try.prog 41 [.str s] (.int .i64 (if 65535 < s.length then 5 else 0 : Nat)) := by
  refine PFx_of_W (rc := rc41) (rs := rs41) Try.func41 rfl T16_ok hm (by kernel_rfl) (by kernel_rfl) (by simp [Try.ntmps41]) ?_
  by_cases h1 : 65535 < s.length
  · have h1' : (65535 : Int) < s.length := by omega
    simp [rc41, rs41, h1, h1']
  · have h1' : ¬ (65535 : Int) < s.length := by omega
    simp [rc41, rs41, h1, h1']
noncomputable def T41 : Tab := tabAdd T16 41 (fun _ : Tx => True) (fun z => [.str z]) (fun z => .int .i64 (if 65535 < z.length then 5 else 0 : Nat))
@[simp] theorem T41_eq (s : Tx)  : T41 41 [.str s] = some (.int .i64 (if 65535 < s.length then 5 else 0 : Nat)) := tabAdd_eq (a := s) (by simp +contextual [Int.natCast_inj]) trivial rfl
@[simp] theorem T41_ne {g : Nat} {xs : List AV} (h : g ≠ 41) : T41 g xs = T16 g xs := tabAdd_ne h
theorem T41_ok : Sound Try.prog T41 := tabAdd_sound T16_ok fun z _ => pf41 z 
theorem pf61 (n : Nat) (d : Nat)  : PFx Try.prog 61 [.int .i64 n, .int .i64 d] (.int .i64 (if 4 ≤ d then 24 else if 64 < n then 5 else 0 : Nat)) := by
  refine PFx_of_W (rc := rc61) (rs := rs61) Try.func61 rfl T41_ok hm (by kernel_rfl) (by kernel_rfl) (by simp [Try.ntmps61]) ?_
  by_cases h1 : 4 ≤ d
  · have h1' : (4 : Int) ≤ d := by omega
    simp [rc61, rs61, h1, h1']
  have h1' : ¬ (4 : Int) ≤ d := by omega
  by_cases h2 : 64 < n
  · have h2' : (64 : Int) < n := by omega
    simp [rc61, rs61, h1, h1', h2, h2']
  have h2' : ¬ (64 : Int) < n := by omega
  simp [rc61, rs61, h1, h1', h2, h2']
noncomputable def T61 : Tab := tabAdd T41 61 (fun _ : Nat × Nat => True) (fun z => [.int .i64 z.1, .int .i64 z.2]) (fun z => .int .i64 (if 4 ≤ z.2 then 24 else if 64 < z.1 then 5 else 0 : Nat))
@[simp] theorem T61_eq (n : Nat) (d : Nat)  : T61 61 [.int .i64 n, .int .i64 d] = some (.int .i64 (if 4 ≤ d then 24 else if 64 < n then 5 else 0 : Nat)) := tabAdd_eq (a := (n, d)) (by simp +contextual [Int.natCast_inj]) trivial rfl
@[simp] theorem T61_ne {g : Nat} {xs : List AV} (h : g ≠ 61) : T61 g xs = T41 g xs := tabAdd_ne h
theorem T61_ok : Sound Try.prog T61 := tabAdd_sound T41_ok fun z _ => pf61 z.1 z.2 
theorem pf62 (l : List (Tx × Vl)) (i : Nat) (h : i < l.length ∧ l.length ≤ 1000000) : PFx Try.prog 62 [.sl (prs ids l) l.length, .int .i64 i] (.int .i64 (nameE (l.map Prod.fst) i)) := by
  refine PFx_of_W (rc := rc62) (rs := rs62) Try.func62 rfl T61_ok hm (by kernel_rfl) (by kernel_rfl) (by simp [Try.ntmps62]) ?_
  obtain ⟨h0, hm⟩ := h
  have h0' : (i : Int) < l.length := by omega
  have hn := nm_fst l i h0
  obtain ⟨hat0, _⟩ := prs_at l i h0
  obtain ⟨u0, hat0⟩ := List.getElem?_eq_some_iff.1 hat0
  have g := T41_eq l[i].1
  have h3 : 0 < l.length * 2 - i * 2 := by omega
  by_cases h1 : 65535 < l[i].1.length
  · simp only [if_pos h1] at g
    simp [rc62, rs62, h0, h0', h3, hat0, g, nameE, hn, h1]
  simp only [if_neg h1] at g
  by_cases h2 : i = 0
  · subst h2
    simp only [Nat.zero_mul] at hat0
    simp [rc62, rs62, h0, h0', h3, hat0, g, nameE, hn, h1]
  have p0 : i - 1 < l.length := by omega
  have hn1 := nm_fst l (i - 1) p0
  obtain ⟨hat1, _⟩ := prs_at l (i - 1) p0
  obtain ⟨u1, hat1⟩ := List.getElem?_eq_some_iff.1 hat1
  have q1 : (0 : Int) < i := by omega
  have q2 : ((i : Int) - 1).toNat = i - 1 := by omega
  have q3 : 0 < l.length * 2 - (i - 1) * 2 := by omega
  have q4 : (i : Int) - 1 < l.length := by omega
  have q5 : (i : Int) - 1 ≤ 9223372036854775807 := by omega
  have q6 : (0 : Int) ≤ (i : Int) - 1 := by omega
  have q7 : (-9223372036854775808 : Int) ≤ (i : Int) - 1 := by omega
  have q8 : 0 < i := by omega
  have hb := less_tot l[i].1 l[i - 1].1
  simp [rc62, rs62, h0, h0', h3, hat0, hat1, g, nameE, hn, hn1, h1, q1, q2, q3, q4, q5, q6, q7, q8, hb]
  refine ⟨by omega, ?_⟩
  cases Op.bytesLess l[i - 1].1 l[i].1 <;> simp
noncomputable def T62 : Tab := tabAdd T61 62 (fun z : (List (Tx × Vl)) × Nat => z.2 < z.1.length ∧ z.1.length ≤ 1000000) (fun z => [.sl (prs ids z.1) z.1.length, .int .i64 z.2]) (fun z => .int .i64 (nameE (z.1.map Prod.fst) z.2))
@[simp] theorem T62_eq (l : List (Tx × Vl)) (i : Nat) (h : i < l.length ∧ l.length ≤ 1000000) : T62 62 [.sl (prs ids l) l.length, .int .i64 i] = some (.int .i64 (nameE (l.map Prod.fst) i)) := tabAdd_eq (a := (l, i)) (prs_inj2 (f := fun l i => AV.int .i64 (nameE (l.map Prod.fst) i))) h rfl
@[simp] theorem T62_ne {g : Nat} {xs : List AV} (h : g ≠ 62) : T62 g xs = T61 g xs := tabAdd_ne h
theorem T62_ok : Sound Try.prog T62 := tabAdd_sound T61_ok fun z h => pf62 z.1 z.2 h
noncomputable def M29_1 (m : Nat) : Tab := tabAdd T62 29 (fun z : Vl × Nat => (z.1.fine ∧ z.2 ≤ 100) ∧ 2 * z.1.sz + 1 < m) (fun z => [z.1.av ids, .int .i64 z.2]) (fun z => .int .i64 (chk z.2 (nodeOf z.1)))
@[simp] theorem M29_1_ne {m g : Nat} {xs : List AV} (h : g ≠ 29) : M29_1 m g xs = T62 g xs := tabAdd_ne h
noncomputable def M29_2 (m : Nat) : Tab := tabAdd (M29_1 m) 42 (fun z : (List Vl) × Nat => (z.1.length ≤ 1000000 ∧ fines z.1 ∧ z.2 ≤ 100) ∧ 2 * Vl.sz (.list z.1) < m) (fun z => [.sl (vls ids z.1) z.1.length, .int .i64 z.2]) (fun z => .int .i64 (chk z.2 (nodeOf (.list z.1))))
@[simp] theorem M29_2_ne {m g : Nat} {xs : List AV} (h : g ≠ 42) : M29_2 m g xs = M29_1 m g xs := tabAdd_ne h
noncomputable def M29_3 (m : Nat) : Tab := tabAdd (M29_2 m) 43 (fun z : (List (Tx × Vl)) × Nat => (z.1.length ≤ 1000000 ∧ fineP z.1 ∧ z.2 ≤ 100) ∧ 2 * Vl.sz (.pairs z.1) < m) (fun z => [.sl (prs ids z.1) z.1.length, .int .i64 z.2]) (fun z => .int .i64 (chk z.2 (nodeOf (.pairs z.1))))
@[simp] theorem M29_3_ne {m g : Nat} {xs : List AV} (h : g ≠ 43) : M29_3 m g xs = M29_2 m g xs := tabAdd_ne h
theorem R29_eq (m : Nat) (v : Vl) (d : Nat) (h : v.fine ∧ d ≤ 100) (hm : 2 * v.sz + 1 < m) : M29_1 m 29 [v.av ids, .int .i64 d] = some (.int .i64 (chk d (nodeOf v))) := tabAdd_eq (a := (v, d)) (vl_inj2 (f := fun v d => AV.int .i64 (chk d (nodeOf v)))) ⟨h, hm⟩ rfl
theorem R42_eq (m : Nat) (l : List Vl) (d : Nat) (h : l.length ≤ 1000000 ∧ fines l ∧ d ≤ 100) (hm : 2 * Vl.sz (.list l) < m) : M29_2 m 42 [.sl (vls ids l) l.length, .int .i64 d] = some (.int .i64 (chk d (nodeOf (.list l)))) := tabAdd_eq (a := (l, d)) (vls_inj2 (f := fun l d => AV.int .i64 (chk d (nodeOf (.list l))))) ⟨h, hm⟩ rfl
theorem R43_eq (m : Nat) (l : List (Tx × Vl)) (d : Nat) (h : l.length ≤ 1000000 ∧ fineP l ∧ d ≤ 100) (hm : 2 * Vl.sz (.pairs l) < m) : M29_3 m 43 [.sl (prs ids l) l.length, .int .i64 d] = some (.int .i64 (chk d (nodeOf (.pairs l)))) := tabAdd_eq (a := (l, d)) (prs_inj2 (f := fun l d => AV.int .i64 (chk d (nodeOf (.pairs l))))) ⟨h, hm⟩ rfl
theorem st29 (v : Vl) (d : Nat) (h : v.fine ∧ d ≤ 100) (hT : Sound Try.prog (M29_3 (2 * v.sz + 1))) : PFx Try.prog 29 [v.av ids, .int .i64 d] (.int .i64 (chk d (nodeOf v))) := by
  refine PFx_of_W (rc := rc29) (rs := rs29) Try.func29 rfl hT hm (by kernel_rfl) (by kernel_rfl) (by simp [Try.ntmps29]) ?_
  obtain ⟨hf, hd⟩ := h
  cases v with
  | nil => simp [rc29, rs29, Vl.av, nodeOf, chk]
  | bool b => simp [rc29, rs29, Vl.av, nodeOf, chk]
  | num n => simp [rc29, rs29, Vl.av, nodeOf, chk]
  | int n => simp [rc29, rs29, Vl.av, nodeOf, chk, nd9]
  | str s =>
    have g := T41_eq s
    simp [rc29, rs29, Vl.av, nodeOf, chk, g]
  | list l =>
    rw [Vl.fine] at hf
    have g := R42_eq (2 * Vl.sz (.list l) + 1) l d ⟨hf.1, hf.2, hd⟩ (by omega)
    simp [rc29, rs29, Vl.av, g]
  | pairs l =>
    rw [Vl.fine] at hf
    have g := R43_eq (2 * Vl.sz (.pairs l) + 1) l d ⟨hf.1, hf.2, hd⟩ (by omega)
    simp [rc29, rs29, Vl.av, g]
theorem st42 (l : List Vl) (d : Nat) (h : l.length ≤ 1000000 ∧ fines l ∧ d ≤ 100) (hT : Sound Try.prog (M29_3 (2 * Vl.sz (.list l)))) : PFx Try.prog 42 [.sl (vls ids l) l.length, .int .i64 d] (.int .i64 (chk d (nodeOf (.list l)))) := by
  refine PFx_of_W (rc := rc42) (rs := rs42) Try.func42 rfl hT hm (by kernel_rfl) (by kernel_rfl) (by simp [Try.ntmps42]) ?_
  obtain ⟨hl, hf, hd⟩ := h
  have g := T61_eq l.length d
  have hR : chk d (nodeOf (.list l)) = if 4 ≤ d then 24 else if 64 < l.length then 5 else chkL (d + 1) false [] 0 (nodes l) := by
    rw [nodeOf, chk]; simp [nodes_len]
  rw [hR]
  by_cases h5 : 4 ≤ d
  · simp [h5] at g
    simp [rc42, rs42, g, h5]
  by_cases h6 : 64 < l.length
  · simp [h5, h6] at g
    simp [rc42, rs42, g, h5, h6]
  rw [if_neg h5, if_neg h6] at g ⊢
  simp [rc42, rs42, g]
  refine W_varU (fun i : Nat => i ≤ l.length ∧ chkL (d + 1) false [] 0 (nodes l) = chkL (d + 1) false [] i ((nodes l).drop i)) (fun i => l.length - i) (fun i => [(18, .int .i64 i)]) 0 ⟨Nat.zero_le _, rfl⟩ (by simp) ?_
  rintro i ⟨hi, hc⟩
  rw [hc]
  rcases Nat.lt_or_ge i l.length with hlt | hge
  · have hlt' : (i : Int) < l.length := by omega
    have q := R29_eq (2 * Vl.sz (.list l)) l[i] (d + 1) ⟨fines_get l hf i hlt, by omega⟩ (by have := size_item hlt; omega)
    have hat := vls_at l i (by simpa using hlt)
    have hle := chk_le (d + 1) (nodeOf l[i])
    rw [nodes_drop l i hlt, chkL_stepN]
    rw [Int.natCast_add, Int.natCast_one] at q
    by_cases h9 : chk (d + 1) (nodeOf l[i]) = 0
    · rw [h9] at q
      rcases vav_form ids l[i] with ⟨u, x, e⟩ | e <;> rw [e] at q hat <;> simp [hlt, hlt', hat, q, h9]
      all_goals repeat' refine And.intro ?_ ?_
      all_goals first | omega | exact ⟨i + 1, ⟨by omega, rfl⟩, by omega, by omega⟩
    · have h9' : ¬ (chk (d + 1) (nodeOf l[i]) : Int) = 0 := by omega
      rcases vav_form ids l[i] with ⟨u, x, e⟩ | e <;> rw [e] at q hat <;> simp [hlt, hlt', hat, q, h9, h9']
      all_goals omega
  · have e : i = l.length := by omega
    subst e
    have : (nodes l).drop l.length = [] := by rw [← nodes_len l]; simp
    rw [this]
    simp [chkL]
theorem st43 (l : List (Tx × Vl)) (d : Nat) (h : l.length ≤ 1000000 ∧ fineP l ∧ d ≤ 100) (hT : Sound Try.prog (M29_3 (2 * Vl.sz (.pairs l)))) : PFx Try.prog 43 [.sl (prs ids l) l.length, .int .i64 d] (.int .i64 (chk d (nodeOf (.pairs l)))) := by
  refine PFx_of_W (rc := rc43) (rs := rs43) Try.func43 rfl hT hm (by kernel_rfl) (by kernel_rfl) (by simp [Try.ntmps43]) ?_
  obtain ⟨hl, hf, hd⟩ := h
  have g := T61_eq l.length d
  have hR : chk d (nodeOf (.pairs l)) = if 4 ≤ d then 24 else if 64 < l.length then 5 else chkL (d + 1) true (l.map Prod.fst) 0 (nodeP l) := by
    rw [nodeOf, chk]; simp [nodeP_len]
  rw [hR]
  by_cases h5 : 4 ≤ d
  · simp [h5] at g
    simp [rc43, rs43, g, h5]
  by_cases h6 : 64 < l.length
  · simp [h5, h6] at g
    simp [rc43, rs43, g, h5, h6]
  rw [if_neg h5, if_neg h6] at g ⊢
  simp [rc43, rs43, g]
  refine W_varU (fun i : Nat => i ≤ l.length ∧ chkL (d + 1) true (l.map Prod.fst) 0 (nodeP l) = chkL (d + 1) true (l.map Prod.fst) i ((nodeP l).drop i)) (fun i => l.length - i) (fun i => [(19, .int .i64 i)]) 0 ⟨Nat.zero_le _, rfl⟩ (by simp) ?_
  rintro i ⟨hi, hc⟩
  rw [hc]
  rcases Nat.lt_or_ge i l.length with hlt | hge
  · have hlt' : (i : Int) < l.length := by omega
    have q := R29_eq (2 * Vl.sz (.pairs l)) l[i].2 (d + 1) ⟨fineP_get l hf i hlt, by omega⟩ (by have := size_pair hlt; omega)
    have q2 := T62_eq l i ⟨hlt, hl⟩
    obtain ⟨hat0, hat1⟩ := prs_at l i hlt
    obtain ⟨u0, hat0⟩ := List.getElem?_eq_some_iff.1 hat0
    obtain ⟨u1, hat1⟩ := List.getElem?_eq_some_iff.1 hat1
    have hg := prs_get ids l i hlt
    have hle := chk_le (d + 1) (nodeOf l[i].2)
    have h2 : 2 ≤ l.length * 2 - i * 2 := by omega
    have h3 : 0 < l.length * 2 - i * 2 := by omega
    have h4 : 0 < l.length * 2 - (i * 2 + 1) := by omega
    rw [nodeP_drop l i hlt, chkL_step]
    rw [Int.natCast_add, Int.natCast_one] at q
    by_cases h8 : nameE (l.map Prod.fst) i = 0
    · rw [h8] at q2
      by_cases h9 : chk (d + 1) (nodeOf l[i].2) = 0
      · rw [h9] at q
        rcases vav_form ids l[i].2 with ⟨u, x, e⟩ | e <;> rw [e] at q hat1 hg <;> simp [hlt, hlt', h2, h3, h4, hg, q, q2, h8, h9]
        all_goals repeat' refine And.intro ?_ ?_
        all_goals first | omega | exact ⟨i + 1, ⟨by omega, rfl⟩, by omega, by omega⟩
      · have h9' : ¬ (chk (d + 1) (nodeOf l[i].2) : Int) = 0 := by omega
        rcases vav_form ids l[i].2 with ⟨u, x, e⟩ | e <;> rw [e] at q hat1 hg <;> simp [hlt, hlt', h2, h3, h4, hg, q, q2, h8, h9, h9']
        all_goals omega
    · have h8' : ¬ (nameE (l.map Prod.fst) i : Int) = 0 := by omega
      rcases vav_form ids l[i].2 with ⟨u, x, e⟩ | e <;> rw [e] at q hat1 hg <;> simp [hlt, hlt', h2, h3, h4, hg, q2, h8, h8']
  · have e : i = l.length := by omega
    subst e
    have : (nodeP l).drop l.length = [] := by rw [← nodeP_len l]; simp
    rw [this]
    simp [chkL]
theorem M29_ok (m : Nat) : Sound Try.prog (M29_3 m) := by
  induction m using Nat.strongRecOn with
  | ind m ih => exact (tabAdd_sound (tabAdd_sound (tabAdd_sound T62_ok fun z h => st29 z.1 z.2 h.1 (ih _ h.2)) fun z h => st42 z.1 z.2 h.1 (ih _ h.2)) fun z h => st43 z.1 z.2 h.1 (ih _ h.2))
theorem pf29 (v : Vl) (d : Nat) (h : v.fine ∧ d ≤ 100) : PFx Try.prog 29 [v.av ids, .int .i64 d] (.int .i64 (chk d (nodeOf v))) := st29 v d h (M29_ok _)
noncomputable def T29 : Tab := tabAdd T62 29 (fun z : Vl × Nat => z.1.fine ∧ z.2 ≤ 100) (fun z => [z.1.av ids, .int .i64 z.2]) (fun z => .int .i64 (chk z.2 (nodeOf z.1)))
@[simp] theorem T29_eq (v : Vl) (d : Nat) (h : v.fine ∧ d ≤ 100) : T29 29 [v.av ids, .int .i64 d] = some (.int .i64 (chk d (nodeOf v))) := tabAdd_eq (a := (v, d)) (vl_inj2 (f := fun v d => AV.int .i64 (chk d (nodeOf v)))) h rfl
@[simp] theorem T29_ne {g : Nat} {xs : List AV} (h : g ≠ 29) : T29 g xs = T62 g xs := tabAdd_ne h
theorem T29_ok : Sound Try.prog T29 := tabAdd_sound T62_ok fun z h => pf29 z.1 z.2 h
theorem pf42 (l : List Vl) (d : Nat) (h : l.length ≤ 1000000 ∧ fines l ∧ d ≤ 100) : PFx Try.prog 42 [.sl (vls ids l) l.length, .int .i64 d] (.int .i64 (chk d (nodeOf (.list l)))) := st42 l d h (M29_ok _)
noncomputable def T42 : Tab := tabAdd T29 42 (fun z : (List Vl) × Nat => z.1.length ≤ 1000000 ∧ fines z.1 ∧ z.2 ≤ 100) (fun z => [.sl (vls ids z.1) z.1.length, .int .i64 z.2]) (fun z => .int .i64 (chk z.2 (nodeOf (.list z.1))))
@[simp] theorem T42_eq (l : List Vl) (d : Nat) (h : l.length ≤ 1000000 ∧ fines l ∧ d ≤ 100) : T42 42 [.sl (vls ids l) l.length, .int .i64 d] = some (.int .i64 (chk d (nodeOf (.list l)))) := tabAdd_eq (a := (l, d)) (vls_inj2 (f := fun l d => AV.int .i64 (chk d (nodeOf (.list l))))) h rfl
@[simp] theorem T42_ne {g : Nat} {xs : List AV} (h : g ≠ 42) : T42 g xs = T29 g xs := tabAdd_ne h
theorem T42_ok : Sound Try.prog T42 := tabAdd_sound T29_ok fun z h => pf42 z.1 z.2 h
theorem pf43 (l : List (Tx × Vl)) (d : Nat) (h : l.length ≤ 1000000 ∧ fineP l ∧ d ≤ 100) : PFx Try.prog 43 [.sl (prs ids l) l.length, .int .i64 d] (.int .i64 (chk d (nodeOf (.pairs l)))) := st43 l d h (M29_ok _)
noncomputable def T43 : Tab := tabAdd T42 43 (fun z : (List (Tx × Vl)) × Nat => z.1.length ≤ 1000000 ∧ fineP z.1 ∧ z.2 ≤ 100) (fun z => [.sl (prs ids z.1) z.1.length, .int .i64 z.2]) (fun z => .int .i64 (chk z.2 (nodeOf (.pairs z.1))))
@[simp] theorem T43_eq (l : List (Tx × Vl)) (d : Nat) (h : l.length ≤ 1000000 ∧ fineP l ∧ d ≤ 100) : T43 43 [.sl (prs ids l) l.length, .int .i64 d] = some (.int .i64 (chk d (nodeOf (.pairs l)))) := tabAdd_eq (a := (l, d)) (prs_inj2 (f := fun l d => AV.int .i64 (chk d (nodeOf (.pairs l))))) h rfl
@[simp] theorem T43_ne {g : Nat} {xs : List AV} (h : g ≠ 43) : T43 g xs = T42 g xs := tabAdd_ne h
theorem T43_ok : Sound Try.prog T43 := tabAdd_sound T42_ok fun z h => pf43 z.1 z.2 h
theorem pf13 (v : Vl) (h : v.fine) : PFx Try.prog 13 [v.av ids] (.int .i64 (chk 0 (nodeOf v))) := by
  refine PFx_of_W (rc := rc13) (rs := rs13) Try.func13 rfl T43_ok hm (by kernel_rfl) (by kernel_rfl) (by simp [Try.ntmps13]) ?_
  have q := T29_eq v 0 ⟨h, by omega⟩
  rcases vav_form ids v with ⟨u, x, e⟩ | e <;> rw [e] at q ⊢ <;> simp at q <;> simp [rc13, rs13, q]
noncomputable def T13 : Tab := tabAdd T43 13 (fun z : Vl => z.fine) (fun z => [z.av ids]) (fun z => .int .i64 (chk 0 (nodeOf z)))
@[simp] theorem T13_eq (v : Vl) (h : v.fine) : T13 13 [v.av ids] = some (.int .i64 (chk 0 (nodeOf v))) := tabAdd_eq (a := v) (vl_inj1 (f := fun v => AV.int .i64 (chk 0 (nodeOf v)))) h rfl
@[simp] theorem T13_ne {g : Nat} {xs : List AV} (h : g ≠ 13) : T13 g xs = T43 g xs := tabAdd_ne h
theorem T13_ok : Sound Try.prog T13 := tabAdd_sound T43_ok fun z h => pf13 z h
end Go.Proofs.Ytbikpgaiocjnoaa

