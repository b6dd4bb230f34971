/- The program's entry, whole: values compared, copied and looked at. -/
import Derived.Test.YtbikpgaiocjnoaaY3
set_option linter.unusedVariables false
set_option linter.unusedSimpArgs false
namespace Go.Proofs.Ytbikpgaiocjnoaa
open Go.Proofs.Ytbikpgaiocjnoaa.Pad Go.Proofs.Ytbikpgaiocjnoaa.Pad.En
theorem eqs_inj {α : Type} {f : List Vl → List Vl → α} (u : AV) : ∀ a b : List Vl × List Vl, [AV.sl (vls ids a.1) a.1.length, AV.sl (vls ids a.2) a.2.length, u] = [AV.sl (vls ids b.1) b.1.length, AV.sl (vls ids b.2) b.2.length, u] → f a.1 a.2 = f b.1 b.2 := by
  rintro ⟨x, i⟩ ⟨y, j⟩ h
  simp only [List.cons.injEq, AV.sl.injEq, and_true] at h
  rw [vls_inj ids ids_apart _ _ h.1.1, vls_inj ids ids_apart _ _ h.2.1]
theorem eqp_inj {α : Type} {f : List (Tx × Vl) → List (Tx × Vl) → α} (u : AV) : ∀ a b : List (Tx × Vl) × List (Tx × Vl), [AV.sl (prs ids a.1) a.1.length, AV.sl (prs ids a.2) a.2.length, u] = [AV.sl (prs ids b.1) b.1.length, AV.sl (prs ids b.2) b.2.length, u] → f a.1 a.2 = f b.1 b.2 := by
  rintro ⟨x, i⟩ ⟨y, j⟩ h
  simp only [List.cons.injEq, AV.sl.injEq, and_true] at h
  rw [prs_inj ids ids_apart _ _ h.1.1, prs_inj ids ids_apart _ _ h.2.1]
theorem eqq_inj {α : Type} {f : Tx × Vl → Tx × Vl → α} : ∀ a b : (Tx × Vl) × (Tx × Vl), [AV.agg (pr ids a.1), AV.agg (pr ids a.2)] = [AV.agg (pr ids b.1), AV.agg (pr ids b.2)] → f a.1 a.2 = f b.1 b.2 := by
  rintro ⟨x, i⟩ ⟨y, j⟩ h
  simp only [List.cons.injEq, AV.agg.injEq, and_true] at h
  rw [pr_inj ids ids_apart _ _ h.1, pr_inj ids ids_apart _ _ h.2]
theorem prs_keep (l : List (Tx × Vl)) (i : Nat) (h : i < l.length) : splice (prs ids l) (i * 2 + 1) [l[i].2.av ids] = prs ids l := by
  have e : l = l.take i ++ (l[i].1, l[i].2) :: l.drop (i + 1) := by rw [← drop_eq l i h]; exact (List.take_append_drop ..).symm
  have hl : (l.take i).length = i := by simp; omega
  have := prs_mid' ids (l.take i) (l.drop (i + 1)) l[i].1 l[i].2 l[i].2
  rw [hl, ← e] at this
  exact this
theorem sz_pos (v : Vl) : 0 < v.sz := by cases v <;> simp [Vl.sz] <;> omega
theorem pr_form (x : Tx × Vl) : pr ids x = [.str x.1, x.2.av ids] := by obtain ⟨s, v⟩ := x; rfl
theorem size_pair2 {l : List (Tx × Vl)} {i : Nat} (h : i < l.length) : Vl.sz l[i].2 + 3 ≤ Vl.sz (.pairs l) := by
  have := List.sizeOf_lt_of_mem (List.getElem_mem h)
  have h2 : SizeOf.sizeOf l[i].2 + 1 ≤ SizeOf.sizeOf l[i] := by
    obtain ⟨a, b⟩ := l[i]
    simp only [Prod.mk.sizeOf_spec]; omega
  unfold Vl.sz
  simp only [Vl.pairs.sizeOf_spec]; omega
/-- padlock/entry.equal -/
def rc37 : RC :=
  (.seq
   (.reg false [⟨(some 4), .mov (.c (.bool false)), none⟩] [0, 1])
   (.seq
    (.seq
     (.reg false [⟨(some 20), .mov (.t 0), none⟩] [1, 20])
     (.block 0
      (.seq
       (.reg false [⟨(some 21), .asI 4 true (.bool false) (.t 20), none⟩,
         ⟨(some 22), .ext (.t 21) 1, none⟩,
         ⟨(some 23), .ext (.t 21) 0, none⟩] [1, 20, 22, 23])
       (.cond 22
        (.seq
         (.reg false [⟨(some 5), .mov (.t 23), none⟩] [1, 5])
         (.seq
          (.reg false [⟨(some 25), .mov (.t 1), none⟩,
            ⟨(some 26), .asI 4 true (.bool false) (.t 25), none⟩,
            ⟨(some 24), .mov (.t 26), none⟩,
            ⟨(some 27), .ext (.t 24) 0, none⟩,
            ⟨(some 28), .ext (.t 24) 1, none⟩,
            ⟨(some 6), .mov (.t 27), none⟩,
            ⟨(some 7), .mov (.t 28), none⟩] [5, 6, 7])
          (.seq
           (.reg false [⟨(some 29), .mov (.t 7), none⟩,
             ⟨(some 30), .mov (.t 29), none⟩,
             ⟨(some 31), .mov (.t 5), (some (30, true))⟩,
             ⟨(some 32), .mov (.t 6), (some (30, true))⟩,
             ⟨(some 33), .beq false none (.t 31) (.t 32), (some (30, true))⟩,
             ⟨(some 34), .pick (.t 30) (.t 33) (.c (.bool false)), none⟩,
             ⟨(some 4), .mov (.t 34), none⟩] [4])
           .ret)))
        (.seq
         (.reg false [⟨(some 35), .asI 22 true (.int .u64 0) (.t 20), none⟩,
           ⟨(some 36), .ext (.t 35) 1, none⟩,
           ⟨(some 37), .ext (.t 35) 0, none⟩] [1, 20, 36, 37])
         (.cond 36
          (.seq
           (.reg false [⟨(some 8), .mov (.t 37), none⟩] [1, 8])
           (.seq
            (.reg false [⟨(some 39), .mov (.t 1), none⟩,
              ⟨(some 40), .asI 22 true (.int .u64 0) (.t 39), none⟩,
              ⟨(some 38), .mov (.t 40), none⟩,
              ⟨(some 41), .ext (.t 38) 0, none⟩,
              ⟨(some 42), .ext (.t 38) 1, none⟩,
              ⟨(some 9), .mov (.t 41), none⟩,
              ⟨(some 10), .mov (.t 42), none⟩] [8, 9, 10])
            (.seq
             (.reg false [⟨(some 43), .mov (.t 10), none⟩,
               ⟨(some 44), .mov (.t 43), none⟩,
               ⟨(some 45), .mov (.t 8), (some (44, true))⟩,
               ⟨(some 46), .mov (.t 9), (some (44, true))⟩,
               ⟨(some 47), .bin .eql false (.t 45) (.t 46), (some (44, true))⟩,
               ⟨(some 48), .pick (.t 44) (.t 47) (.c (.bool false)), none⟩,
               ⟨(some 4), .mov (.t 48), none⟩] [4])
             .ret)))
          (.seq
           (.reg false [⟨(some 49), .asI 9 true (.str []) (.t 20), none⟩,
             ⟨(some 50), .ext (.t 49) 1, none⟩,
             ⟨(some 51), .ext (.t 49) 0, none⟩] [1, 20, 50, 51])
           (.cond 50
            (.seq
             (.reg false [⟨(some 11), .mov (.t 51), none⟩] [1, 11])
             (.seq
              (.reg false [⟨(some 53), .mov (.t 1), none⟩,
                ⟨(some 54), .asI 9 true (.str []) (.t 53), none⟩,
                ⟨(some 52), .mov (.t 54), none⟩,
                ⟨(some 55), .ext (.t 52) 0, none⟩,
                ⟨(some 56), .ext (.t 52) 1, none⟩,
                ⟨(some 12), .mov (.t 55), none⟩,
                ⟨(some 13), .mov (.t 56), none⟩] [11, 12, 13])
              (.seq
               (.reg false [⟨(some 57), .mov (.t 13), none⟩,
                 ⟨(some 58), .mov (.t 57), none⟩,
                 ⟨(some 59), .mov (.t 11), (some (58, true))⟩,
                 ⟨(some 60), .mov (.t 12), (some (58, true))⟩,
                 ⟨(some 61), .bin .eql false (.t 59) (.t 60), (some (58, true))⟩,
                 ⟨(some 62), .pick (.t 58) (.t 61) (.c (.bool false)), none⟩,
                 ⟨(some 4), .mov (.t 62), none⟩] [4])
               .ret)))
            (.seq
             (.reg false [⟨(some 63), .asI 57 true (.sl [] 0) (.t 20), none⟩,
               ⟨(some 64), .ext (.t 63) 1, none⟩,
               ⟨(some 65), .ext (.t 63) 0, none⟩] [1, 20, 64, 65])
             (.cond 64
              (.seq
               (.reg false [⟨(some 14), .steal 65, none⟩] [1, 14])
               (.seq
                (.reg false [⟨(some 67), .mov (.t 1), none⟩,
                  ⟨(some 68), .asI 57 true (.sl [] 0) (.t 67), none⟩,
                  ⟨(some 66), .mov (.t 68), none⟩,
                  ⟨(some 69), .ext (.t 66) 0, none⟩,
                  ⟨(some 70), .ext (.t 66) 1, none⟩,
                  ⟨(some 15), .steal 69, none⟩,
                  ⟨(some 16), .mov (.t 70), none⟩] [14, 15, 16])
                (.seq
                 (.reg false [⟨(some 71), .mov (.t 16), none⟩,
                   ⟨(some 72), .mov (.t 71), none⟩,
                   ⟨(some 73), .mov (.t 14), (some (72, true))⟩,
                   ⟨(some 74), .mov (.t 15), (some (72, true))⟩,
                   ⟨(some 75), .call 56 [(false, (.t 73)), (false, (.t 74)), (false, (.c (.fn 37 [] [])))], (some (72, true))⟩,
                   ⟨(some 76), .pick (.t 72) (.t 75) (.c (.bool false)), none⟩,
                   ⟨(some 4), .mov (.t 76), none⟩] [4])
                 .ret)))
              (.seq
               (.reg false [⟨(some 77), .asI 61 true (.sl [] 0) (.t 20), none⟩,
                 ⟨(some 78), .ext (.t 77) 1, none⟩,
                 ⟨(some 79), .ext (.t 77) 0, none⟩] [1, 78, 79])
               (.cond 78
                (.seq
                 (.reg false [⟨(some 17), .steal 79, none⟩] [1, 17])
                 (.seq
                  (.reg false [⟨(some 81), .mov (.t 1), none⟩,
                    ⟨(some 82), .asI 61 true (.sl [] 0) (.t 81), none⟩,
                    ⟨(some 80), .mov (.t 82), none⟩,
                    ⟨(some 83), .ext (.t 80) 0, none⟩,
                    ⟨(some 84), .ext (.t 80) 1, none⟩,
                    ⟨(some 18), .steal 83, none⟩,
                    ⟨(some 19), .mov (.t 84), none⟩] [17, 18, 19])
                  (.seq
                   (.reg false [⟨(some 85), .mov (.t 19), none⟩,
                     ⟨(some 86), .mov (.t 85), none⟩,
                     ⟨(some 87), .mov (.t 17), (some (86, true))⟩,
                     ⟨(some 88), .mov (.t 18), (some (86, true))⟩,
                     ⟨(some 89), .call 57 [(false, (.t 87)), (false, (.t 88)), (false, (.c (.fn 58 [] [])))], (some (86, true))⟩,
                     ⟨(some 90), .pick (.t 86) (.t 89) (.c (.bool false)), none⟩,
                     ⟨(some 4), .mov (.t 90), none⟩] [4])
                   .ret)))
                (.reg false [] [1])))))))))))))
    (.seq
     (.reg false [⟨(some 91), .mov (.t 1), none⟩,
       ⟨(some 92), .isNil false false (.t 91), none⟩,
       ⟨(some 4), .mov (.t 92), none⟩] [4])
     .ret)))
def rs37 : List RS := [.tmp 4]
/-- slices.EqualFunc[[]any,[]any,any,any] -/
def rc56 : RC :=
  (.seq
   (.reg false [⟨(some 6), .mov (.c (.bool false)), none⟩] [0, 1, 2])
   (.seq
    (.seq
     (.reg false [⟨(some 10), .mov (.t 0), none⟩,
       ⟨(some 11), .len false (.t 10), none⟩,
       ⟨(some 12), .mov (.t 1), none⟩,
       ⟨(some 13), .len false (.t 12), none⟩,
       ⟨(some 14), .bin .neq true (.t 11) (.t 13), none⟩] [0, 1, 2, 14])
     (.cond 14
      (.seq
       (.reg false [⟨(some 6), .mov (.c (.bool false)), none⟩] [6])
       .ret)
      (.reg false [] [0, 1, 2])))
    (.seq
     (.seq
      (.reg false [⟨(some 15), .mov (.t 0), none⟩,
        ⟨(some 16), .len false (.t 15), none⟩,
        ⟨(some 17), .mov (.c (.int .i64 0)), none⟩] [1, 2, 15, 16, 17])
      (.block 0
       (.loop
        (.seq
         (.reg false [⟨(some 18), .bin .lss true (.t 17) (.t 16), none⟩] [1, 2, 15, 16, 17, 18])
         (.seq
          (.cond 18
           (.reg false [] [1, 2, 15, 16, 17])
           (.seq
            (.reg false [] [])
            (.exit 0)))
          (.seq
           (.block 1
            (.seq
             (.reg false [⟨(some 19), .mov (.t 17), none⟩,
               ⟨(some 20), .idxA 1 (.t 15) (.t 17), none⟩,
               ⟨(some 21), .loadP (.t 20) 1 false, none⟩,
               ⟨(some 7), .mov (.t 19), none⟩,
               ⟨(some 8), .mov (.t 21), none⟩] [1, 2, 7, 8, 15, 16, 17])
             (.seq
              (.reg false [⟨(some 22), .mov (.t 1), none⟩,
                ⟨(some 23), .mov (.t 7), none⟩,
                ⟨(some 24), .idxA 1 (.t 22) (.t 23), none⟩,
                ⟨(some 25), .loadP (.t 24) 1 false, none⟩,
                ⟨(some 9), .mov (.t 25), none⟩] [1, 2, 8, 9, 15, 16, 17])
              (.seq
               (.reg false [⟨(some 26), .mov (.t 2), none⟩,
                 ⟨(some 27), .mov (.t 8), none⟩,
                 ⟨(some 28), .mov (.t 9), none⟩,
                 ⟨(some 29), .callF (.t 26) [(.t 27), (.t 28)] [37, 58], none⟩,
                 ⟨(some 30), .un .not (.t 29), none⟩] [1, 2, 15, 16, 17, 30])
               (.cond 30
                (.seq
                 (.reg false [⟨(some 6), .mov (.c (.bool false)), none⟩] [6])
                 .ret)
                (.reg false [] [1, 2, 15, 16, 17]))))))
           (.reg false [⟨(some 31), .bin .add true (.t 17) (.c (.int .i64 1)), none⟩,
             ⟨(some 17), .mov (.t 31), none⟩] [1, 2, 15, 16, 17])))))))
     (.seq
      (.reg false [⟨(some 6), .mov (.c (.bool true)), none⟩] [6])
      .ret))))
def rs56 : List RS := [.tmp 6]
/-- slices.EqualFunc[[]padlock/entry.Pair,[]padlock/entry.Pair,padlock/entry.Pair,padlock/entry.Pair] -/
def rc57 : RC :=
  (.seq
   (.reg false [⟨(some 6), .mov (.c (.bool false)), none⟩] [0, 1, 2])
   (.seq
    (.seq
     (.reg false [⟨(some 10), .mov (.t 0), none⟩,
       ⟨(some 11), .len false (.t 10), none⟩,
       ⟨(some 12), .mov (.t 1), none⟩,
       ⟨(some 13), .len false (.t 12), none⟩,
       ⟨(some 14), .bin .neq true (.t 11) (.t 13), none⟩] [0, 1, 2, 14])
     (.cond 14
      (.seq
       (.reg false [⟨(some 6), .mov (.c (.bool false)), none⟩] [6])
       .ret)
      (.reg false [] [0, 1, 2])))
    (.seq
     (.seq
      (.reg false [⟨(some 15), .mov (.t 0), none⟩,
        ⟨(some 16), .len false (.t 15), none⟩,
        ⟨(some 17), .mov (.c (.int .i64 0)), none⟩] [1, 2, 15, 16, 17])
      (.block 0
       (.loop
        (.seq
         (.reg false [⟨(some 18), .bin .lss true (.t 17) (.t 16), none⟩] [1, 2, 15, 16, 17, 18])
         (.seq
          (.cond 18
           (.reg false [] [1, 2, 15, 16, 17])
           (.seq
            (.reg false [] [])
            (.exit 0)))
          (.seq
           (.block 1
            (.seq
             (.reg false [⟨(some 19), .mov (.t 17), none⟩,
               ⟨(some 20), .idxA 2 (.t 15) (.t 17), none⟩,
               ⟨(some 21), .loadP (.t 20) 2 true, none⟩,
               ⟨(some 8), .alloc [(.str []), .nilI], none⟩,
               ⟨(some 7), .mov (.t 19), none⟩,
               ⟨none, .stB 8 2 (.t 21), none⟩] [1, 2, 7, 8, 15, 16, 17])
             (.seq
              (.reg false [⟨(some 22), .mov (.t 1), none⟩,
                ⟨(some 23), .mov (.t 7), none⟩,
                ⟨(some 24), .idxA 2 (.t 22) (.t 23), none⟩,
                ⟨(some 25), .loadP (.t 24) 2 true, none⟩,
                ⟨(some 9), .alloc [(.str []), .nilI], none⟩,
                ⟨none, .stB 9 2 (.t 25), none⟩] [1, 2, 8, 9, 15, 16, 17])
              (.seq
               (.reg false [⟨(some 26), .mov (.t 2), none⟩,
                 ⟨(some 27), .loadB 8 2 true, none⟩,
                 ⟨(some 28), .loadB 9 2 true, none⟩,
                 ⟨(some 29), .callF (.t 26) [(.t 27), (.t 28)] [37, 58], none⟩,
                 ⟨(some 30), .un .not (.t 29), none⟩] [1, 2, 15, 16, 17, 30])
               (.cond 30
                (.seq
                 (.reg false [⟨(some 6), .mov (.c (.bool false)), none⟩] [6])
                 .ret)
                (.reg false [] [1, 2, 15, 16, 17]))))))
           (.reg false [⟨(some 31), .bin .add true (.t 17) (.c (.int .i64 1)), none⟩,
             ⟨(some 17), .mov (.t 31), none⟩] [1, 2, 15, 16, 17])))))))
     (.seq
      (.reg false [⟨(some 6), .mov (.c (.bool true)), none⟩] [6])
      .ret))))
def rs57 : List RS := [.tmp 6]
/-- padlock/entry.equalPair -/
def rc58 : RC :=
  (.seq
   (.reg false [⟨(some 2), .box (.t 0), none⟩,
     ⟨(some 3), .box (.t 1), none⟩,
     ⟨(some 4), .mov (.c (.bool false)), none⟩] [2, 3])
   (.seq
    (.reg false [⟨(some 5), .fldB 2 0, none⟩,
      ⟨(some 6), .loadR 5 2 1 false, none⟩,
      ⟨(some 7), .fldB 3 0, none⟩,
      ⟨(some 8), .loadR 7 3 1 false, none⟩,
      ⟨(some 9), .bin .eql false (.t 6) (.t 8), none⟩,
      ⟨(some 10), .mov (.t 9), none⟩,
      ⟨(some 11), .fldB 2 1, (some (10, true))⟩,
      ⟨(some 12), .loadR 11 2 1 false, (some (10, true))⟩,
      ⟨(some 13), .fldB 3 1, (some (10, true))⟩,
      ⟨(some 14), .loadR 13 3 1 false, (some (10, true))⟩,
      ⟨(some 15), .call 37 [(false, (.t 12)), (false, (.t 14))], (some (10, true))⟩,
      ⟨(some 16), .pick (.t 10) (.t 15) (.c (.bool false)), none⟩,
      ⟨(some 4), .mov (.t 16), none⟩] [4])
    .ret))
def rs58 : List RS := [.tmp 4]
/-- slices.Clone[[]any,any] -/
def rc69 : RC :=
  (.seq
   (.reg false [⟨(some 2), .nilM 1, none⟩] [0])
   (.seq
    (.seq
     (.reg false [⟨(some 3), .mov (.t 0), none⟩,
       ⟨(some 4), .isNilS false (.t 3), none⟩] [0, 4])
     (.cond 4
      (.seq
       (.reg false [⟨(some 2), .nilM 1, none⟩] [2])
       .ret)
      (.reg false [] [0])))
    (.seq
     (.reg false [⟨(some 5), .mkSlM 1 0 [] [], none⟩,
       ⟨(some 6), .mov (.t 0), none⟩,
       ⟨(some 7), .appM 1 16 5 (.t 6), none⟩,
       ⟨(some 2), .stealM 7, none⟩] [2])
     .ret)))
def rs69 : List RS := [.tmp 2]
/-- slices.Clone[[]padlock/entry.Pair,padlock/entry.Pair] -/
def rc70 : RC :=
  (.seq
   (.reg false [⟨(some 2), .nilM 2, none⟩] [0])
   (.seq
    (.seq
     (.reg false [⟨(some 3), .mov (.t 0), none⟩,
       ⟨(some 4), .isNilS false (.t 3), none⟩] [0, 4])
     (.cond 4
      (.seq
       (.reg false [⟨(some 2), .nilM 2, none⟩] [2])
       .ret)
      (.reg false [] [0])))
    (.seq
     (.reg false [⟨(some 5), .mkSlM 2 0 [] [], none⟩,
       ⟨(some 6), .mov (.t 0), none⟩,
       ⟨(some 7), .appM 2 32 5 (.t 6), none⟩,
       ⟨(some 2), .stealM 7, none⟩] [2])
     .ret)))
def rs70 : List RS := [.tmp 2]
/-- padlock/entry.copyOf -/
def rc36 : RC :=
  (.seq
   (.reg false [⟨(some 4), .mov (.c .nilI), none⟩] [0, 1])
   (.seq
    (.seq
     (.reg false [⟨(some 7), .mov (.t 1), none⟩,
       ⟨(some 8), .bin .geq true (.t 7) (.c (.int .i64 4)), none⟩] [0, 1, 8])
     (.cond 8
      (.seq
       (.reg false [⟨(some 9), .mov (.t 0), none⟩,
         ⟨(some 4), .mov (.t 9), none⟩] [4])
       .ret)
      (.reg false [] [0, 1])))
    (.seq
     (.seq
      (.reg false [⟨(some 10), .mov (.t 0), none⟩] [0, 1, 10])
      (.block 0
       (.seq
        (.reg false [⟨(some 11), .asI 57 true (.sl [] 0) (.t 10), none⟩,
          ⟨(some 12), .ext (.t 11) 1, none⟩,
          ⟨(some 13), .ext (.t 11) 0, none⟩] [0, 1, 10, 12, 13])
        (.cond 12
         (.seq
          (.reg false [⟨(some 5), .steal 13, none⟩] [1, 5])
          (.seq
           (.reg false [⟨(some 14), .mov (.t 5), none⟩,
             ⟨(some 15), .mov (.t 1), none⟩,
             ⟨(some 16), .call 54 [(false, (.t 14)), (false, (.t 15))], none⟩,
             ⟨(some 17), .mkI 57 (.t 16), none⟩,
             ⟨(some 4), .mov (.t 17), none⟩] [4])
           .ret))
         (.seq
          (.reg false [⟨(some 18), .asI 61 true (.sl [] 0) (.t 10), none⟩,
            ⟨(some 19), .ext (.t 18) 1, none⟩,
            ⟨(some 20), .ext (.t 18) 0, none⟩] [0, 1, 19, 20])
          (.cond 19
           (.seq
            (.reg false [⟨(some 6), .steal 20, none⟩] [1, 6])
            (.seq
             (.reg false [⟨(some 21), .mov (.t 6), none⟩,
               ⟨(some 22), .mov (.t 1), none⟩,
               ⟨(some 23), .call 55 [(false, (.t 21)), (false, (.t 22))], none⟩,
               ⟨(some 24), .mkI 61 (.t 23), none⟩,
               ⟨(some 4), .mov (.t 24), none⟩] [4])
             .ret))
           (.reg false [] [0])))))))
     (.seq
      (.reg false [⟨(some 25), .mov (.t 0), none⟩,
        ⟨(some 4), .mov (.t 25), none⟩] [4])
      .ret))))
def rs36 : List RS := [.tmp 4]
/-- padlock/entry.copyList -/
def rc54 : RC :=
  (.seq
   (.reg false [⟨(some 4), .nilR 1, none⟩] [0, 1])
   (.seq
    (.reg false [⟨(some 6), .mov (.t 0), none⟩,
      ⟨(some 7), .call 69 [(false, (.t 6))], none⟩,
      ⟨(some 0), .stealM 7, none⟩] [0, 1])
    (.seq
     (.seq
      (.reg false [⟨(some 8), .al 0, none⟩,
        ⟨(some 9), .lenM 8 0, none⟩,
        ⟨(some 10), .bin .leq true (.t 9) (.c (.int .i64 64)), none⟩] [0, 1, 10])
      (.cond 10
       (.seq
        (.reg false [⟨(some 11), .al 0, none⟩,
          ⟨(some 12), .lenM 11 0, none⟩,
          ⟨(some 13), .mov (.c (.int .i64 0)), none⟩] [0, 1, 12, 13])
        (.block 0
         (.loop
          (.seq
           (.reg false [⟨(some 14), .bin .lss true (.t 13) (.t 12), none⟩] [0, 1, 12, 13, 14])
           (.seq
            (.cond 14
             (.reg false [] [0, 1, 12, 13])
             (.seq
              (.reg false [] [0])
              (.exit 0)))
            (.seq
             (.block 1
              (.seq
               (.reg false [⟨(some 15), .mov (.t 13), none⟩,
                 ⟨(some 5), .mov (.t 15), none⟩] [0, 1, 5, 12, 13])
               (.reg false [⟨(some 16), .al 0, none⟩,
                 ⟨(some 17), .mov (.t 5), none⟩,
                 ⟨(some 18), .al 0, none⟩,
                 ⟨(some 19), .mov (.t 5), none⟩,
                 ⟨(some 20), .idxM 18 0 1 (.t 19), none⟩,
                 ⟨(some 21), .loadR 20 0 1 false, none⟩,
                 ⟨(some 22), .mov (.t 1), none⟩,
                 ⟨(some 23), .bin .add true (.t 22) (.c (.int .i64 1)), none⟩,
                 ⟨(some 24), .call 36 [(false, (.t 21)), (false, (.t 23))], none⟩,
                 ⟨(some 25), .idxM 16 0 1 (.t 17), none⟩,
                 ⟨none, .stR 25 0 1 (.t 24), none⟩] [0, 1, 12, 13])))
             (.reg false [⟨(some 26), .bin .add true (.t 13) (.c (.int .i64 1)), none⟩,
               ⟨(some 13), .mov (.t 26), none⟩] [0, 1, 12, 13])))))))
       (.reg false [] [0])))
     (.seq
      (.reg false [⟨(some 27), .frz 0, none⟩,
        ⟨(some 4), .steal 27, none⟩] [4])
      .ret))))
def rs54 : List RS := [.tmp 4]
/-- padlock/entry.copyPairs -/
def rc55 : RC :=
  (.seq
   (.reg false [⟨(some 4), .nilR 2, none⟩] [0, 1])
   (.seq
    (.reg false [⟨(some 6), .mov (.t 0), none⟩,
      ⟨(some 7), .call 70 [(false, (.t 6))], none⟩,
      ⟨(some 0), .stealM 7, none⟩] [0, 1])
    (.seq
     (.seq
      (.reg false [⟨(some 8), .al 0, none⟩,
        ⟨(some 9), .lenM 8 0, none⟩,
        ⟨(some 10), .bin .leq true (.t 9) (.c (.int .i64 64)), none⟩] [0, 1, 10])
      (.cond 10
       (.seq
        (.reg false [⟨(some 11), .al 0, none⟩,
          ⟨(some 12), .lenM 11 0, none⟩,
          ⟨(some 13), .mov (.c (.int .i64 0)), none⟩] [0, 1, 12, 13])
        (.block 0
         (.loop
          (.seq
           (.reg false [⟨(some 14), .bin .lss true (.t 13) (.t 12), none⟩] [0, 1, 12, 13, 14])
           (.seq
            (.cond 14
             (.reg false [] [0, 1, 12, 13])
             (.seq
              (.reg false [] [0])
              (.exit 0)))
            (.seq
             (.block 1
              (.seq
               (.reg false [⟨(some 15), .mov (.t 13), none⟩,
                 ⟨(some 5), .mov (.t 15), none⟩] [0, 1, 5, 12, 13])
               (.reg false [⟨(some 16), .al 0, none⟩,
                 ⟨(some 17), .mov (.t 5), none⟩,
                 ⟨(some 18), .al 0, none⟩,
                 ⟨(some 19), .mov (.t 5), none⟩,
                 ⟨(some 20), .idxM 18 0 2 (.t 19), none⟩,
                 ⟨(some 21), .fldR 20 0 1, none⟩,
                 ⟨(some 22), .loadR 21 0 1 false, none⟩,
                 ⟨(some 23), .mov (.t 1), none⟩,
                 ⟨(some 24), .bin .add true (.t 23) (.c (.int .i64 1)), none⟩,
                 ⟨(some 25), .call 36 [(false, (.t 22)), (false, (.t 24))], none⟩,
                 ⟨(some 26), .idxM 16 0 2 (.t 17), none⟩,
                 ⟨(some 27), .fldR 26 0 1, none⟩,
                 ⟨none, .stR 27 0 1 (.t 25), none⟩] [0, 1, 12, 13])))
             (.reg false [⟨(some 28), .bin .add true (.t 13) (.c (.int .i64 1)), none⟩,
               ⟨(some 13), .mov (.t 28), none⟩] [0, 1, 12, 13])))))))
       (.reg false [] [0])))
     (.seq
      (.reg false [⟨(some 29), .frz 0, none⟩,
        ⟨(some 4), .steal 29, none⟩] [4])
      .ret))))
def rs55 : List RS := [.tmp 4]
/-- padlock/entry.Find -/
def rc21 : RC :=
  (.seq
   (.reg false [⟨(some 4), .mov (.c .nilI), none⟩,
     ⟨(some 5), .mov (.c (.bool false)), none⟩] [0, 1])
   (.seq
    (.reg false [⟨(some 11), .mov (.t 0), none⟩,
      ⟨(some 12), .asI 61 true (.sl [] 0) (.t 11), none⟩,
      ⟨(some 10), .mov (.t 12), none⟩,
      ⟨(some 13), .ext (.t 10) 0, none⟩,
      ⟨(some 14), .ext (.t 10) 1, none⟩,
      ⟨(some 6), .steal 13, none⟩,
      ⟨(some 7), .mov (.t 14), none⟩] [1, 6])
    (.seq
     (.seq
      (.reg false [⟨(some 15), .mov (.t 6), none⟩,
        ⟨(some 16), .len false (.t 15), none⟩,
        ⟨(some 17), .mov (.c (.int .i64 0)), none⟩] [1, 15, 16, 17])
      (.block 0
       (.loop
        (.seq
         (.reg false [⟨(some 18), .bin .lss true (.t 17) (.t 16), none⟩] [1, 15, 16, 17, 18])
         (.seq
          (.cond 18
           (.reg false [] [1, 15, 16, 17])
           (.seq
            (.reg false [] [])
            (.exit 0)))
          (.seq
           (.block 1
            (.seq
             (.reg false [⟨(some 19), .idxA 2 (.t 15) (.t 17), none⟩,
               ⟨(some 20), .loadP (.t 19) 2 true, none⟩,
               ⟨(some 9), .alloc [(.str []), .nilI], none⟩,
               ⟨none, .stB 9 2 (.t 20), none⟩] [1, 9, 15, 16, 17])
             (.seq
              (.reg false [⟨(some 21), .fldB 9 0, none⟩,
                ⟨(some 22), .loadR 21 9 1 false, none⟩,
                ⟨(some 23), .mov (.t 1), none⟩,
                ⟨(some 24), .bin .eql false (.t 22) (.t 23), none⟩] [1, 9, 15, 16, 17, 24])
              (.cond 24
               (.seq
                (.reg false [⟨(some 25), .fldB 9 1, none⟩,
                  ⟨(some 26), .loadR 25 9 1 false, none⟩,
                  ⟨(some 27), .call 36 [(false, (.t 26)), (false, (.c (.int .i64 0)))], none⟩,
                  ⟨(some 4), .mov (.t 27), none⟩,
                  ⟨(some 5), .mov (.c (.bool true)), none⟩] [4, 5])
                .ret)
               (.reg false [] [1, 15, 16, 17])))))
           (.reg false [⟨(some 28), .bin .add true (.t 17) (.c (.int .i64 1)), none⟩,
             ⟨(some 17), .mov (.t 28), none⟩] [1, 15, 16, 17])))))))
     (.seq
      (.reg false [⟨(some 4), .mov (.c .nilI), none⟩,
        ⟨(some 5), .mov (.c (.bool false)), none⟩] [4, 5])
      .ret))))
def rs21 : List RS := [.tmp 4, .tmp 5]
/-- padlock/entry.Same -/
def rc23 : RC :=
  (.seq
   (.reg false [⟨(some 4), .mov (.c (.bool false)), none⟩] [0, 1])
   (.seq
    (.reg false [⟨(some 5), .mov (.t 0), none⟩,
      ⟨(some 6), .call 13 [(false, (.t 5))], none⟩,
      ⟨(some 7), .bin .eql true (.t 6) (.c (.int .i64 0)), none⟩,
      ⟨(some 8), .mov (.t 7), none⟩,
      ⟨(some 9), .mov (.t 1), (some (8, true))⟩,
      ⟨(some 10), .call 13 [(false, (.t 9))], (some (8, true))⟩,
      ⟨(some 11), .bin .eql true (.t 10) (.c (.int .i64 0)), (some (8, true))⟩,
      ⟨(some 12), .pick (.t 8) (.t 11) (.c (.bool false)), none⟩,
      ⟨(some 13), .mov (.t 12), none⟩,
      ⟨(some 14), .mov (.t 0), (some (13, true))⟩,
      ⟨(some 15), .mov (.t 1), (some (13, true))⟩,
      ⟨(some 16), .call 37 [(false, (.t 14)), (false, (.t 15))], (some (13, true))⟩,
      ⟨(some 17), .pick (.t 13) (.t 16) (.c (.bool false)), none⟩,
      ⟨(some 4), .mov (.t 17), none⟩] [4])
    .ret))
def rs23 : List RS := [.tmp 4]
/-- padlock/entry.Text -/
def rc19 : RC :=
  (.seq
   (.reg false [⟨(some 2), .mov (.c (.str [])), none⟩,
     ⟨(some 3), .mov (.c (.bool false)), none⟩] [0])
   (.seq
    (.reg false [⟨(some 7), .mov (.t 0), none⟩,
      ⟨(some 8), .asI 9 true (.str []) (.t 7), none⟩,
      ⟨(some 6), .mov (.t 8), none⟩,
      ⟨(some 9), .ext (.t 6) 0, none⟩,
      ⟨(some 10), .ext (.t 6) 1, none⟩,
      ⟨(some 4), .mov (.t 9), none⟩,
      ⟨(some 5), .mov (.t 10), none⟩] [4, 5])
    (.seq
     (.reg false [⟨(some 11), .mov (.t 4), none⟩,
       ⟨(some 12), .mov (.t 5), none⟩,
       ⟨(some 2), .mov (.t 11), none⟩,
       ⟨(some 3), .mov (.t 12), none⟩] [2, 3])
     .ret)))
def rs19 : List RS := [.tmp 2, .tmp 3]
/-- padlock/entry.Num -/
def rc20 : RC :=
  (.seq
   (.reg false [⟨(some 2), .mov (.c (.int .u64 0)), none⟩,
     ⟨(some 3), .mov (.c (.bool false)), none⟩] [0])
   (.seq
    (.reg false [⟨(some 7), .mov (.t 0), none⟩,
      ⟨(some 8), .asI 22 true (.int .u64 0) (.t 7), none⟩,
      ⟨(some 6), .mov (.t 8), none⟩,
      ⟨(some 9), .ext (.t 6) 0, none⟩,
      ⟨(some 10), .ext (.t 6) 1, none⟩,
      ⟨(some 4), .mov (.t 9), none⟩,
      ⟨(some 5), .mov (.t 10), none⟩] [4, 5])
    (.seq
     (.reg false [⟨(some 11), .mov (.t 4), none⟩,
       ⟨(some 12), .mov (.t 5), none⟩,
       ⟨(some 2), .mov (.t 11), none⟩,
       ⟨(some 3), .mov (.t 12), none⟩] [2, 3])
     .ret)))
def rs20 : List RS := [.tmp 2, .tmp 3]
/-- padlock/entry.MustText -/
def rc24 : RC :=
  (.seq
   (.reg false [⟨(some 2), .mov (.c (.str [])), none⟩] [0])
   (.seq
    (.reg false [⟨(some 3), .mov (.t 0), none⟩,
      ⟨(some 4), .asI 9 false (.str []) (.t 3), none⟩,
      ⟨(some 2), .mov (.t 4), none⟩] [2])
    .ret))
def rs24 : List RS := [.tmp 2]
/-- padlock/entry.MustNum -/
def rc25 : RC :=
  (.seq
   (.reg false [⟨(some 2), .mov (.c (.int .u64 0)), none⟩] [0])
   (.seq
    (.reg false [⟨(some 3), .mov (.t 0), none⟩,
      ⟨(some 4), .asI 22 false (.int .u64 0) (.t 3), none⟩,
      ⟨(some 2), .mov (.t 4), none⟩] [2])
    .ret))
def rs25 : List RS := [.tmp 2]
theorem pf69 (l : List Vl) (h : l.length ≤ 1000000) : PFx Try.prog 69 [.sl (vls ids l) l.length] (.mrow 1 (vls ids l) l.length) := by
  refine PFx_of_W (rc := rc69) (rs := rs69) Try.func69 rfl T15_ok hm (by kernel_rfl) (by kernel_rfl) (by simp [Try.ntmps69]) ?_
  by_cases h0 : l.length = 0
  · obtain rfl := List.eq_nil_of_length_eq_zero h0
    simp [rc69, rs69, vls]
  · simp [rc69, rs69, h0]
    omega
noncomputable def T69 : Tab := tabAdd T15 69 (fun z : (List Vl) => z.length ≤ 1000000) (fun z => [.sl (vls ids z) z.length]) (fun z => .mrow 1 (vls ids z) z.length)
@[simp] theorem T69_eq (l : List Vl) (h : l.length ≤ 1000000) : T69 69 [.sl (vls ids l) l.length] = some (.mrow 1 (vls ids l) l.length) := tabAdd_eq (a := l) (by intro a b h; simp only [List.cons.injEq, AV.sl.injEq, and_true] at h; rw [vls_inj ids ids_apart _ _ h.1]) h rfl
@[simp] theorem T69_ne {g : Nat} {xs : List AV} (h : g ≠ 69) : T69 g xs = T15 g xs := tabAdd_ne h
theorem T69_ok : Sound Try.prog T69 := tabAdd_sound T15_ok fun z h => pf69 z h
theorem pf70 (l : List (Tx × Vl)) (h : l.length ≤ 1000000) : PFx Try.prog 70 [.sl (prs ids l) l.length] (.mrow 2 (prs ids l) l.length) := by
  refine PFx_of_W (rc := rc70) (rs := rs70) Try.func70 rfl T69_ok hm (by kernel_rfl) (by kernel_rfl) (by simp [Try.ntmps70]) ?_
  by_cases h0 : l.length = 0
  · obtain rfl := List.eq_nil_of_length_eq_zero h0
    simp [rc70, rs70, prs]
  · simp [rc70, rs70, h0]
    omega
noncomputable def T70 : Tab := tabAdd T69 70 (fun z : (List (Tx × Vl)) => z.length ≤ 1000000) (fun z => [.sl (prs ids z) z.length]) (fun z => .mrow 2 (prs ids z) z.length)
@[simp] theorem T70_eq (l : List (Tx × Vl)) (h : l.length ≤ 1000000) : T70 70 [.sl (prs ids l) l.length] = some (.mrow 2 (prs ids l) l.length) := tabAdd_eq (a := l) (by intro a b h; simp only [List.cons.injEq, AV.sl.injEq, and_true] at h; rw [prs_inj ids ids_apart _ _ h.1]) h rfl
@[simp] theorem T70_ne {g : Nat} {xs : List AV} (h : g ≠ 70) : T70 g xs = T69 g xs := tabAdd_ne h
theorem T70_ok : Sound Try.prog T70 := tabAdd_sound T69_ok fun z h => pf70 z h
noncomputable def M37_1 (m : Nat) : Tab := tabAdd T70 37 (fun z : Vl × Vl => (z.1.fine ∧ z.2.fine) ∧ 2 * z.1.sz < m) (fun z => [z.1.av ids, z.2.av ids]) (fun z => .bool (eqV z.1 z.2))
@[simp] theorem M37_1_ne {m g : Nat} {xs : List AV} (h : g ≠ 37) : M37_1 m g xs = T70 g xs := tabAdd_ne h
noncomputable def M37_2 (m : Nat) : Tab := tabAdd (M37_1 m) 56 (fun z : (List Vl) × (List Vl) => (z.1.length ≤ 1000000 ∧ fines z.1 ∧ z.2.length ≤ 1000000 ∧ fines z.2) ∧ 2 * Vl.sz (.list z.1) - 1 < m) (fun z => [.sl (vls ids z.1) z.1.length, .sl (vls ids z.2) z.2.length, .fn 37 [] []]) (fun z => .bool (eqVs z.1 z.2))
@[simp] theorem M37_2_ne {m g : Nat} {xs : List AV} (h : g ≠ 56) : M37_2 m g xs = M37_1 m g xs := tabAdd_ne h
noncomputable def M37_3 (m : Nat) : Tab := tabAdd (M37_2 m) 57 (fun z : (List (Tx × Vl)) × (List (Tx × Vl)) => (z.1.length ≤ 1000000 ∧ fineP z.1 ∧ z.2.length ≤ 1000000 ∧ fineP z.2) ∧ 2 * Vl.sz (.pairs z.1) - 1 < m) (fun z => [.sl (prs ids z.1) z.1.length, .sl (prs ids z.2) z.2.length, .fn 58 [] []]) (fun z => .bool (eqPs z.1 z.2))
@[simp] theorem M37_3_ne {m g : Nat} {xs : List AV} (h : g ≠ 57) : M37_3 m g xs = M37_2 m g xs := tabAdd_ne h
noncomputable def M37_4 (m : Nat) : Tab := tabAdd (M37_3 m) 58 (fun z : (Tx × Vl) × (Tx × Vl) => (z.1.2.fine ∧ z.2.2.fine) ∧ 2 * z.1.2.sz + 1 < m) (fun z => [.agg (pr ids z.1), .agg (pr ids z.2)]) (fun z => .bool (eqQ z.1 z.2))
@[simp] theorem M37_4_ne {m g : Nat} {xs : List AV} (h : g ≠ 58) : M37_4 m g xs = M37_3 m g xs := tabAdd_ne h
theorem R37_eq (m : Nat) (v : Vl) (w : Vl) (h : v.fine ∧ w.fine) (hm : 2 * v.sz < m) : M37_1 m 37 [v.av ids, w.av ids] = some (.bool (eqV v w)) := tabAdd_eq (a := (v, w)) (vl_injV (f := fun v w => AV.bool (eqV v w))) ⟨h, hm⟩ rfl
theorem R56_eq (m : Nat) (l : List Vl) (r : List Vl) (h : l.length ≤ 1000000 ∧ fines l ∧ r.length ≤ 1000000 ∧ fines r) (hm : 2 * Vl.sz (.list l) - 1 < m) : M37_2 m 56 [.sl (vls ids l) l.length, .sl (vls ids r) r.length, .fn 37 [] []] = some (.bool (eqVs l r)) := tabAdd_eq (a := (l, r)) (eqs_inj (.fn 37 [] []) (f := fun l r => AV.bool (eqVs l r))) ⟨h, hm⟩ rfl
theorem R57_eq (m : Nat) (l : List (Tx × Vl)) (r : List (Tx × Vl)) (h : l.length ≤ 1000000 ∧ fineP l ∧ r.length ≤ 1000000 ∧ fineP r) (hm : 2 * Vl.sz (.pairs l) - 1 < m) : M37_3 m 57 [.sl (prs ids l) l.length, .sl (prs ids r) r.length, .fn 58 [] []] = some (.bool (eqPs l r)) := tabAdd_eq (a := (l, r)) (eqp_inj (.fn 58 [] []) (f := fun l r => AV.bool (eqPs l r))) ⟨h, hm⟩ rfl
theorem R58_eq (m : Nat) (x : Tx × Vl) (y : Tx × Vl) (h : x.2.fine ∧ y.2.fine) (hm : 2 * x.2.sz + 1 < m) : M37_4 m 58 [.agg (pr ids x), .agg (pr ids y)] = some (.bool (eqQ x y)) := tabAdd_eq (a := (x, y)) (eqq_inj (f := fun x y => AV.bool (eqQ x y))) ⟨h, hm⟩ rfl
theorem st37 (v : Vl) (w : Vl) (h : v.fine ∧ w.fine) (hT : Sound Try.prog (M37_4 (2 * v.sz))) : PFx Try.prog 37 [v.av ids, w.av ids] (.bool (eqV v w)) := by
  refine PFx_of_W (rc := rc37) (rs := rs37) Try.func37 rfl hT hm (by kernel_rfl) (by kernel_rfl) (by simp [Try.ntmps37]) ?_
  obtain ⟨hv, hw⟩ := h
  cases v with
  | nil => cases w <;> simp [rc37, rs37, Vl.av, eqV]
  | int n => cases w <;> simp [rc37, rs37, Vl.av, eqV]
  | bool b =>
    cases w <;> simp [rc37, rs37, Vl.av, eqV]
    rename_i b'
    cases b <;> cases b' <;> rfl
  | num n => cases w <;> simp [rc37, rs37, Vl.av, eqV]
  | str s => cases w <;> simp [rc37, rs37, Vl.av, eqV]
  | list l =>
    cases w with
    | list m =>
      rw [Vl.fine] at hv hw
      have q := R56_eq (2 * Vl.sz (.list l)) l m ⟨hv.1, hv.2, hw.1, hw.2⟩ (by have := sz_pos (.list l); omega)
      simp [rc37, rs37, Vl.av, eqV, q]
    | _ => simp [rc37, rs37, Vl.av, eqV]
  | pairs l =>
    cases w with
    | pairs m =>
      rw [Vl.fine] at hv hw
      have q := R57_eq (2 * Vl.sz (.pairs l)) l m ⟨hv.1, hv.2, hw.1, hw.2⟩ (by have := sz_pos (.pairs l); omega)
      simp [rc37, rs37, Vl.av, eqV, q]
    | _ => simp [rc37, rs37, Vl.av, eqV]
theorem st56 (l : List Vl) (r : List Vl) (h : l.length ≤ 1000000 ∧ fines l ∧ r.length ≤ 1000000 ∧ fines r) (hT : Sound Try.prog (M37_4 (2 * Vl.sz (.list l) - 1))) : PFx Try.prog 56 [.sl (vls ids l) l.length, .sl (vls ids r) r.length, .fn 37 [] []] (.bool (eqVs l r)) := by
  refine PFx_of_W (rc := rc56) (rs := rs56) Try.func56 rfl hT hm (by kernel_rfl) (by kernel_rfl) (by simp [Try.ntmps56]) ?_
  obtain ⟨hl, hfl, hm', hfm⟩ := h
  by_cases hlen : l.length = r.length
  case neg =>
    have hlen' : ¬ (l.length : Int) = r.length := by omega
    rw [eqVs_len l r hlen]
    simp [rc56, rs56, hlen, hlen']
  simp [rc56, rs56, hlen]
  refine W_varU (fun i : Nat => i ≤ l.length ∧ eqVs l r = eqVs (l.drop i) (r.drop i)) (fun i => l.length - i) (fun i => [(17, .int .i64 i)]) 0 ⟨Nat.zero_le _, rfl⟩ (by simp) ?_
  rintro i ⟨hi, hc⟩
  rw [hc]
  rcases Nat.lt_or_ge i l.length with hlt | hge
  · have hlm : i < r.length := by omega
    have hlt' : (i : Int) < r.length := by omega
    have q := R37_eq (2 * Vl.sz (.list l) - 1) l[i] r[i] ⟨fines_get l hfl i hlt, fines_get r hfm i hlm⟩ (by have := size_item hlt; omega)
    have hat := vls_at l i (by simpa using hlt)
    have hat2 := vls_at r i (by simpa using hlm)
    rw [eqVs_at l r i hlt hlm]
    cases he : eqV l[i] r[i] <;> rw [he] at q <;> rcases vav_form ids l[i] with ⟨u, x, e⟩ | e <;> rw [e] at q hat <;> rcases vav_form ids r[i] with ⟨u', x', e'⟩ | e' <;> rw [e'] at q hat2 <;> simp [hlt, hlm, hlt', hat, hat2, q]
    all_goals repeat' refine And.intro ?_ ?_
    all_goals first | omega | exact ⟨i + 1, ⟨by omega, rfl⟩, by omega, by omega⟩
  · have e : i = l.length := by omega
    subst e
    rw [List.drop_length, List.drop_of_length_le (by omega)]
    simp [hlen, eqVs]
theorem st57 (l : List (Tx × Vl)) (r : List (Tx × Vl)) (h : l.length ≤ 1000000 ∧ fineP l ∧ r.length ≤ 1000000 ∧ fineP r) (hT : Sound Try.prog (M37_4 (2 * Vl.sz (.pairs l) - 1))) : PFx Try.prog 57 [.sl (prs ids l) l.length, .sl (prs ids r) r.length, .fn 58 [] []] (.bool (eqPs l r)) := by
  refine PFx_of_W (rc := rc57) (rs := rs57) Try.func57 rfl hT hm (by kernel_rfl) (by kernel_rfl) (by simp [Try.ntmps57]) ?_
  obtain ⟨hl, hfl, hm', hfm⟩ := h
  by_cases hlen : l.length = r.length
  case neg =>
    have hlen' : ¬ (l.length : Int) = r.length := by omega
    rw [eqPs_len l r hlen]
    simp [rc57, rs57, hlen, hlen']
  simp [rc57, rs57, hlen]
  refine W_varU (fun i : Nat => i ≤ l.length ∧ eqPs l r = eqPs (l.drop i) (r.drop i)) (fun i => l.length - i) (fun i => [(17, .int .i64 i)]) 0 ⟨Nat.zero_le _, rfl⟩ (by simp) ?_
  rintro i ⟨hi, hc⟩
  rw [hc]
  rcases Nat.lt_or_ge i l.length with hlt | hge
  · have hlm : i < r.length := by omega
    have hlt' : (i : Int) < r.length := by omega
    have q := R58_eq (2 * Vl.sz (.pairs l) - 1) l[i] r[i] ⟨fineP_get l hfl i hlt, fineP_get r hfm i hlm⟩ (by have := size_pair2 hlt; omega)
    have hg := prs_get ids l i hlt
    have hg2 := prs_get ids r i hlm
    have h2 : 2 ≤ r.length * 2 - i * 2 := by omega
    rw [eqPs_at l r i hlt hlm]
    rw [pr_form l[i], pr_form r[i]] at q
    cases he : eqQ l[i] r[i] <;> rw [he] at q <;> rcases vav_form ids l[i].2 with ⟨u, x, e⟩ | e <;> rw [e] at q hg <;> rcases vav_form ids r[i].2 with ⟨u', x', e'⟩ | e' <;> rw [e'] at q hg2 <;> simp [hlt, hlm, hlt', hlen, h2, hg, hg2, q]
    all_goals repeat' refine And.intro ?_ ?_
    all_goals first | omega | exact ⟨i + 1, ⟨by omega, rfl⟩, by omega, by omega⟩
  · have e : i = l.length := by omega
    subst e
    rw [List.drop_length, List.drop_of_length_le (by omega)]
    simp [hlen, eqPs]
theorem st58 (x : Tx × Vl) (y : Tx × Vl) (h : x.2.fine ∧ y.2.fine) (hT : Sound Try.prog (M37_4 (2 * x.2.sz + 1))) : PFx Try.prog 58 [.agg (pr ids x), .agg (pr ids y)] (.bool (eqQ x y)) := by
  refine PFx_of_W (rc := rc58) (rs := rs58) Try.func58 rfl hT hm (by kernel_rfl) (by kernel_rfl) (by simp [Try.ntmps58]) ?_
  obtain ⟨s, v⟩ := x
  obtain ⟨s', w⟩ := y
  have q := R37_eq (2 * Vl.sz v + 1) v w h (by omega)
  simp only [pr, eqQ]
  by_cases hs : s = s'
  · rcases vav_form ids v with ⟨u, x, e⟩ | e <;> rw [e] at q ⊢ <;> rcases vav_form ids w with ⟨u', x', e'⟩ | e' <;> rw [e'] at q ⊢ <;> simp [rc58, rs58, q, hs]
  · rcases vav_form ids v with ⟨u, x, e⟩ | e <;> rw [e] <;> rcases vav_form ids w with ⟨u', x', e'⟩ | e' <;> rw [e'] <;> simp [rc58, rs58, hs]
theorem M37_ok (m : Nat) : Sound Try.prog (M37_4 m) := by
  induction m using Nat.strongRecOn with
  | ind m ih => exact (tabAdd_sound (tabAdd_sound (tabAdd_sound (tabAdd_sound T70_ok fun z h => st37 z.1 z.2 h.1 (ih _ h.2)) fun z h => st56 z.1 z.2 h.1 (ih _ h.2)) fun z h => st57 z.1 z.2 h.1 (ih _ h.2)) fun z h => st58 z.1 z.2 h.1 (ih _ h.2))
theorem pf37 (v : Vl) (w : Vl) (h : v.fine ∧ w.fine) : PFx Try.prog 37 [v.av ids, w.av ids] (.bool (eqV v w)) := st37 v w h (M37_ok _)
noncomputable def T37 : Tab := tabAdd T70 37 (fun z : Vl × Vl => z.1.fine ∧ z.2.fine) (fun z => [z.1.av ids, z.2.av ids]) (fun z => .bool (eqV z.1 z.2))
@[simp] theorem T37_eq (v : Vl) (w : Vl) (h : v.fine ∧ w.fine) : T37 37 [v.av ids, w.av ids] = some (.bool (eqV v w)) := tabAdd_eq (a := (v, w)) (vl_injV (f := fun v w => AV.bool (eqV v w))) h rfl
@[simp] theorem T37_ne {g : Nat} {xs : List AV} (h : g ≠ 37) : T37 g xs = T70 g xs := tabAdd_ne h
theorem T37_ok : Sound Try.prog T37 := tabAdd_sound T70_ok fun z h => pf37 z.1 z.2 h
theorem pf56 (l : List Vl) (r : List Vl) (h : l.length ≤ 1000000 ∧ fines l ∧ r.length ≤ 1000000 ∧ fines r) : PFx Try.prog 56 [.sl (vls ids l) l.length, .sl (vls ids r) r.length, .fn 37 [] []] (.bool (eqVs l r)) := st56 l r h (M37_ok _)
noncomputable def T56 : Tab := tabAdd T37 56 (fun z : (List Vl) × (List Vl) => z.1.length ≤ 1000000 ∧ fines z.1 ∧ z.2.length ≤ 1000000 ∧ fines z.2) (fun z => [.sl (vls ids z.1) z.1.length, .sl (vls ids z.2) z.2.length, .fn 37 [] []]) (fun z => .bool (eqVs z.1 z.2))
@[simp] theorem T56_eq (l : List Vl) (r : List Vl) (h : l.length ≤ 1000000 ∧ fines l ∧ r.length ≤ 1000000 ∧ fines r) : T56 56 [.sl (vls ids l) l.length, .sl (vls ids r) r.length, .fn 37 [] []] = some (.bool (eqVs l r)) := tabAdd_eq (a := (l, r)) (eqs_inj (.fn 37 [] []) (f := fun l r => AV.bool (eqVs l r))) h rfl
@[simp] theorem T56_ne {g : Nat} {xs : List AV} (h : g ≠ 56) : T56 g xs = T37 g xs := tabAdd_ne h
theorem T56_ok : Sound Try.prog T56 := tabAdd_sound T37_ok fun z h => pf56 z.1 z.2 h
theorem pf57 (l : List (Tx × Vl)) (r : List (Tx × Vl)) (h : l.length ≤ 1000000 ∧ fineP l ∧ r.length ≤ 1000000 ∧ fineP r) : PFx Try.prog 57 [.sl (prs ids l) l.length, .sl (prs ids r) r.length, .fn 58 [] []] (.bool (eqPs l r)) := st57 l r h (M37_ok _)
noncomputable def T57 : Tab := tabAdd T56 57 (fun z : (List (Tx × Vl)) × (List (Tx × Vl)) => z.1.length ≤ 1000000 ∧ fineP z.1 ∧ z.2.length ≤ 1000000 ∧ fineP z.2) (fun z => [.sl (prs ids z.1) z.1.length, .sl (prs ids z.2) z.2.length, .fn 58 [] []]) (fun z => .bool (eqPs z.1 z.2))
@[simp] theorem T57_eq (l : List (Tx × Vl)) (r : List (Tx × Vl)) (h : l.length ≤ 1000000 ∧ fineP l ∧ r.length ≤ 1000000 ∧ fineP r) : T57 57 [.sl (prs ids l) l.length, .sl (prs ids r) r.length, .fn 58 [] []] = some (.bool (eqPs l r)) := tabAdd_eq (a := (l, r)) (eqp_inj (.fn 58 [] []) (f := fun l r => AV.bool (eqPs l r))) h rfl
@[simp] theorem T57_ne {g : Nat} {xs : List AV} (h : g ≠ 57) : T57 g xs = T56 g xs := tabAdd_ne h
theorem T57_ok : Sound Try.prog T57 := tabAdd_sound T56_ok fun z h => pf57 z.1 z.2 h
theorem pf58 (x : Tx × Vl) (y : Tx × Vl) (h : x.2.fine ∧ y.2.fine) : PFx Try.prog 58 [.agg (pr ids x), .agg (pr ids y)] (.bool (eqQ x y)) := st58 x y h (M37_ok _)
noncomputable def T58 : Tab := tabAdd T57 58 (fun z : (Tx × Vl) × (Tx × Vl) => z.1.2.fine ∧ z.2.2.fine) (fun z => [.agg (pr ids z.1), .agg (pr ids z.2)]) (fun z => .bool (eqQ z.1 z.2))
@[simp] theorem T58_eq (x : Tx × Vl) (y : Tx × Vl) (h : x.2.fine ∧ y.2.fine) : T58 58 [.agg (pr ids x), .agg (pr ids y)] = some (.bool (eqQ x y)) := tabAdd_eq (a := (x, y)) (eqq_inj (f := fun x y => AV.bool (eqQ x y))) h rfl
@[simp] theorem T58_ne {g : Nat} {xs : List AV} (h : g ≠ 58) : T58 g xs = T57 g xs := tabAdd_ne h
theorem T58_ok : Sound Try.prog T58 := tabAdd_sound T57_ok fun z h => pf58 z.1 z.2 h
noncomputable def M36_1 (m : Nat) : Tab := tabAdd T58 36 (fun z : Vl × Nat => (z.1.fine ∧ z.2 ≤ 4) ∧ 2 * z.1.sz + 1 < m) (fun z => [z.1.av ids, .int .i64 z.2]) (fun z => z.1.av ids)
@[simp] theorem M36_1_ne {m g : Nat} {xs : List AV} (h : g ≠ 36) : M36_1 m g xs = T58 g xs := tabAdd_ne h
noncomputable def M36_2 (m : Nat) : Tab := tabAdd (M36_1 m) 54 (fun z : (List Vl) × Nat => (z.1.length ≤ 1000000 ∧ fines z.1 ∧ z.2 < 4) ∧ 2 * Vl.sz (.list z.1) < m) (fun z => [.sl (vls ids z.1) z.1.length, .int .i64 z.2]) (fun z => .row 1 (vls ids z.1) z.1.length)
@[simp] theorem M36_2_ne {m g : Nat} {xs : List AV} (h : g ≠ 54) : M36_2 m g xs = M36_1 m g xs := tabAdd_ne h
noncomputable def M36_3 (m : Nat) : Tab := tabAdd (M36_2 m) 55 (fun z : (List (Tx × Vl)) × Nat => (z.1.length ≤ 1000000 ∧ fineP z.1 ∧ z.2 < 4) ∧ 2 * Vl.sz (.pairs z.1) < m) (fun z => [.sl (prs ids z.1) z.1.length, .int .i64 z.2]) (fun z => .row 2 (prs ids z.1) z.1.length)
@[simp] theorem M36_3_ne {m g : Nat} {xs : List AV} (h : g ≠ 55) : M36_3 m g xs = M36_2 m g xs := tabAdd_ne h
theorem R36_eq (m : Nat) (v : Vl) (d : Nat) (h : v.fine ∧ d ≤ 4) (hm : 2 * v.sz + 1 < m) : M36_1 m 36 [v.av ids, .int .i64 d] = some (v.av ids) := tabAdd_eq (a := (v, d)) (vl_inj2 (f := fun v _ => v.av ids)) ⟨h, hm⟩ rfl
theorem R54_eq (m : Nat) (l : List Vl) (d : Nat) (h : l.length ≤ 1000000 ∧ fines l ∧ d < 4) (hm : 2 * Vl.sz (.list l) < m) : M36_2 m 54 [.sl (vls ids l) l.length, .int .i64 d] = some (.row 1 (vls ids l) l.length) := tabAdd_eq (a := (l, d)) (vls_inj2 (f := fun l _ => AV.row 1 (vls ids l) l.length)) ⟨h, hm⟩ rfl
theorem R55_eq (m : Nat) (l : List (Tx × Vl)) (d : Nat) (h : l.length ≤ 1000000 ∧ fineP l ∧ d < 4) (hm : 2 * Vl.sz (.pairs l) < m) : M36_3 m 55 [.sl (prs ids l) l.length, .int .i64 d] = some (.row 2 (prs ids l) l.length) := tabAdd_eq (a := (l, d)) (prs_inj2 (f := fun l _ => AV.row 2 (prs ids l) l.length)) ⟨h, hm⟩ rfl
theorem st36 (v : Vl) (d : Nat) (h : v.fine ∧ d ≤ 4) (hT : Sound Try.prog (M36_3 (2 * v.sz + 1))) : PFx Try.prog 36 [v.av ids, .int .i64 d] (v.av ids) := by
  refine PFx_of_W (rc := rc36) (rs := rs36) Try.func36 rfl hT hm (by kernel_rfl) (by kernel_rfl) (by simp [Try.ntmps36]) ?_
  obtain ⟨hv, hd⟩ := h
  by_cases h4 : 4 ≤ d
  · have h4' : (4 : Int) ≤ d := by omega
    rcases vav_form ids v with ⟨u, x, e⟩ | e <;> rw [e] <;> simp [rc36, rs36, h4, h4']
  have h4' : ¬ (4 : Int) ≤ d := by omega
  cases v with
  | list l =>
    rw [Vl.fine] at hv
    have q := R54_eq (2 * Vl.sz (.list l) + 1) l d ⟨hv.1, hv.2, by omega⟩ (by omega)
    simp [rc36, rs36, Vl.av, h4, h4', q]
  | pairs l =>
    rw [Vl.fine] at hv
    have q := R55_eq (2 * Vl.sz (.pairs l) + 1) l d ⟨hv.1, hv.2, by omega⟩ (by omega)
    simp [rc36, rs36, Vl.av, h4, h4', q]
  | _ => simp [rc36, rs36, Vl.av, h4, h4']
theorem st54 (l : List Vl) (d : Nat) (h : l.length ≤ 1000000 ∧ fines l ∧ d < 4) (hT : Sound Try.prog (M36_3 (2 * Vl.sz (.list l)))) : PFx Try.prog 54 [.sl (vls ids l) l.length, .int .i64 d] (.row 1 (vls ids l) l.length) := by
  refine PFx_of_W (rc := rc54) (rs := rs54) Try.func54 rfl hT hm (by kernel_rfl) (by kernel_rfl) (by simp [Try.ntmps54]) ?_
  obtain ⟨hl, hf, hd⟩ := h
  by_cases h64 : l.length ≤ 64
  case neg =>
    have h64' : ¬ (l.length : Int) ≤ 64 := by omega
    simp [rc54, rs54, hl, h64, h64']
  have h64' : (l.length : Int) ≤ 64 := by omega
  simp [rc54, rs54, hl, h64, h64']
  refine W_varU (fun i : Nat => i ≤ l.length) (fun i => l.length - i) (fun i => [(13, .int .i64 i)]) 0 (Nat.zero_le _) (by simp) ?_
  intro i hi
  rcases Nat.lt_or_ge i l.length with hlt | hge
  · have hlt' : (i : Int) < l.length := by omega
    have q := R36_eq (2 * Vl.sz (.list l)) l[i] (d + 1) ⟨fines_get l hf i hlt, by omega⟩ (by have := size_item hlt; omega)
    have hat := vls_at l i (by simpa using hlt)
    have hs := vls_set ids l i hlt l[i]
    rw [List.set_getElem_self] at hs
    rw [Int.natCast_add, Int.natCast_one] at q
    rcases vav_form ids l[i] with ⟨u, x, e⟩ | e <;> rw [e] at q hat hs <;> simp [hlt, hlt', hat, q, hs, -splice]
    all_goals repeat' refine And.intro ?_ ?_
    all_goals first | omega | exact ⟨i + 1, by omega, by omega, by omega⟩
  · have e : i = l.length := by omega
    subst e
    simp
theorem st55 (l : List (Tx × Vl)) (d : Nat) (h : l.length ≤ 1000000 ∧ fineP l ∧ d < 4) (hT : Sound Try.prog (M36_3 (2 * Vl.sz (.pairs l)))) : PFx Try.prog 55 [.sl (prs ids l) l.length, .int .i64 d] (.row 2 (prs ids l) l.length) := by
  refine PFx_of_W (rc := rc55) (rs := rs55) Try.func55 rfl hT hm (by kernel_rfl) (by kernel_rfl) (by simp [Try.ntmps55]) ?_
  obtain ⟨hl, hf, hd⟩ := h
  by_cases h64 : l.length ≤ 64
  case neg =>
    have h64' : ¬ (l.length : Int) ≤ 64 := by omega
    simp [rc55, rs55, hl, h64, h64']
  have h64' : (l.length : Int) ≤ 64 := by omega
  simp [rc55, rs55, hl, h64, h64']
  refine W_varU (fun i : Nat => i ≤ l.length) (fun i => l.length - i) (fun i => [(13, .int .i64 i)]) 0 (Nat.zero_le _) (by simp) ?_
  intro i hi
  rcases Nat.lt_or_ge i l.length with hlt | hge
  · have hlt' : (i : Int) < l.length := by omega
    have q := R36_eq (2 * Vl.sz (.pairs l)) l[i].2 (d + 1) ⟨fineP_get l hf i hlt, by omega⟩ (by have := size_pair hlt; omega)
    obtain ⟨hat0, hat1⟩ := prs_at l i hlt
    obtain ⟨u1, hat1⟩ := List.getElem?_eq_some_iff.1 hat1
    have hs := prs_keep l i hlt
    rw [Int.natCast_add, Int.natCast_one] at q
    have h4 : i * 2 + 1 < l.length * 2 := by omega
    rcases vav_form ids l[i].2 with ⟨u, x, e⟩ | e <;> rw [e] at q hat1 hs <;> simp [hlt, hlt', hat1, q, hs, h4, -splice]
    all_goals repeat' refine And.intro ?_ ?_
    all_goals first | omega | exact ⟨i + 1, by omega, by omega, by omega⟩
  · have e : i = l.length := by omega
    subst e
    simp
theorem M36_ok (m : Nat) : Sound Try.prog (M36_3 m) := by
  induction m using Nat.strongRecOn with
  | ind m ih => exact (tabAdd_sound (tabAdd_sound (tabAdd_sound T58_ok fun z h => st36 z.1 z.2 h.1 (ih _ h.2)) fun z h => st54 z.1 z.2 h.1 (ih _ h.2)) fun z h => st55 z.1 z.2 h.1 (ih _ h.2))
theorem pf36 (v : Vl) (d : Nat) (h : v.fine ∧ d ≤ 4) : PFx Try.prog 36 [v.av ids, .int .i64 d] (v.av ids) := st36 v d h (M36_ok _)
noncomputable def T36 : Tab := tabAdd T58 36 (fun z : Vl × Nat => z.1.fine ∧ z.2 ≤ 4) (fun z => [z.1.av ids, .int .i64 z.2]) (fun z => z.1.av ids)
@[simp] theorem T36_eq (v : Vl) (d : Nat) (h : v.fine ∧ d ≤ 4) : T36 36 [v.av ids, .int .i64 d] = some (v.av ids) := tabAdd_eq (a := (v, d)) (vl_inj2 (f := fun v _ => v.av ids)) h rfl
@[simp] theorem T36_ne {g : Nat} {xs : List AV} (h : g ≠ 36) : T36 g xs = T58 g xs := tabAdd_ne h
theorem T36_ok : Sound Try.prog T36 := tabAdd_sound T58_ok fun z h => pf36 z.1 z.2 h
theorem pf54 (l : List Vl) (d : Nat) (h : l.length ≤ 1000000 ∧ fines l ∧ d < 4) : PFx Try.prog 54 [.sl (vls ids l) l.length, .int .i64 d] (.row 1 (vls ids l) l.length) := st54 l d h (M36_ok _)
noncomputable def T54 : Tab := tabAdd T36 54 (fun z : (List Vl) × Nat => z.1.length ≤ 1000000 ∧ fines z.1 ∧ z.2 < 4) (fun z => [.sl (vls ids z.1) z.1.length, .int .i64 z.2]) (fun z => .row 1 (vls ids z.1) z.1.length)
@[simp] theorem T54_eq (l : List Vl) (d : Nat) (h : l.length ≤ 1000000 ∧ fines l ∧ d < 4) : T54 54 [.sl (vls ids l) l.length, .int .i64 d] = some (.row 1 (vls ids l) l.length) := tabAdd_eq (a := (l, d)) (vls_inj2 (f := fun l _ => AV.row 1 (vls ids l) l.length)) h rfl
@[simp] theorem T54_ne {g : Nat} {xs : List AV} (h : g ≠ 54) : T54 g xs = T36 g xs := tabAdd_ne h
theorem T54_ok : Sound Try.prog T54 := tabAdd_sound T36_ok fun z h => pf54 z.1 z.2 h
theorem pf55 (l : List (Tx × Vl)) (d : Nat) (h : l.length ≤ 1000000 ∧ fineP l ∧ d < 4) : PFx Try.prog 55 [.sl (prs ids l) l.length, .int .i64 d] (.row 2 (prs ids l) l.length) := st55 l d h (M36_ok _)
noncomputable def T55 : Tab := tabAdd T54 55 (fun z : (List (Tx × Vl)) × Nat => z.1.length ≤ 1000000 ∧ fineP z.1 ∧ z.2 < 4) (fun z => [.sl (prs ids z.1) z.1.length, .int .i64 z.2]) (fun z => .row 2 (prs ids z.1) z.1.length)
@[simp] theorem T55_eq (l : List (Tx × Vl)) (d : Nat) (h : l.length ≤ 1000000 ∧ fineP l ∧ d < 4) : T55 55 [.sl (prs ids l) l.length, .int .i64 d] = some (.row 2 (prs ids l) l.length) := tabAdd_eq (a := (l, d)) (prs_inj2 (f := fun l _ => AV.row 2 (prs ids l) l.length)) h rfl
@[simp] theorem T55_ne {g : Nat} {xs : List AV} (h : g ≠ 55) : T55 g xs = T54 g xs := tabAdd_ne h
theorem T55_ok : Sound Try.prog T55 := tabAdd_sound T54_ok fun z h => pf55 z.1 z.2 h
theorem find_at (l : List (Tx × Vl)) (s : Tx) (i : Nat) (h : i < l.length) : findP (l.drop i) s = if l[i].1 = s then some l[i].2 else findP (l.drop (i + 1)) s := by
  unfold findP
  rw [drop_eq l i h, List.find?_cons]
  by_cases hs : l[i].1 = s <;> simp [hs]
theorem pf21 (v : Vl) (s : Tx) (h : v.fine) : PFx Try.prog 21 [v.av ids, .str s] (.tup [(fdV v s).av ids, .bool (fdB v s)]) := by
  refine PFx_of_W (rc := rc21) (rs := rs21) Try.func21 rfl T55_ok hm (by kernel_rfl) (by kernel_rfl) (by simp [Try.ntmps21]) ?_
  cases v with
  | pairs l =>
    rw [Vl.fine] at h
    simp [rc21, rs21, Vl.av]
    refine W_varU (fun i : Nat => i ≤ l.length ∧ findP l s = findP (l.drop i) s) (fun i => l.length - i) (fun i => [(17, .int .i64 i)]) 0 ⟨Nat.zero_le _, rfl⟩ (by simp) ?_
    rintro i ⟨hi, hc⟩
    simp only [fdV, fdB, fdO]
    rw [hc]
    rcases Nat.lt_or_ge i l.length with hlt | hge
    · have hlt' : (i : Int) < l.length := by omega
      have q := T36_eq l[i].2 0 ⟨fineP_get l h.2 i hlt, by omega⟩
      have hg := prs_get ids l i hlt
      have h2 : 2 ≤ l.length * 2 - i * 2 := by omega
      rw [find_at l s i hlt]
      simp at q
      by_cases hs : l[i].1 = s
      · rcases vav_form ids l[i].2 with ⟨u, x, e⟩ | e <;> rw [e] at q hg <;> simp [hlt, hlt', h2, hg, q, hs, e]
      · rcases vav_form ids l[i].2 with ⟨u, x, e⟩ | e <;> rw [e] at hg <;> simp [hlt, hlt', h2, hg, hs]
        all_goals repeat' refine And.intro ?_ ?_
        all_goals first | omega | exact ⟨i + 1, ⟨by omega, rfl⟩, by omega, by omega⟩
    · have e : i = l.length := by omega
      subst e
      simp [findP, Vl.av]
  | _ =>
    simp [rc21, rs21, Vl.av, fdV, fdB, fdO]
    refine W_varU (fun i : Nat => i = 0) (fun _ => 0) (fun i => [(17, .int .i64 i)]) 0 rfl (by simp) ?_
    rintro i rfl
    simp
noncomputable def T21 : Tab := tabAdd T55 21 (fun z : Vl × Tx => z.1.fine) (fun z => [z.1.av ids, .str z.2]) (fun z => .tup [(fdV z.1 z.2).av ids, .bool (fdB z.1 z.2)])
@[simp] theorem T21_eq (v : Vl) (s : Tx) (h : v.fine) : T21 21 [v.av ids, .str s] = some (.tup [(fdV v s).av ids, .bool (fdB v s)]) := tabAdd_eq (a := (v, s)) (vl_injT (f := fun v s => AV.tup [(fdV v s).av ids, .bool (fdB v s)])) h rfl
@[simp] theorem T21_ne {g : Nat} {xs : List AV} (h : g ≠ 21) : T21 g xs = T55 g xs := tabAdd_ne h
theorem T21_ok : Sound Try.prog T21 := tabAdd_sound T55_ok fun z h => pf21 z.1 z.2 h
theorem pf23 (v : Vl) (w : Vl) (h : v.small ∧ w.small) : PFx Try.prog 23 [v.av ids, w.av ids] (.bool (sameV v w)) := by
  refine PFx_of_W (rc := rc23) (rs := rs23) Try.func23 rfl T21_ok hm (by kernel_rfl) (by kernel_rfl) (by simp [Try.ntmps23]) ?_
  obtain ⟨hv, hw⟩ := h
  have q1 := T13_eq v hv.1
  have q2 := T13_eq w hw.1
  have q3 := T37_eq v w ⟨hv.1, hw.1⟩
  unfold sameV
  by_cases h1 : chk 0 (nodeOf v) = 0
  · have h1' : (chk 0 (nodeOf v) : Int) = 0 := by omega
    by_cases h2 : chk 0 (nodeOf w) = 0
    · have h2' : (chk 0 (nodeOf w) : Int) = 0 := by omega
      rw [sameV_eq h1 h2] at q3
      rw [h1] at q1
      rw [h2] at q2
      rcases vav_form ids v with ⟨u, x, e⟩ | e <;> rw [e] at q1 q3 ⊢ <;> rcases vav_form ids w with ⟨u', x', e'⟩ | e' <;> rw [e'] at q2 q3 ⊢ <;> simp [rc23, rs23, q1, q2, q3, h1, h2]
    · have h2' : ¬ (chk 0 (nodeOf w) : Int) = 0 := by omega
      rw [h1] at q1
      rcases vav_form ids v with ⟨u, x, e⟩ | e <;> rw [e] at q1 ⊢ <;> rcases vav_form ids w with ⟨u', x', e'⟩ | e' <;> rw [e'] at q2 ⊢ <;> simp [rc23, rs23, q1, q2, h1, h2, h2']
      rw [q1] at q2; simp at q2; omega
  · have h1' : ¬ (chk 0 (nodeOf v) : Int) = 0 := by omega
    rcases vav_form ids v with ⟨u, x, e⟩ | e <;> rw [e] at q1 ⊢ <;> rcases vav_form ids w with ⟨u', x', e'⟩ | e' <;> rw [e'] <;> simp [rc23, rs23, q1, h1, h1']
noncomputable def T23 : Tab := tabAdd T21 23 (fun z : Vl × Vl => z.1.small ∧ z.2.small) (fun z => [z.1.av ids, z.2.av ids]) (fun z => .bool (sameV z.1 z.2))
@[simp] theorem T23_eq (v : Vl) (w : Vl) (h : v.small ∧ w.small) : T23 23 [v.av ids, w.av ids] = some (.bool (sameV v w)) := tabAdd_eq (a := (v, w)) (vl_injV (f := fun v w => AV.bool (sameV v w))) h rfl
@[simp] theorem T23_ne {g : Nat} {xs : List AV} (h : g ≠ 23) : T23 g xs = T21 g xs := tabAdd_ne h
theorem T23_ok : Sound Try.prog T23 := tabAdd_sound T21_ok fun z h => pf23 z.1 z.2 h
theorem pf19 (v : Vl)  : PFx Try.prog 19 [v.av ids] (.tup [.str (txV v), .bool (isTx v)]) := by
  refine PFx_of_W (rc := rc19) (rs := rs19) Try.func19 rfl T23_ok hm (by kernel_rfl) (by kernel_rfl) (by simp [Try.ntmps19]) ?_
  cases v <;> simp [rc19, rs19, Vl.av, txV, isTx]
noncomputable def T19 : Tab := tabAdd T23 19 (fun _ : Vl => True) (fun z => [z.av ids]) (fun z => .tup [.str (txV z), .bool (isTx z)])
@[simp] theorem T19_eq (v : Vl)  : T19 19 [v.av ids] = some (.tup [.str (txV v), .bool (isTx v)]) := tabAdd_eq (a := v) (vl_inj1 (f := fun v => AV.tup [.str (txV v), .bool (isTx v)])) trivial rfl
@[simp] theorem T19_ne {g : Nat} {xs : List AV} (h : g ≠ 19) : T19 g xs = T23 g xs := tabAdd_ne h
theorem T19_ok : Sound Try.prog T19 := tabAdd_sound T23_ok fun z _ => pf19 z 
theorem pf20 (v : Vl)  : PFx Try.prog 20 [v.av ids] (.tup [.int .u64 (bv (nuV v)), .bool (isNu v)]) := by
  refine PFx_of_W (rc := rc20) (rs := rs20) Try.func20 rfl T19_ok hm (by kernel_rfl) (by kernel_rfl) (by simp [Try.ntmps20]) ?_
  cases v <;> simp [rc20, rs20, Vl.av, nuV, isNu, bv0]
noncomputable def T20 : Tab := tabAdd T19 20 (fun _ : Vl => True) (fun z => [z.av ids]) (fun z => .tup [.int .u64 (bv (nuV z)), .bool (isNu z)])
@[simp] theorem T20_eq (v : Vl)  : T20 20 [v.av ids] = some (.tup [.int .u64 (bv (nuV v)), .bool (isNu v)]) := tabAdd_eq (a := v) (vl_inj1 (f := fun v => AV.tup [.int .u64 (bv (nuV v)), .bool (isNu v)])) trivial rfl
@[simp] theorem T20_ne {g : Nat} {xs : List AV} (h : g ≠ 20) : T20 g xs = T19 g xs := tabAdd_ne h
theorem T20_ok : Sound Try.prog T20 := tabAdd_sound T19_ok fun z _ => pf20 z 
theorem pf24 (s : Tx)  : PFx Try.prog 24 [.ifc 9 (.str s)] (.str s) := by
  refine PFx_of_W (rc := rc24) (rs := rs24) Try.func24 rfl T20_ok hm (by kernel_rfl) (by kernel_rfl) (by simp [Try.ntmps24]) ?_
  simp [rc24, rs24]
noncomputable def T24 : Tab := tabAdd T20 24 (fun _ : Tx => True) (fun z => [.ifc 9 (.str z)]) (fun z => .str z)
@[simp] theorem T24_eq (s : Tx)  : T24 24 [.ifc 9 (.str s)] = some (.str s) := tabAdd_eq (a := s) (by simp +contextual [Int.natCast_inj]) trivial rfl
@[simp] theorem T24_ne {g : Nat} {xs : List AV} (h : g ≠ 24) : T24 g xs = T20 g xs := tabAdd_ne h
theorem T24_ok : Sound Try.prog T24 := tabAdd_sound T20_ok fun z _ => pf24 z 
theorem pf25 (n : BitVec 64)  : PFx Try.prog 25 [.ifc 22 (.int .u64 (bv n))] (.int .u64 (bv n)) := by
  refine PFx_of_W (rc := rc25) (rs := rs25) Try.func25 rfl T24_ok hm (by kernel_rfl) (by kernel_rfl) (by simp [Try.ntmps25]) ?_
  simp [rc25, rs25]
noncomputable def T25 : Tab := tabAdd T24 25 (fun _ : (BitVec 64) => True) (fun z => [.ifc 22 (.int .u64 (bv z))]) (fun z => .int .u64 (bv z))
@[simp] theorem T25_eq (n : BitVec 64)  : T25 25 [.ifc 22 (.int .u64 (bv n))] = some (.int .u64 (bv n)) := tabAdd_eq (a := n) (by simp +contextual [Int.natCast_inj]) trivial rfl
@[simp] theorem T25_ne {g : Nat} {xs : List AV} (h : g ≠ 25) : T25 g xs = T24 g xs := tabAdd_ne h
theorem T25_ok : Sound Try.prog T25 := tabAdd_sound T24_ok fun z _ => pf25 z 
end Go.Proofs.Ytbikpgaiocjnoaa

