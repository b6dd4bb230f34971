/- Pieces and paths, of the program and of the document. -/
import Derived.Test.YtbinejcnoogoiaaDoorT8
set_option linter.unusedVariables false
set_option linter.unusedSimpArgs false
namespace Go.Proofs.YtbinejcnoogoiaaDoor
open Go.Proofs.YtbinejcnoogoiaaDoor.Pad Go.Proofs.YtbinejcnoogoiaaDoor.Pad.Route Go.Proofs.YtbinejcnoogoiaaDoor.Pad.Runes Go.Proofs.YtbinejcnoogoiaaDoor.Pad.Utf
/-- padlock/padlockref04.Pieces -/
def rc24 : RC :=
  (.seq
   (.reg false [⟨(some 2), .nilR 1, none⟩] [0])
   (.seq
    (.reg false [⟨(some 3), .nilR 1, none⟩] [0, 3])
    (.seq
     (.reg false [⟨(some 4), .mov (.c (.int .i64 0)), none⟩] [0, 3, 4])
     (.seq
      (.seq
       (.reg false [⟨(some 5), .mov (.c (.int .i64 0)), none⟩] [0, 3, 4, 5])
       (.block 0
        (.loop
         (.seq
          (.seq
           (.reg false [⟨(some 6), .mov (.t 5), none⟩,
             ⟨(some 7), .mov (.t 0), none⟩,
             ⟨(some 8), .len true (.t 7), none⟩,
             ⟨(some 9), .bin .leq true (.t 6) (.t 8), none⟩] [0, 3, 4, 5, 9])
           (.cond 9
            (.reg false [] [0, 3, 4, 5])
            (.seq
             (.reg false [] [3])
             (.exit 0))))
          (.seq
           (.block 1
            (.seq
             (.reg false [⟨(some 12), .mov (.t 5), none⟩,
               ⟨(some 13), .mov (.t 0), none⟩,
               ⟨(some 14), .len true (.t 13), none⟩,
               ⟨(some 15), .bin .eql true (.t 12) (.t 14), none⟩,
               ⟨(some 16), .mov (.t 15), none⟩,
               ⟨(some 17), .mov (.t 0), (some (16, false))⟩,
               ⟨(some 18), .mov (.t 5), (some (16, false))⟩,
               ⟨(some 19), .sidx (.t 17) (.t 18), (some (16, false))⟩,
               ⟨(some 20), .bin .eql false (.t 19) (.c (.int .u8 47)), (some (16, false))⟩,
               ⟨(some 21), .pick (.t 16) (.c (.bool true)) (.t 20), none⟩] [0, 3, 4, 5, 21])
             (.cond 21
              (.seq
               (.reg false [⟨(some 22), .steal 3, none⟩,
                 ⟨(some 23), .mov (.t 0), none⟩,
                 ⟨(some 24), .mov (.t 4), none⟩,
                 ⟨(some 25), .mov (.t 5), none⟩,
                 ⟨(some 26), .ssl (.t 23) (some (.t 24)) (some (.t 25)), none⟩,
                 ⟨(some 27), .mkSl 1 1 [(.str [])] [(0, 1, (.t 26))], none⟩,
                 ⟨(some 28), .app 1 16 (.t 22) (.t 27), none⟩,
                 ⟨(some 3), .steal 28, none⟩] [0, 3, 5])
               (.reg false [⟨(some 29), .mov (.t 5), none⟩,
                 ⟨(some 30), .bin .add true (.t 29) (.c (.int .i64 1)), none⟩,
                 ⟨(some 4), .mov (.t 30), none⟩] [0, 3, 4, 5]))
              (.reg false [] [0, 3, 4, 5]))))
           (.reg false [⟨(some 10), .mov (.t 5), none⟩,
             ⟨(some 11), .bin .add true (.t 10) (.c (.int .i64 1)), none⟩,
             ⟨(some 5), .mov (.t 11), none⟩] [0, 3, 4, 5]))))))
      (.seq
       (.reg false [⟨(some 31), .steal 3, none⟩,
         ⟨(some 2), .steal 31, none⟩] [2])
       .ret)))))
def rs24 : List RS := [.tmp 2]
/-- padlock/route.Check -/
def rc12 : RC :=
  (.seq
   (.reg false [⟨(some 2), .mov (.c (.int .i64 0)), none⟩] [0])
   (.seq
    (.seq
     (.reg false [⟨(some 7), .mov (.t 0), none⟩,
       ⟨(some 8), .len true (.t 7), none⟩,
       ⟨(some 9), .bin .gtr true (.t 8) (.c (.int .i64 64)), none⟩] [0, 9])
     (.cond 9
      (.seq
       (.reg false [⟨(some 2), .mov (.c (.int .i64 5)), none⟩] [2])
       .ret)
      (.reg false [] [0])))
    (.seq
     (.reg false [⟨(some 10), .mov (.t 0), none⟩,
       ⟨(some 11), .call 23 [(false, (.t 10)), (false, (.c (.str [47])))], none⟩,
       ⟨(some 3), .steal 11, none⟩] [3])
     (.seq
      (.reg false [⟨(some 4), .mov (.c (.bool false)), none⟩] [3, 4])
      (.seq
       (.seq
        (.reg false [⟨(some 12), .mov (.t 3), none⟩,
          ⟨(some 13), .len false (.t 12), none⟩,
          ⟨(some 14), .mov (.c (.int .i64 0)), none⟩] [3, 4, 12, 13, 14])
        (.block 0
         (.loop
          (.seq
           (.reg false [⟨(some 15), .bin .lss true (.t 14) (.t 13), none⟩] [3, 4, 12, 13, 14, 15])
           (.seq
            (.cond 15
             (.reg false [] [3, 4, 12, 13, 14])
             (.seq
              (.reg false [] [3, 4])
              (.exit 0)))
            (.seq
             (.block 1
              (.seq
               (.reg false [⟨(some 16), .idxA 1 (.t 12) (.t 14), none⟩,
                 ⟨(some 17), .loadP (.t 16) 1 false, none⟩,
                 ⟨(some 6), .mov (.t 17), none⟩] [3, 4, 6, 12, 13, 14])
               (.seq
                (.reg false [⟨(some 18), .mov (.t 6), none⟩,
                  ⟨(some 19), .call 10 [(false, (.t 18))], none⟩] [3, 4, 12, 13, 14, 19])
                (.block 2
                 (.seq
                  (.reg false [⟨(some 21), .bin .eql true (.t 19) (.c (.int .i64 4)), none⟩,
                    ⟨(some 20), .mov (.t 21), none⟩] [3, 4, 12, 13, 14, 19, 20])
                  (.cond 20
                   (.seq
                    (.reg false [⟨(some 2), .mov (.c (.int .i64 4)), none⟩] [2])
                    .ret)
                   (.seq
                    (.reg false [⟨(some 23), .bin .eql true (.t 19) (.c (.int .i64 5)), none⟩,
                      ⟨(some 22), .mov (.t 23), none⟩] [3, 4, 12, 13, 14, 22])
                    (.cond 22
                     (.reg false [⟨(some 4), .mov (.c (.bool true)), none⟩] [3, 4, 12, 13, 14])
                     (.reg false [] [3, 4, 12, 13, 14])))))))))
             (.reg false [⟨(some 24), .bin .add true (.t 14) (.c (.int .i64 1)), none⟩,
               ⟨(some 14), .mov (.t 24), none⟩] [3, 4, 12, 13, 14])))))))
       (.seq
        (.seq
         (.reg false [⟨(some 25), .mov (.t 4), none⟩] [3, 25])
         (.cond 25
          (.seq
           (.reg false [⟨(some 2), .mov (.c (.int .i64 5)), none⟩] [2])
           .ret)
          (.reg false [] [3])))
        (.seq
         (.seq
          (.reg false [⟨(some 26), .mov (.t 3), none⟩,
            ⟨(some 27), .len false (.t 26), none⟩,
            ⟨(some 28), .bin .gtr true (.t 27) (.c (.int .i64 6)), none⟩] [28])
          (.cond 28
           (.seq
            (.reg false [⟨(some 2), .mov (.c (.int .i64 24)), none⟩] [2])
            .ret)
           (.reg false [] [])))
         (.seq
          (.reg false [⟨(some 2), .mov (.c (.int .i64 0)), none⟩] [2])
          .ret))))))))
def rs12 : List RS := [.tmp 2]
/-- padlock/padlockref04.Check -/
def rc13 : RC :=
  (.seq
   (.reg false [⟨(some 2), .mov (.c (.int .i64 0)), none⟩] [0])
   (.seq
    (.seq
     (.reg false [⟨(some 7), .mov (.t 0), none⟩,
       ⟨(some 8), .len true (.t 7), none⟩,
       ⟨(some 9), .bin .gtr true (.t 8) (.c (.int .i64 64)), none⟩] [0, 9])
     (.cond 9
      (.seq
       (.reg false [⟨(some 2), .mov (.c (.int .i64 5)), none⟩] [2])
       .ret)
      (.reg false [] [0])))
    (.seq
     (.reg false [⟨(some 10), .mov (.t 0), none⟩,
       ⟨(some 11), .call 24 [(false, (.t 10))], none⟩,
       ⟨(some 3), .steal 11, none⟩] [3])
     (.seq
      (.reg false [⟨(some 4), .mov (.c (.bool false)), none⟩] [3, 4])
      (.seq
       (.seq
        (.reg false [⟨(some 5), .mov (.c (.int .i64 0)), none⟩] [3, 4, 5])
        (.block 0
         (.loop
          (.seq
           (.seq
            (.reg false [⟨(some 12), .mov (.t 5), none⟩,
              ⟨(some 13), .mov (.t 3), none⟩,
              ⟨(some 14), .len false (.t 13), none⟩,
              ⟨(some 15), .bin .lss true (.t 12) (.t 14), none⟩] [3, 4, 5, 15])
            (.cond 15
             (.reg false [] [3, 4, 5])
             (.seq
              (.reg false [] [3, 4])
              (.exit 0))))
           (.seq
            (.block 1
             (.seq
              (.reg false [⟨(some 18), .mov (.t 3), none⟩,
                ⟨(some 19), .mov (.t 5), none⟩,
                ⟨(some 20), .idxA 1 (.t 18) (.t 19), none⟩,
                ⟨(some 21), .loadP (.t 20) 1 false, none⟩,
                ⟨(some 22), .call 11 [(false, (.t 21))], none⟩,
                ⟨(some 6), .mov (.t 22), none⟩] [3, 4, 5, 6])
              (.seq
               (.seq
                (.reg false [⟨(some 23), .mov (.t 6), none⟩,
                  ⟨(some 24), .bin .eql true (.t 23) (.c (.int .i64 4)), none⟩] [3, 4, 5, 6, 24])
                (.cond 24
                 (.seq
                  (.reg false [⟨(some 2), .mov (.c (.int .i64 4)), none⟩] [2])
                  .ret)
                 (.reg false [] [3, 4, 5, 6])))
               (.reg false [⟨(some 25), .mov (.t 4), none⟩,
                 ⟨(some 26), .mov (.t 25), none⟩,
                 ⟨(some 27), .mov (.t 6), (some (26, false))⟩,
                 ⟨(some 28), .bin .eql true (.t 27) (.c (.int .i64 5)), (some (26, false))⟩,
                 ⟨(some 29), .pick (.t 26) (.c (.bool true)) (.t 28), none⟩,
                 ⟨(some 4), .mov (.t 29), none⟩] [3, 4, 5]))))
            (.reg false [⟨(some 16), .mov (.t 5), none⟩,
              ⟨(some 17), .bin .add true (.t 16) (.c (.int .i64 1)), none⟩,
              ⟨(some 5), .mov (.t 17), none⟩] [3, 4, 5]))))))
       (.seq
        (.seq
         (.reg false [⟨(some 30), .mov (.t 4), none⟩] [3, 30])
         (.cond 30
          (.seq
           (.reg false [⟨(some 2), .mov (.c (.int .i64 5)), none⟩] [2])
           .ret)
          (.reg false [] [3])))
        (.seq
         (.seq
          (.reg false [⟨(some 31), .mov (.t 3), none⟩,
            ⟨(some 32), .len false (.t 31), none⟩,
            ⟨(some 33), .bin .gtr true (.t 32) (.c (.int .i64 6)), none⟩] [33])
          (.cond 33
           (.seq
            (.reg false [⟨(some 2), .mov (.c (.int .i64 24)), none⟩] [2])
            .ret)
           (.reg false [] [])))
         (.seq
          (.reg false [⟨(some 2), .mov (.c (.int .i64 0)), none⟩] [2])
          .ret))))))))
def rs13 : List RS := [.tmp 2]
/-- padlock/route.Parts -/
def rc19 : RC :=
  (.seq
   (.reg false [⟨(some 2), .nilR 1, none⟩,
     ⟨(some 3), .mov (.c (.int .i64 0)), none⟩] [0])
   (.seq
    (.seq
     (.reg false [⟨(some 5), .mov (.t 0), none⟩,
       ⟨(some 6), .call 12 [(false, (.t 5))], none⟩,
       ⟨(some 4), .mov (.t 6), none⟩] [0, 4])
     (.seq
      (.reg false [⟨(some 7), .mov (.t 4), none⟩,
        ⟨(some 8), .bin .neq true (.t 7) (.c (.int .i64 0)), none⟩] [0, 4, 8])
      (.cond 8
       (.seq
        (.reg false [⟨(some 9), .mov (.t 4), none⟩,
          ⟨(some 2), .nilR 1, none⟩,
          ⟨(some 3), .mov (.t 9), none⟩] [2, 3])
        .ret)
       (.reg false [] [0]))))
    (.seq
     (.reg false [⟨(some 10), .mov (.t 0), none⟩,
       ⟨(some 11), .call 28 [(false, (.t 10))], none⟩,
       ⟨(some 12), .call 23 [(false, (.t 11)), (false, (.c (.str [47])))], none⟩,
       ⟨(some 2), .steal 12, none⟩,
       ⟨(some 3), .mov (.c (.int .i64 0)), none⟩] [2, 3])
     .ret)))
def rs19 : List RS := [.tmp 2, .tmp 3]
/-- padlock/route.Join -/
def rc20 : RC :=
  (.seq
   (.reg false [⟨(some 2), .mov (.c (.str [])), none⟩,
     ⟨(some 3), .mov (.c (.int .i64 0)), none⟩] [0])
   (.seq
    (.seq
     (.reg false [⟨(some 8), .mov (.t 0), none⟩,
       ⟨(some 9), .len false (.t 8), none⟩,
       ⟨(some 10), .bin .eql true (.t 9) (.c (.int .i64 0)), none⟩] [0, 10])
     (.cond 10
      (.seq
       (.reg false [⟨(some 2), .mov (.c (.str [])), none⟩,
         ⟨(some 3), .mov (.c (.int .i64 4)), none⟩] [2, 3])
       .ret)
      (.reg false [] [0])))
    (.seq
     (.seq
      (.reg false [⟨(some 11), .mov (.t 0), none⟩,
        ⟨(some 12), .len false (.t 11), none⟩,
        ⟨(some 13), .mov (.c (.int .i64 0)), none⟩] [0, 11, 12, 13])
      (.block 0
       (.loop
        (.seq
         (.reg false [⟨(some 14), .bin .lss true (.t 13) (.t 12), none⟩] [0, 11, 12, 13, 14])
         (.seq
          (.cond 14
           (.reg false [] [0, 11, 12, 13])
           (.seq
            (.reg false [] [0])
            (.exit 0)))
          (.seq
           (.block 1
            (.seq
             (.reg false [⟨(some 15), .idxA 1 (.t 11) (.t 13), none⟩,
               ⟨(some 16), .loadP (.t 15) 1 false, none⟩,
               ⟨(some 5), .mov (.t 16), none⟩] [0, 5, 11, 12, 13])
             (.seq
              (.reg false [⟨(some 17), .mov (.t 5), none⟩,
                ⟨(some 18), .call 29 [(false, (.t 17)), (false, (.c (.str [47])))], none⟩] [0, 11, 12, 13, 18])
              (.cond 18
               (.seq
                (.reg false [⟨(some 2), .mov (.c (.str [])), none⟩,
                  ⟨(some 3), .mov (.c (.int .i64 4)), none⟩] [2, 3])
                .ret)
               (.reg false [] [0, 11, 12, 13])))))
           (.reg false [⟨(some 19), .bin .add true (.t 13) (.c (.int .i64 1)), none⟩,
             ⟨(some 13), .mov (.t 19), none⟩] [0, 11, 12, 13])))))))
     (.seq
      (.reg false [⟨(some 20), .mov (.t 0), none⟩,
        ⟨(some 21), .call 30 [(false, (.t 20)), (false, (.c (.str [47])))], none⟩,
        ⟨(some 6), .mov (.t 21), none⟩] [6])
      (.seq
       (.seq
        (.reg false [⟨(some 22), .mov (.t 6), none⟩,
          ⟨(some 23), .call 12 [(false, (.t 22))], none⟩,
          ⟨(some 7), .mov (.t 23), none⟩] [6, 7])
        (.seq
         (.reg false [⟨(some 24), .mov (.t 7), none⟩,
           ⟨(some 25), .bin .neq true (.t 24) (.c (.int .i64 0)), none⟩] [6, 7, 25])
         (.cond 25
          (.seq
           (.reg false [⟨(some 26), .mov (.t 7), none⟩,
             ⟨(some 2), .mov (.c (.str [])), none⟩,
             ⟨(some 3), .mov (.t 26), none⟩] [2, 3])
           .ret)
          (.reg false [] [6]))))
       (.seq
        (.reg false [⟨(some 27), .mov (.t 6), none⟩,
          ⟨(some 28), .call 28 [(false, (.t 27))], none⟩,
          ⟨(some 2), .mov (.t 28), none⟩,
          ⟨(some 3), .mov (.c (.int .i64 0)), none⟩] [2, 3])
        .ret))))))
def rs20 : List RS := [.tmp 2, .tmp 3]
theorem mid_snoc (l : List UInt8) (a i : Nat) (h : a ≤ i) (hi : i < l.length) : (l.take (i + 1)).drop a = (l.take i).drop a ++ [l[i]] := by
  rw [List.take_add_one, List.getElem?_eq_getElem hi]
  rw [List.drop_append]
  simp
  rw [show a - min i l.length = 0 by omega]
  rfl
theorem cut_at (l : List UInt8) (a i : Nat) (h : a ≤ i) (hi : i < l.length) : l.drop a = (l.take i).drop a ++ l[i] :: l.drop (i + 1) := by
  conv => lhs; rw [← List.take_append_drop i l]
  rw [List.drop_append]
  simp only [List.length_take]
  rw [show a - min i l.length = 0 by omega, List.drop_zero, List.drop_eq_getElem_cons hi]
theorem pf24 (l : List UInt8) (h : l.length ≤ 1000000) : PFx Tryd.prog 24 [.str l] (.row 1 ((pieces l).map .str) (pieces l).length) := by
  refine PFx_of_W (rc := rc24) (rs := rs24) Tryd.func24 rfl T17_ok hm (by kernel_rfl) (by kernel_rfl) (by simp [Tryd.ntmps24]) ?_
  simp [rc24, rs24]
  refine W_varU (fun p : Nat × Nat × List (List UInt8) => p.2.2.length ≤ p.1 ∧ ((p.1 ≤ l.length ∧ p.2.1 ≤ p.1 ∧ 47 ∉ (l.take p.1).drop p.2.1 ∧ p.2.2 ++ pieces (l.drop p.2.1) = pieces l) ∨ (p.1 = l.length + 1 ∧ p.2.1 ≤ p.1 ∧ p.2.2 = pieces l))) (fun p => l.length + 1 - p.1)
    (fun p => [(3, .row 1 (p.2.2.map .str) p.2.2.length), (4, .int .i64 p.2.1), (5, .int .i64 p.1)]) (0, 0, []) ⟨by simp, .inl ⟨by simp, by simp, by simp, by simp⟩⟩ (by simp) (fun p hp => ?_)
  obtain ⟨i, a, out⟩ := p
  obtain ⟨h0, hp⟩ := hp
  simp only at h0 hp
  rcases hp with ⟨h1, h2, h3, h4⟩ | ⟨h1, h2, h3⟩
  · have h1' : (i : Int) ≤ l.length := by omega
    by_cases hl : i < l.length
    · have hne : ¬ (i : Int) = l.length := by omega
      have hne' : ¬ i = l.length := by omega
      by_cases hs : l[i] = 47
      · have hs' : (l[i].toNat : Int) = 47 := by rw [hs]; rfl
        simp [h1', hne, hne', hl, hs, hs']
        have hc := cut_at l a i h2 hl
        rw [hs] at hc
        rw [hc, pieces_app _ _ h3] at h4
        refine ⟨by omega, by omega, by omega, i + 1, i + 1, out ++ [(l.take i).drop a], ?_, by omega, by simp, by simp⟩
        refine ⟨by simp; omega, .inl ⟨by omega, by omega, ?_, by simpa using h4⟩⟩
        rw [List.drop_eq_nil_of_le (by simp; omega)]; simp
      · have hs' : ¬ (l[i].toNat : Int) = 47 := fun e => hs (UInt8.toNat_inj.1 (show l[i].toNat = 47 by omega))
        simp [h1', hne, hne', hl, hs, hs']
        refine ⟨by omega, i + 1, a, out, ?_, by omega, by simp, by simp⟩
        refine ⟨by omega, .inl ⟨by omega, by omega, ?_, h4⟩⟩
        rw [mid_snoc l a i h2 hl]
        simp only [List.mem_append, List.mem_singleton, not_or]
        exact ⟨h3, fun e => hs e.symm⟩
    · have he : i = l.length := by omega
      subst he
      simp
      rw [List.take_length] at h3
      rw [pieces_no _ h3] at h4
      refine ⟨by omega, by omega, by omega, l.length + 1, l.length + 1, out ++ [l.drop a], ?_, by omega, by simp, by simp⟩
      exact ⟨by simp; omega, .inr ⟨rfl, by omega, h4⟩⟩
  · subst h1
    have h1' : ¬ ((l.length : Int) + 1 ≤ l.length) := by omega
    simp [h1', h3]
noncomputable def T24 : Tab := tabAdd T17 24 (fun z : (List UInt8) => z.length ≤ 1000000) (fun z => [.str z]) (fun z => .row 1 ((pieces z).map .str) (pieces z).length)
@[simp] theorem T24_eq (l : List UInt8) (h : l.length ≤ 1000000) : T24 24 [.str l] = some (.row 1 ((pieces l).map .str) (pieces l).length) := tabAdd_eq (a := l) (by simp +contextual [Int.natCast_inj]) h rfl
@[simp] theorem T24_ne {g : Nat} {xs : List AV} (h : g ≠ 24) : T24 g xs = T17 g xs := tabAdd_ne h
theorem T24_ok : Sound Tryd.prog T24 := tabAdd_sound T17_ok fun z h => pf24 z h
end Go.Proofs.YtbinejcnoogoiaaDoor

